package semi_test

import (
	"go/ast"
	"go/parser"
	"go/token"
	"os"
	"strings"
	"testing"
)

// parsed reads the package's Go files, without the tests.
func parsed(t *testing.T) (*token.FileSet, []*ast.File) {
	set := token.NewFileSet()
	var files []*ast.File
	entries, err := os.ReadDir(".")
	if err != nil {
		t.Fatal(err)
	}
	for _, entry := range entries {
		if !strings.HasSuffix(entry.Name(), ".go") || strings.HasSuffix(entry.Name(), "_test.go") {
			continue
		}
		file, err := parser.ParseFile(set, entry.Name(), nil, parser.ParseComments)
		if err != nil {
			t.Fatal(err)
		}
		files = append(files, file)
	}
	return set, files
}

// The package keeps to the small part of Go that it is written in.
func TestLanguage(t *testing.T) {
	set, files := parsed(t)
	if len(files) == 0 {
		t.Fatal("no file was read")
	}
	for _, file := range files {
		for _, i := range file.Imports {
			if i.Path.Value != `"strconv"` && !strings.HasPrefix(i.Path.Value, `"semi/`) {
				t.Errorf("%v: imports %s", set.Position(i.Pos()), i.Path.Value)
			}
		}
		for _, d := range file.Decls {
			if g, ok := d.(*ast.GenDecl); ok && g.Tok == token.VAR {
				t.Errorf("%v: a package-level variable: let this test know if it is a table", set.Position(d.Pos()))
			}
			if f, ok := d.(*ast.FuncDecl); ok && set.Position(f.End()).Line-set.Position(f.Pos()).Line >= 40 {
				t.Errorf("%v: %s is long", set.Position(f.Pos()), f.Name.Name)
			}
		}
		ast.Inspect(file, func(n ast.Node) bool {
			if n != nil && forbidden(n) {
				t.Errorf("%v: %T", set.Position(n.Pos()), n)
			}
			return true
		})
	}
}

func forbidden(n ast.Node) bool {
	switch n := n.(type) {
	case *ast.GoStmt, *ast.DeferStmt, *ast.SelectStmt, *ast.SendStmt, *ast.ChanType, *ast.MapType, *ast.InterfaceType, *ast.FuncLit, *ast.TypeSwitchStmt, *ast.TypeAssertExpr:
		return true
	case *ast.BasicLit:
		return n.Kind == token.FLOAT || n.Kind == token.IMAG
	case *ast.FuncType:
		return n.TypeParams != nil
	case *ast.Field:
		_, ok := n.Type.(*ast.FuncType)
		return ok
	case *ast.Comment:
		return strings.HasPrefix(n.Text, "//go:")
	case *ast.Ident:
		switch n.Name {
		case "panic", "recover", "cap", "any", "error", "float32", "float64", "complex64", "complex128":
			return true
		}
	}
	return false
}
