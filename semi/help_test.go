package semi_test

import (
	"reflect"
	"strings"
	"testing"

	"semi/semi"
)

// The opcodes, as DOC.md numbers them.
const (
	push = iota
	add
	sub
	mul
	less
	load
	store
	newRec
	get
	set
	null
	is
	same
	jump
	zero
	call
	ret
	put
	read
)

// number is the type of a number.
const number = 0

const (
	greatestInt = int(^uint(0) >> 1)
	leastInt    = -greatestInt - 1
)

// raw is a text of these bytes.
func raw(numbers ...int) string {
	text := make([]byte, len(numbers))
	for k, n := range numbers {
		text[k] = byte(n)
	}
	return string(text)
}

// op is an instruction with the operands that are given, the others being 0.
func op(code int, operands ...int) semi.Ins {
	n := semi.Ins{Op: code}
	if len(operands) > 0 {
		n.A = operands[0]
	}
	if len(operands) > 1 {
		n.B = operands[1]
	}
	return n
}

// only is a program of one function without locals.
func only(code ...semi.Ins) semi.Prog {
	return semi.Prog{Funcs: []semi.Func{{Code: code}}}
}

// imageOf lays a program down by the document's words, whatever it holds.
func imageOf(p semi.Prog) string {
	var b strings.Builder
	put := func(n int) { b.WriteByte(byte(n)) }
	puts := func(list []int) {
		for _, n := range list {
			put(n)
		}
	}
	put(len(p.Types))
	for _, fields := range p.Types {
		put(len(fields))
		puts(fields)
	}
	put(len(p.Funcs))
	for _, f := range p.Funcs {
		put(f.Args)
		put(len(f.Locals))
		puts(f.Locals)
		put(f.Result)
		put(len(f.Code))
		for _, n := range f.Code {
			puts([]int{n.Op, n.A, n.B})
		}
	}
	return b.String()
}

func copyProg(p semi.Prog) semi.Prog {
	var q semi.Prog
	for _, fields := range p.Types {
		q.Types = append(q.Types, append([]int(nil), fields...))
	}
	for _, f := range p.Funcs {
		f.Locals = append([]int(nil), f.Locals...)
		f.Code = append([]semi.Ins(nil), f.Code...)
		q.Funcs = append(q.Funcs, f)
	}
	return q
}

// equalProgs takes an empty list and none for the same.
func equalProgs(p, q semi.Prog) bool {
	return reflect.DeepEqual(copyProg(p), copyProg(q))
}

func equalLists(a, b []int) bool {
	return len(a) == len(b) && (len(a) == 0 || reflect.DeepEqual(a, b))
}

// wantError holds every call that reads an image to one error: P1's zero values, and the place where there is one.
func wantError(t *testing.T, image string, want semi.Errno, at int) {
	t.Helper()
	if e, n := semi.Check(image); e != want || n != at {
		t.Errorf("Check(%.80q) = %d, %d, want %d, %d", image, e, n, want, at)
	}
	if l, e := semi.Stack(image, 0, 0); e != want || l != nil {
		t.Errorf("Stack(%.80q, 0, 0) = %v, %d, want nil, %d", image, l, e, want)
	}
	if l, e := semi.Stack(image, -1, 99); e != want || l != nil {
		t.Errorf("Stack(%.80q, -1, 99) = %v, %d, want nil, %d", image, l, e, want)
	}
	wantNoRun(t, image, want, at)
	p, e, n := semi.Decode(image)
	if want == semi.ErrType {
		if e != semi.OK || n != 0 || imageOf(p) != image {
			t.Errorf("Decode(%.80q) = %v, %d, %d, want a program", image, p, e, n)
		}
		return
	}
	if e != want || n != at || !reflect.DeepEqual(p, semi.Prog{}) {
		t.Errorf("Decode(%.80q) = %v, %d, %d, want none, %d, %d", image, p, e, n, want, at)
	}
}

// wantNoRun holds the calls about runs to an image's error, whatever else is wrong.
func wantNoRun(t *testing.T, image string, want semi.Errno, at int) {
	t.Helper()
	for _, n := range []int{0, -1} {
		if l, e, place := semi.Start(image, n, 1); e != want || place != at || l != nil {
			t.Errorf("Start(%.80q, %d, 1) = %v, %d, %d, want nil, %d, %d", image, n, l, e, place, want, at)
		}
		if r, e := semi.Go(image, nil, nil, n); e != want || !reflect.DeepEqual(r, semi.Round{}) {
			t.Errorf("Go(%.80q, nil, nil, %d) = %v, %d, want none, %d", image, n, r, e, want)
		}
	}
	for _, list := range [][]int{nil, {0}, make([]int, 99)} {
		if l, e := semi.Pack(image, list); e != want || l != nil {
			t.Errorf("Pack(%.80q, %v) = %v, %d, want nil, %d", image, list, l, e, want)
		}
		if n, e := semi.Live(image, list); e != want || n != 0 {
			t.Errorf("Live(%.80q, %v) = %d, %d, want 0, %d", image, list, n, e, want)
		}
	}
}

// wantFit holds an image to be a program's whose functions fit.
func wantFit(t *testing.T, image string) {
	t.Helper()
	if e, at := semi.Check(image); e != semi.OK || at != 0 {
		t.Errorf("Check(%.80q) = %d, %d, want 0, 0", image, e, at)
	}
	wantProg(t, image)
}

// wantProg holds an image to be a program's.
func wantProg(t *testing.T, image string) {
	t.Helper()
	p, e, at := semi.Decode(image)
	if e != semi.OK || at != 0 || imageOf(p) != image {
		t.Errorf("Decode(%.80q) = %v, %d, %d, want a program", image, p, e, at)
	}
	if s, e := semi.Encode(p); e != semi.OK || s != image {
		t.Errorf("Encode(Decode(%.80q)) = %.80q, %d", image, s, e)
	}
}
