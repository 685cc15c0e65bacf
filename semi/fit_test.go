package semi_test

import (
	"math/rand"
	"testing"

	"semi/semi"
)

// table is the document's table: what an opcode takes and gives. n number, a record type A, f field B's type, l local A's type,
// F all fields of A, P the arguments of function A, r its result, R the function's own result.
var table = [19]struct{ takes, gives string }{
	push: {"", "n"}, add: {"nn", "n"}, sub: {"nn", "n"}, mul: {"nn", "n"}, less: {"nn", "n"},
	load: {"", "l"}, store: {"l", ""}, newRec: {"F", "a"}, get: {"a", "f"}, set: {"af", ""},
	null: {"", "a"}, is: {"a", "n"}, same: {"aa", "n"}, jump: {"", ""}, zero: {"n", ""},
	call: {"P", "r"}, ret: {"R", ""}, put: {"n", ""}, read: {"", "n"},
}

// spell writes a table's entry out as types.
func spell(p semi.Prog, f semi.Func, n semi.Ins, word string) []int {
	var list []int
	for _, letter := range word {
		switch letter {
		case 'n':
			list = append(list, number)
		case 'a':
			list = append(list, n.A)
		case 'f':
			list = append(list, p.Types[n.A-1][n.B])
		case 'l':
			list = append(list, f.Locals[n.A])
		case 'F':
			list = append(list, p.Types[n.A-1]...)
		case 'P':
			list = append(list, p.Funcs[n.A].Locals[:p.Funcs[n.A].Args]...)
		case 'r':
			list = append(list, p.Funcs[n.A].Result)
		case 'R':
			list = append(list, f.Result)
		}
	}
	return list
}

func join(lists ...[]int) []int {
	var all []int
	for _, l := range lists {
		all = append(all, l...)
	}
	return all
}

// laying is the code that lays values of these types on the stack.
func laying(types []int) []semi.Ins {
	var code []semi.Ins
	for _, t := range types {
		if t == number {
			code = append(code, op(push, 9))
		} else {
			code = append(code, op(null, t))
		}
	}
	return code
}

// world is a program whose function 1 has this code: there a result other than a number can stand.
func world(result int, code []semi.Ins) semi.Prog {
	rest := []semi.Ins{op(jump)}
	return semi.Prog{
		Types: [][]int{{0, 2, 1}, nil, {3, 0, 0, 1, 2}},
		Funcs: []semi.Func{
			{Code: rest},
			{Args: 1, Locals: []int{1, 0, 3}, Result: result, Code: code},
			{Args: 4, Locals: []int{2, 0, 3, 0, 1}, Result: 3, Code: rest},
			{Result: 2, Code: rest},
			{Args: 2, Locals: []int{0, 1}, Result: 0, Code: rest},
		},
	}
}

// everyIns lists the instructions that can stand in world, one or more for each opcode but Ret.
func everyIns() []semi.Ins {
	list := []semi.Ins{op(push), op(push, 255), op(add), op(sub), op(mul), op(less), op(put), op(read)}
	for a := range 3 {
		list = append(list, op(load, a), op(store, a), op(newRec, a+1), op(null, a+1), op(is, a+1), op(same, a+1))
	}
	for b := range 3 {
		list = append(list, op(get, 1, b), op(set, 1, b))
	}
	for b := range 5 {
		list = append(list, op(get, 3, b), op(set, 3, b))
	}
	for a := range 5 {
		list = append(list, op(call, a))
	}
	return list
}

// behind is world's image with these values laid, the instruction, and a place at which any stack is right; and that place.
func behind(stack []int, n semi.Ins) (string, int) {
	code := append(laying(stack), n)
	at := len(code)
	code = append(code, op(jump, at))
	return imageOf(world(0, code)), at
}

func wantStack(t *testing.T, image string, f, i int, want []int) {
	t.Helper()
	if l, e := semi.Stack(image, f, i); e != semi.OK || !equalLists(l, want) {
		t.Errorf("Stack(%.80q, %d, %d) = %v, %d, want %v", image, f, i, l, e, want)
	}
}

// P3, P6: every instruction with what it must find, on nothing and on other values.
func TestTable(t *testing.T) {
	for _, n := range everyIns() {
		p := world(0, nil)
		takes := spell(p, p.Funcs[1], n, table[n.Op].takes)
		gives := spell(p, p.Funcs[1], n, table[n.Op].gives)
		for _, below := range [][]int{nil, {0}, {2}, {3, 0, 1}} {
			image, at := behind(join(below, takes), n)
			wantFit(t, image)
			wantStack(t, image, 1, at-1, join(below, takes))
			wantStack(t, image, 1, at, join(below, gives))
		}
	}
}

// P3: every instruction with one wrong value among what it must find, one too few, or two that change places.
func TestTableWrong(t *testing.T) {
	for _, n := range everyIns() {
		p := world(0, nil)
		takes := spell(p, p.Funcs[1], n, table[n.Op].takes)
		for k := range takes {
			for other := range 4 {
				wrong := join(takes)
				wrong[k] = other
				image, _ := behind(wrong, n)
				if other == takes[k] {
					wantFit(t, image)
				} else {
					wantError(t, image, semi.ErrType, 1)
				}
			}
			image, _ := behind(takes[k+1:], n)
			wantError(t, image, semi.ErrType, 1)
			if k > 0 && takes[k] != takes[k-1] {
				wrong := join(takes)
				wrong[k-1], wrong[k] = takes[k], takes[k-1]
				image, _ = behind(wrong, n)
				wantError(t, image, semi.ErrType, 1)
			}
		}
	}
}

// P3: a stack of MaxStack values, and one more, left by every instruction that leaves more than it finds.
func TestFullStack(t *testing.T) {
	for _, n := range everyIns() {
		p := world(0, nil)
		takes := spell(p, p.Funcs[1], n, table[n.Op].takes)
		gives := spell(p, p.Funcs[1], n, table[n.Op].gives)
		most := 8 - max(len(takes), len(gives))
		image, at := behind(join(make([]int, most), takes), n)
		wantFit(t, image)
		wantStack(t, image, 1, at, join(make([]int, most), gives))
		image, _ = behind(join(make([]int, most+1), takes), n)
		wantError(t, image, semi.ErrType, 1)
	}
}

// P3: Ret finds the result type alone.
func TestRet(t *testing.T) {
	for result := range 4 {
		for given := range 4 {
			image := imageOf(world(result, append(laying([]int{given}), op(ret))))
			if given == result {
				wantFit(t, image)
				wantStack(t, image, 1, 1, []int{given})
			} else {
				wantError(t, image, semi.ErrType, 1)
			}
			wantError(t, imageOf(world(result, append(laying([]int{given, result}), op(ret)))), semi.ErrType, 1)
		}
		wantError(t, imageOf(world(result, []semi.Ins{op(ret)})), semi.ErrType, 1)
		wantError(t, imageOf(world(result, append(laying([]int{result, result}), op(ret)))), semi.ErrType, 1)
	}
}

// P3: none goes on behind the last instruction, unless it is never come to.
func TestBehindTheLast(t *testing.T) {
	for _, n := range append(everyIns(), op(zero, 0)) {
		p := world(0, nil)
		takes := spell(p, p.Funcs[1], n, table[n.Op].takes)
		wantError(t, imageOf(world(0, append(laying(takes), n))), semi.ErrType, 1)
		image := imageOf(world(0, []semi.Ins{op(jump), n}))
		wantFit(t, image)
		if l, e := semi.Stack(image, 1, 1); l != nil || e != semi.ErrNone {
			t.Errorf("Stack of what is never come to = %v, %d", l, e)
		}
	}
	wantFit(t, imageOf(only(op(jump))))
	wantError(t, imageOf(only(op(read), op(zero, 0))), semi.ErrType, 0)
}

// flow is a function's code, whether it fits, and the stacks of its instructions.
type flow struct {
	code   []semi.Ins
	fits   bool
	stacks [][]int // nil: never come to
}

func flows() []flow {
	none := []int{}
	one := []int{0}
	return []flow{
		{[]semi.Ins{op(read), op(zero, 0), op(read), op(ret)}, true, [][]int{none, one, none, one}},
		{[]semi.Ins{op(read), op(zero, 3), op(jump, 0), op(push, 1), op(ret)}, true, [][]int{none, one, none, none, one}},
		{[]semi.Ins{op(jump, 2), op(add), op(read), op(ret)}, true, [][]int{none, nil, none, one}},
		{[]semi.Ins{op(jump, 3), op(ret), op(jump, 1), op(read), op(jump, 1)}, true, [][]int{none, one, nil, none, one}},
		{[]semi.Ins{op(read), op(ret), op(ret), op(add), op(zero, 0)}, true, [][]int{none, one, nil, nil, nil}},
		// two ways to one instruction, with stacks of two lengths
		{[]semi.Ins{op(read), op(jump, 0)}, false, nil},
		{[]semi.Ins{op(read), op(read), op(zero, 0), op(ret)}, false, nil},
		{[]semi.Ins{op(read), op(zero, 3), op(push, 1), op(push, 1), op(ret)}, false, nil},
		{[]semi.Ins{op(read), op(zero, 3), op(push, 1), op(ret)}, false, nil},
		// and of one length, but other types
		{[]semi.Ins{op(read), op(zero, 4), op(null, 1), op(jump, 5), op(null, 2), op(jump, 5)}, false, nil},
		{[]semi.Ins{op(read), op(zero, 4), op(null, 1), op(jump, 5), op(null, 1), op(jump, 5)}, true, [][]int{none, one, none, {1}, none, {1}}},
		{[]semi.Ins{op(read), op(zero, 4), op(push, 1), op(jump, 5), op(null, 1), op(jump, 5)}, false, nil},
		// a fault only the jump's way, or only the other way
		{[]semi.Ins{op(read), op(zero, 4), op(read), op(ret), op(ret)}, false, nil},
		{[]semi.Ins{op(read), op(zero, 3), op(ret), op(read), op(ret)}, false, nil},
		// a fault that is come to late, by a jump back
		{[]semi.Ins{op(jump, 3), op(add), op(jump, 5), op(read), op(jump, 1), op(ret)}, false, nil},
	}
}

// P3, P6: where a run can go on, and the stack it has there.
func TestFlows(t *testing.T) {
	for k, c := range flows() {
		p := world(0, c.code)
		if !c.fits {
			wantError(t, imageOf(p), semi.ErrType, 1)
			continue
		}
		wantFit(t, imageOf(p))
		for i, want := range c.stacks {
			l, e := semi.Stack(imageOf(p), 1, i)
			if want == nil && (l != nil || e != semi.ErrNone) {
				t.Errorf("flow %d: Stack at %d = %v, %d, want ErrNone", k, i, l, e)
			}
			if want != nil && (!equalLists(l, want) || e != semi.OK) {
				t.Errorf("flow %d: Stack at %d = %v, %d, want %v", k, i, l, e, want)
			}
		}
	}
}

// P3: the place is the first function that does not fit.
func TestFirstThatDoesNotFit(t *testing.T) {
	for mask := range 64 {
		var p semi.Prog
		first := -1
		for f := range 6 {
			code := []semi.Ins{op(read), op(ret)}
			if mask>>f&1 == 1 {
				code = []semi.Ins{op(ret)}
				if first < 0 {
					first = f
				}
			}
			p.Funcs = append(p.Funcs, semi.Func{Code: code})
		}
		if first < 0 {
			wantFit(t, imageOf(p))
		} else {
			wantError(t, imageOf(p), semi.ErrType, first)
		}
	}
}

// P3: ErrImage goes ahead of ErrType, though the fault stands behind the function that does not fit.
func TestImageAheadOfType(t *testing.T) {
	p := semi.Prog{Funcs: []semi.Func{{Code: []semi.Ins{op(ret)}}, {Code: []semi.Ins{op(19)}}}}
	wantError(t, imageOf(p), semi.ErrImage, 13)
	p.Funcs[1].Code[0].Op = ret
	wantError(t, imageOf(p), semi.ErrType, 0)
}

// P6: functions and instructions that there are, and that there are not.
func TestStackRange(t *testing.T) {
	p := semi.Prog{Funcs: []semi.Func{{Code: []semi.Ins{op(read), op(ret)}}, {Code: []semi.Ins{op(jump), op(ret), op(ret)}}}}
	image := imageOf(p)
	off := []int{leastInt, -65536, -3, -2, -1, 0, 1, 2, 3, 4, 6, 64, 256, 65536, 1 << 32, greatestInt}
	for _, f := range off {
		for _, i := range off {
			want := semi.ErrRange
			if f == 0 && (i == 0 || i == 1) || f == 1 && i == 0 {
				want = semi.OK
			}
			if f == 1 && (i == 1 || i == 2) {
				want = semi.ErrNone
			}
			l, e := semi.Stack(image, f, i)
			if e != want || e != semi.OK && l != nil {
				t.Errorf("Stack(.., %d, %d) = %v, %d, want %d", f, i, l, e, want)
			}
		}
	}
}

// walk goes every way through a function, by the document's words. It tells whether it fits, and the stacks.
func walk(p semi.Prog, f semi.Func) (bool, map[int][]int) {
	type step struct {
		at    int
		stack []int
	}
	seen := map[int][]int{}
	todo := []step{{0, []int{}}}
	for len(todo) > 0 {
		s := todo[len(todo)-1]
		todo = todo[:len(todo)-1]
		if s.at == len(f.Code) || len(s.stack) > 8 {
			return false, nil
		}
		if was, ok := seen[s.at]; ok {
			if !equalLists(was, s.stack) {
				return false, nil
			}
			continue
		}
		seen[s.at] = s.stack
		n := f.Code[s.at]
		left := join(s.stack)
		takes := spell(p, f, n, table[n.Op].takes)
		for k := len(takes) - 1; k >= 0; k-- {
			if len(left) == 0 || left[len(left)-1] != takes[k] {
				return false, nil
			}
			left = left[:len(left)-1]
		}
		left = join(left, spell(p, f, n, table[n.Op].gives))
		switch n.Op {
		case ret:
			if len(left) > 0 {
				return false, nil
			}
		case jump:
			todo = append(todo, step{n.A, left})
		case zero:
			todo = append(todo, step{n.A, left}, step{s.at + 1, left})
		default:
			todo = append(todo, step{s.at + 1, left})
		}
	}
	return true, seen
}

// P3, P6: many programs, against a walk along every way.
func TestAgainstWalk(t *testing.T) {
	g := rand.New(rand.NewSource(2))
	fitting, not, never := 0, 0, 0
	for range 3000 {
		p := randomProg(g)
		image := imageOf(p)
		if len(image) > 800 {
			continue
		}
		bad := -1
		var all []map[int][]int
		for k, f := range p.Funcs {
			ok, stacks := walk(p, f)
			all = append(all, stacks)
			if !ok && bad < 0 {
				bad = k
			}
		}
		if bad >= 0 {
			not++
			wantError(t, image, semi.ErrType, bad)
			continue
		}
		fitting++
		wantFit(t, image)
		for k, f := range p.Funcs {
			for i := range f.Code {
				want, come := all[k][i]
				if come {
					wantStack(t, image, k, i, want)
				} else if l, e := semi.Stack(image, k, i); l != nil || e != semi.ErrNone {
					t.Errorf("Stack(%q, %d, %d) = %v, %d, want ErrNone", image, k, i, l, e)
				} else {
					never++
				}
			}
		}
	}
	if fitting < 500 || not < 500 || never < 500 {
		t.Errorf("the programs are too much alike: %d fit, %d do not, %d instructions are never come to", fitting, not, never)
	}
}
