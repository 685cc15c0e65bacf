package semi_test

import (
	"reflect"
	"strings"
	"testing"

	"semi/semi"
)

// start begins a run that must begin.
func start(t *testing.T, image string, heap, depth int) []int {
	t.Helper()
	state, e, at := semi.Start(image, heap, depth)
	if e != semi.OK || at != 0 {
		t.Fatalf("Start(%.80q, %d, %d) = %v, %d, %d", image, heap, depth, state, e, at)
	}
	wantState(t, state, heap, depth)
	return state
}

// wantState holds a list to P10.
func wantState(t *testing.T, state []int, heap, depth int) {
	t.Helper()
	if len(state) > 2*heap+20*depth+16 {
		t.Fatalf("P10: a state of %d numbers, heap %d, depth %d", len(state), heap, depth)
	}
	for _, n := range state {
		if n < 0 || n > 65535 {
			t.Fatalf("P10: %d in a state", n)
		}
	}
}

// wantRound goes on with a run and holds it to what it puts out, takes in and comes to.
func wantRound(t *testing.T, image string, state, in []int, fuel int, want semi.Round) []int {
	t.Helper()
	r, e := semi.Go(image, state, in, fuel)
	if e != semi.OK || r.Status != want.Status || r.Used != want.Used || !equalLists(r.Out, want.Out) {
		t.Fatalf("Go(%q, %v, %v, %d) = %+v, %d, want %+v", image, state, in, fuel, r, e, want)
	}
	return r.State
}

// wantRun runs a program from its start, at once.
func wantRun(t *testing.T, p semi.Prog, heap, depth int, in []int, status int, out ...int) {
	t.Helper()
	image := imageOf(p)
	want := newModel(p, heap, depth).goOn(in, 10000)
	if want.Status != status || !equalLists(want.Out, out) {
		t.Fatalf("the model differs: %+v, %d, %v", want, status, out)
	}
	wantRound(t, image, start(t, image, heap, depth), in, 10000, want)
}

// P7: the errors of Check come first, with their places; then the ranges.
func TestStartErrors(t *testing.T) {
	good := imageOf(only(op(push), op(ret)))
	for _, c := range []struct {
		image string
		e     semi.Errno
		at    int
	}{
		{strings.Repeat("\x00", 801), semi.ErrLong, 0},
		{"", semi.ErrImage, 0},
		{good + "\x00", semi.ErrImage, len(good)},
		{good[:7], semi.ErrImage, 7},
		{imageOf(semi.Prog{Funcs: []semi.Func{{Code: []semi.Ins{op(jump)}}, {Code: []semi.Ins{op(push)}}}}), semi.ErrType, 1},
	} {
		for _, heap := range []int{0, -1, 4001} {
			if l, e, at := semi.Start(c.image, heap, 1); l != nil || e != c.e || at != c.at {
				t.Errorf("P7: Start(%.40q, %d, 1) = %v, %d, %d, want %d, %d", c.image, heap, l, e, at, c.e, c.at)
			}
		}
		for _, fuel := range []int{0, -1} {
			if r, e := semi.Go(c.image, nil, nil, fuel); !reflect.DeepEqual(r, semi.Round{}) || e != c.e {
				t.Errorf("P8: Go(%.40q, nil, nil, %d) = %v, %d, want %d", c.image, fuel, r, e, c.e)
			}
		}
	}
}

// P7: the ranges of heap and depth.
func TestStartRanges(t *testing.T) {
	image := imageOf(only(op(push, 3), op(ret)))
	for _, heap := range []int{leastInt, -1, 0, 1, 3999, 4000, 4001, 65536, greatestInt} {
		for _, depth := range []int{leastInt, -1, 0, 1, 2, 63, 64, 65, 65536, greatestInt} {
			if heap >= 0 && heap <= 4000 && depth >= 1 && depth <= 64 {
				state := start(t, image, heap, depth)
				wantRound(t, image, state, nil, 2, semi.Round{Out: []int{3}, Status: 1})
				continue
			}
			if l, e, at := semi.Start(image, heap, depth); l != nil || e != semi.ErrRange || at != 0 {
				t.Errorf("P7: Start(.., %d, %d) = %v, %d, %d", heap, depth, l, e, at)
			}
		}
	}
}

// P8: the order of the errors, and the range of fuel.
func TestGoErrors(t *testing.T) {
	image := imageOf(only(op(push, 3), op(ret)))
	state := start(t, image, 9, 2)
	ended := wantRound(t, image, state, nil, 2, semi.Round{Out: []int{3}, Status: 1})
	for _, fuel := range []int{leastInt, -1, 10001, greatestInt} {
		for _, s := range [][]int{state, ended} {
			if r, e := semi.Go(image, s, nil, fuel); e != semi.ErrRange || !reflect.DeepEqual(r, semi.Round{}) {
				t.Errorf("P8: fuel %d: %+v, %d", fuel, r, e)
			}
		}
		if r, e := semi.Go(image, nil, nil, fuel); e != semi.ErrState || !reflect.DeepEqual(r, semi.Round{}) {
			t.Errorf("P8: no state, fuel %d: %+v, %d", fuel, r, e)
		}
	}
	wantRound(t, image, state, nil, 10000, semi.Round{Out: []int{3}, Status: 1})
	wantRound(t, image, state, nil, 0, semi.Round{})
}

// P8: sums, differences, products and comparisons at the edges of a number.
func TestReckoning(t *testing.T) {
	edges := []int{0, 1, 2, 255, 256, 257, 32767, 32768, 65534, 65535}
	for _, a := range edges {
		for _, b := range edges {
			below := 0
			if a < b {
				below = 1
			}
			for k, want := range []int{(a + b) % 65536, (a - b + 65536) % 65536, a * b % 65536, below} {
				wantRun(t, only(op(read), op(read), op(add+k), op(ret)), 0, 1, []int{a, b}, 1, want)
			}
		}
	}
}

// P9: what is taken in is taken modulo 65536.
func TestTakenIn(t *testing.T) {
	for _, c := range [][2]int{{0, 0}, {65535, 65535}, {65536, 0}, {65537, 1}, {131071, 65535}, {-1, 65535}, {-65535, 1}, {-65536, 0}, {-65537, 65535}, {greatestInt, 65535}, {leastInt, 0}, {leastInt + 1, 1}} {
		wantRun(t, only(op(read), op(put), op(read), op(ret)), 0, 1, []int{c[0], 7}, 1, c[1], 7)
	}
}

// P8: what each instruction does.
func TestInstructions(t *testing.T) {
	types := [][]int{{0, 0, 1}, nil}
	for _, c := range []struct {
		code []semi.Ins
		out  []int
	}{
		{[]semi.Ins{op(push), op(put), op(push, 255), op(ret)}, []int{0, 255}},
		{[]semi.Ins{op(push, 4), op(store, 0), op(push, 5), op(store, 1), op(load, 0), op(put), op(load, 1), op(ret)}, []int{4, 5}},
		{[]semi.Ins{op(push, 4), op(push, 5), op(null, 1), op(newRec, 1), op(store, 2), op(load, 2), op(get, 1, 0), op(put), op(load, 2), op(get, 1, 1), op(put), op(load, 2), op(get, 1, 2), op(is, 1), op(ret)}, []int{4, 5, 1}},
		{[]semi.Ins{op(push, 4), op(push, 5), op(null, 1), op(newRec, 1), op(store, 2), op(load, 2), op(push, 6), op(set, 1, 1), op(load, 2), op(load, 2), op(set, 1, 2), op(load, 2), op(get, 1, 2), op(get, 1, 1), op(put), op(load, 2), op(get, 1, 0), op(ret)}, []int{6, 4}},
		{[]semi.Ins{op(null, 2), op(is, 2), op(put), op(newRec, 2), op(is, 2), op(ret)}, []int{1, 0}},
		{[]semi.Ins{op(null, 2), op(null, 2), op(same, 2), op(put), op(null, 2), op(newRec, 2), op(same, 2), op(put), op(newRec, 2), op(newRec, 2), op(same, 2), op(put), op(newRec, 2), op(store, 3), op(load, 3), op(load, 3), op(same, 2), op(ret)}, []int{1, 0, 0, 1}},
		{[]semi.Ins{op(jump, 3), op(push, 1), op(ret), op(push, 2), op(ret)}, []int{2}},
		{[]semi.Ins{op(push), op(zero, 4), op(push, 1), op(ret), op(push, 2), op(zero, 8), op(push, 3), op(ret), op(push, 4), op(ret)}, []int{3}},
		{[]semi.Ins{op(push, 9), op(put), op(push, 1), op(push, 2), op(push, 3), op(put), op(put), op(ret)}, []int{9, 3, 2, 1}},
	} {
		p := semi.Prog{Types: types, Funcs: []semi.Func{{Locals: []int{0, 0, 1, 2}, Code: c.code}}}
		wantRun(t, p, 20, 1, nil, 1, c.out...)
	}
}

// P8: a call gives the arguments over in their order, and what lies below them stays.
func TestCallAndReturn(t *testing.T) {
	p := semi.Prog{Types: [][]int{{0}}, Funcs: []semi.Func{
		{Code: []semi.Ins{op(push, 50), op(push, 1), op(push, 2), op(newRec, 1), op(push, 3), op(push, 4), op(call, 1), op(get, 1, 0), op(put), op(ret)}},
		{Args: 4, Locals: []int{0, 1, 0, 0, 0}, Result: 1, Code: []semi.Ins{op(load, 0), op(put), op(load, 2), op(put), op(load, 3), op(put), op(load, 4), op(put), op(load, 1), op(ret)}},
	}}
	wantRun(t, p, 2, 2, nil, 1, 1, 3, 4, 0, 2, 50)
	// Function 0 may be called; the run is done when the first frame returns.
	again := semi.Prog{Funcs: []semi.Func{{Code: []semi.Ins{op(read), op(zero, 5), op(call), op(put), op(jump, 5), op(read), op(ret)}}}}
	wantRun(t, again, 0, 3, []int{1, 1, 0, 7, 8, 9, 10}, 1, 7, 8, 9)
}

// P9: locals that are no arguments begin with 0 or nothing, at every call.
func TestLocalsBegin(t *testing.T) {
	p := semi.Prog{Types: [][]int{nil}, Funcs: []semi.Func{
		{Locals: []int{0, 1}, Code: []semi.Ins{op(load, 0), op(put), op(load, 1), op(is, 1), op(put), op(push, 9), op(store, 0), op(newRec, 1), op(store, 1), op(push, 3), op(call, 1), op(put), op(push, 4), op(call, 1), op(ret)}},
		{Args: 1, Locals: []int{0, 0, 1}, Code: []semi.Ins{op(load, 0), op(put), op(load, 1), op(put), op(load, 2), op(is, 1), op(push, 8), op(store, 1), op(newRec, 1), op(store, 2), op(ret)}},
	}}
	wantRun(t, p, 5, 2, nil, 1, 0, 1, 3, 0, 1, 4, 0, 1)
}

// P8: how a run ends, and that each end is told when its instruction is made, not ahead of it, and again ever after.
func TestEnds(t *testing.T) {
	types := [][]int{{0}, nil}
	for _, c := range []struct {
		status      int
		heap, depth int
		code        []semi.Ins
	}{
		{1, 0, 1, []semi.Ins{op(push, 6), op(put), op(push, 5), op(ret)}},
		{3, 0, 1, []semi.Ins{op(push, 6), op(put), op(null, 1), op(get, 1, 0), op(ret)}},
		{3, 0, 1, []semi.Ins{op(push, 6), op(put), op(null, 1), op(push, 1), op(set, 1, 0), op(jump, 5)}},
		{4, 1, 1, []semi.Ins{op(push, 6), op(put), op(push, 1), op(newRec, 1), op(jump, 4)}},
		{4, 0, 1, []semi.Ins{op(push, 6), op(put), op(newRec, 2), op(jump, 3)}},
		{5, 0, 1, []semi.Ins{op(push, 6), op(put), op(call), op(ret)}},
	} {
		p := semi.Prog{Types: types, Funcs: []semi.Func{{Code: c.code}}}
		image := imageOf(p)
		first := start(t, image, c.heap, c.depth)
		last := 0
		for ; newModel(p, c.heap, c.depth).goOn(nil, last).Status == 0; last++ {
			want := newModel(p, c.heap, c.depth).goOn(nil, last)
			wantRound(t, image, first, nil, last, want)
		}
		out := []int{6}
		if c.status == 1 {
			out = []int{6, 5}
		}
		ended := wantRound(t, image, first, nil, last, semi.Round{Out: out, Status: c.status})
		wantRound(t, image, first, nil, last+1, semi.Round{Out: out, Status: c.status})
		for _, fuel := range []int{0, 1, 10000, 5} {
			wantState(t, ended, c.heap, c.depth)
			ended = wantRound(t, image, ended, []int{1, 2}, fuel, semi.Round{Status: c.status})
		}
	}
}

// P8: waiting: the Read is made when there is a number for it; fuel spent goes ahead.
func TestWaiting(t *testing.T) {
	image := imageOf(only(op(push, 1), op(put), op(read), op(put), op(read), op(ret)))
	s := start(t, image, 0, 1)
	wantRound(t, image, s, nil, 2, semi.Round{Out: []int{1}})
	s = wantRound(t, image, s, []int{}, 3, semi.Round{Out: []int{1}, Status: 2})
	s = wantRound(t, image, s, nil, 1, semi.Round{Status: 2})
	s = wantRound(t, image, s, nil, 0, semi.Round{})
	s = wantRound(t, image, s, []int{5}, 0, semi.Round{})
	wantRound(t, image, s, []int{5, 6}, 1, semi.Round{Used: 1})
	wantRound(t, image, s, []int{5}, 2, semi.Round{Used: 1, Out: []int{5}})
	s = wantRound(t, image, s, []int{5}, 3, semi.Round{Used: 1, Out: []int{5}, Status: 2})
	wantRound(t, image, s, []int{6, 7, 8}, 9, semi.Round{Used: 1, Out: []int{6}, Status: 1})
}

// P8: depth is how many frames there may be.
func TestDepth(t *testing.T) {
	// Function 0 calls itself as long as 0 is taken in.
	p := semi.Prog{Funcs: []semi.Func{{Code: []semi.Ins{op(read), op(zero, 4), op(push, 1), op(ret), op(call), op(push, 1), op(add), op(ret)}}}}
	for _, depth := range []int{1, 2, 3, 63, 64} {
		in := make([]int, depth)
		in[depth-1] = 1
		wantRun(t, p, 0, depth, in, 1, depth)
		in[depth-1] = 0
		wantRun(t, p, 0, depth, in, 5)
	}
}

// growing makes a chain of records of type 5 (2 words each) that local l holds, and puts 1 out for each, until the memory is full.
func growing(l, at int) []semi.Ins {
	return []semi.Ins{op(load, l), op(newRec, 5), op(store, l), op(push, 1), op(put), op(jump, at)}
}

// holding is a program that holds records in one way and then fills the memory up, in the same frame or in one above.
func holding(way []semi.Ins, above bool) semi.Prog {
	code := append([]semi.Ins(nil), way...)
	if above {
		code = append(code, op(call, 1), op(jump, len(way)+1))
	} else {
		code = append(code, growing(4, len(way))...)
	}
	return semi.Prog{Types: [][]int{{1, 3}, nil, {1}, {0, 1, 2, 3, 4}, {5}}, Funcs: []semi.Func{
		{Locals: []int{1, 2, 3, 4, 5, 0}, Code: code},
		{Locals: []int{5}, Code: growing(0, 0)},
		{Args: 2, Locals: []int{1, 3, 5}, Code: growing(2, 0)},
		{Args: 2, Locals: []int{1, 1, 2}, Result: 3, Code: []semi.Ins{op(newRec, 2), op(store, 2), op(load, 0), op(newRec, 3), op(ret)}},
	}}
}

// ways lists ways to hold records, and how many live words each makes.
func ways() []struct {
	name string
	live int
	code []semi.Ins
} {
	pair := func(code ...semi.Ins) []semi.Ins {
		return append([]semi.Ins{op(null, 1), op(null, 3), op(newRec, 1)}, code...)
	}
	return []struct {
		name string
		live int
		code []semi.Ins
	}{
		{"none", 0, nil},
		{"a local", 3, pair(op(store, 0))},
		{"the stack", 3, pair()},
		{"the stack below numbers", 3, pair(op(push, 1), op(push, 2))},
		{"many on the stack", 4, []semi.Ins{op(newRec, 2), op(push, 1), op(newRec, 2), op(null, 1), op(newRec, 2), op(push, 4), op(newRec, 2)}},
		{"a local that was laid over", 0, pair(op(store, 0), op(null, 1), op(store, 0))},
		{"a value that was taken off", 0, pair(op(is, 1), op(put))},
		{"a field", 5, pair(op(newRec, 3), op(store, 2))},
		{"a field that was laid over", 2, pair(op(newRec, 3), op(store, 2), op(load, 2), op(null, 1), op(set, 3, 0))},
		{"a field of what is gone", 0, pair(op(newRec, 3), op(is, 3), op(put))},
		{"what was got from a record that is gone", 3, pair(op(newRec, 3), op(get, 3, 0))},
		{"one record held twice", 3, pair(op(store, 0), op(load, 0))},
		{"a ring", 5, pair(op(store, 0), op(load, 0), op(load, 0), op(newRec, 3), op(set, 1, 1))},
		{"a ring that is gone", 0, pair(op(store, 0), op(load, 0), op(load, 0), op(newRec, 3), op(set, 1, 1), op(null, 1), op(store, 0))},
		{"a record that refers to itself", 3, pair(op(store, 0), op(load, 0), op(load, 0), op(set, 1, 0))},
		{"numbers are no references", 6, pair(op(is, 1), op(put), op(push, 1), op(null, 1), op(null, 2), op(null, 3), op(null, 4), op(newRec, 4), op(store, 3), op(push, 1), op(push, 1), op(store, 5))},
		{"all types", 12, pair(op(store, 0), op(newRec, 2), op(store, 1), op(load, 0), op(newRec, 3), op(store, 2), op(push, 3), op(load, 0), op(load, 1), op(load, 2), op(null, 4), op(newRec, 4), op(store, 3))},
		{"the last holds all", 12, pair(op(store, 0), op(push, 3), op(load, 0), op(newRec, 2), op(load, 0), op(newRec, 3), op(null, 4), op(newRec, 4), op(null, 1), op(store, 0))},
		{"arguments", 5, pair(op(null, 1), op(newRec, 3), op(call, 2))},
		{"a frame below and arguments", 10, pair(op(store, 0), op(null, 1), op(load, 0), op(newRec, 3), op(null, 1), op(null, 3), op(newRec, 1), op(load, 0), op(newRec, 3), op(store, 2), op(null, 3), op(call, 2))},
		{"what was returned", 5, pair(op(null, 1), op(null, 3), op(newRec, 1), op(call, 3))},
	}
}

// P8: the live words are what any frame's locals and stack reach, also through fields and in rings, and nothing else; heap is their bound.
func TestLiveWords(t *testing.T) {
	for _, c := range ways() {
		for _, above := range []bool{false, true} {
			p := holding(c.code, above)
			wantFit(t, imageOf(p))
			for heap := 16; heap < 48; heap++ {
				first := len(newModel(p, 4000, 4).goOn(nil, len(c.code)).Out)
				image := imageOf(p)
				r, e := semi.Go(image, start(t, image, heap, 4), nil, 10000)
				if made := len(r.Out) - first; e != semi.OK || r.Status != 4 || made != (heap-c.live)/2 {
					t.Fatalf("P8: %s, heap %d: %d more records, status %d, want %d", c.name, heap, made, r.Status, (heap-c.live)/2)
				}
				wantRun(t, p, heap, 4, nil, 4, r.Out...)
			}
		}
	}
}

// P8, P9: at New the live words and the new record's words must together be at most heap, and the fields' values are still reached.
func TestRoomForNew(t *testing.T) {
	types := [][]int{{0, 0}, {1, 1, 2}, nil}
	one := []semi.Ins{op(push, 1), op(push, 2), op(newRec, 1)}
	two := append(append([]semi.Ins(nil), one...), one...)
	for _, c := range []struct {
		words int
		code  []semi.Ins
	}{
		{1, []semi.Ins{op(newRec, 3)}},
		{3, one},
		{4, []semi.Ins{op(null, 1), op(null, 1), op(null, 2), op(newRec, 2)}},
		{10, append(append([]semi.Ins(nil), two...), op(null, 2), op(newRec, 2))},
		{14, append(append([]semi.Ins(nil), two...), op(null, 1), op(null, 1), op(null, 2), op(newRec, 2), op(newRec, 2))},
		{4, []semi.Ins{op(push), op(push), op(newRec, 1), op(newRec, 3)}},
		{3, []semi.Ins{op(push), op(push), op(newRec, 1), op(is, 1), op(put), op(push), op(push), op(newRec, 1)}},
	} {
		code := append(append([]semi.Ins(nil), c.code...), op(push, 8), op(put), op(jump, len(c.code)+2))
		p := semi.Prog{Types: types, Funcs: []semi.Func{{Code: code}}}
		image := imageOf(p)
		wantFit(t, image)
		for heap := range 20 {
			r, e := semi.Go(image, start(t, image, heap, 1), nil, 100)
			status := 4
			if heap >= c.words {
				status = 0
			}
			if e != semi.OK || r.Status != status || (status == 0) != (len(r.Out) > 0 && r.Out[len(r.Out)-1] == 8) {
				t.Errorf("P8: %v, heap %d: %+v, %d, want status %d", c.code, heap, r, e, status)
			}
		}
	}
}

// greatProg's function 0 takes in how many records of a chain each frame makes, and calls itself, until 0 is taken in.
func greatProg() semi.Prog {
	return semi.Prog{Types: [][]int{{1, 0, 0, 0, 0}}, Funcs: []semi.Func{{Locals: []int{1, 0, 0, 0, 0, 0, 0, 0}, Code: []semi.Ins{
		op(read), op(store, 1), op(load, 1), op(zero, 16),
		op(load, 0), op(push, 9), op(push, 8), op(push, 7), op(push, 6), op(newRec, 1), op(store, 0),
		op(load, 1), op(push, 1), op(sub), op(store, 1), op(jump, 2),
		op(read), op(zero, 25), op(push, 1), op(push, 2), op(push, 3), op(push, 4), op(push, 5), op(push, 6), op(jump, 27),
		op(push, 50), op(ret),
		op(push, 7), op(call), op(put), op(put), op(put), op(put), op(put), op(put), op(put), op(put), op(push, 3), op(ret),
	}}}}
}

// greatIn lets greatProg have 64 frames that hold 60 words each.
func greatIn() []int {
	var in []int
	for range 63 {
		in = append(in, 10, 1)
	}
	return append(in, 10, 0)
}

// P8: the greatest memory and the most frames, all of them in use.
func TestGreatestRun(t *testing.T) {
	p := greatProg()
	image := imageOf(p)
	wantFit(t, image)
	for _, heap := range []int{4000, 3990, 3840, 3839} {
		m := newModel(p, heap, 64)
		state := start(t, image, heap, 64)
		in := greatIn()
		for range 20 {
			want := m.goOn(in, 999)
			state = wantRound(t, image, state, in, 999, want)
			wantState(t, state, heap, 64)
			in = in[want.Used:]
		}
		if ends := map[int]int{4000: 1, 3990: 1, 3840: 1, 3839: 4}; m.status != ends[heap] {
			t.Errorf("heap %d: status %d", heap, m.status)
		}
	}
}
