package semi_test

import (
	"math/rand"
	"reflect"
	"testing"

	"semi/semi"
)

// midway is a program with a run of it that has frames, records and garbage.
func midway(t *testing.T, g *rand.Rand) (string, []int, int, int) {
	t.Helper()
	for {
		p := busyProg(g)
		image := imageOf(p)
		heap, depth := 5+g.Intn(30), 2+g.Intn(4)
		r, e := semi.Go(image, start(t, image, heap, depth), randomIn(g, 50), 20+g.Intn(60))
		if e != semi.OK {
			t.Fatal(e)
		}
		if r.Status == 0 {
			return image, r.State, heap, depth
		}
	}
}

// refused holds a list to be no state.
func refused(t *testing.T, image string, list []int) {
	t.Helper()
	for _, fuel := range []int{0, 50, -1} {
		if r, e := semi.Go(image, list, []int{1, 2}, fuel); e != semi.ErrState || !reflect.DeepEqual(r, semi.Round{}) {
			t.Fatalf("P8: Go(%q, %v, .., %d) = %+v, %d", image, list, fuel, r, e)
		}
	}
	if l, e := semi.Pack(image, list); e != semi.ErrState || l != nil {
		t.Fatalf("P11: Pack(%q, %v) = %v, %d", image, list, l, e)
	}
	if n, e := semi.Live(image, list); e != semi.ErrState || n != 0 {
		t.Fatalf("P11: Live(%q, %v) = %d, %d", image, list, n, e)
	}
}

// P8, P11: lists that have no state's form are refused.
func TestNoState(t *testing.T) {
	g := rand.New(rand.NewSource(9))
	for range 60 {
		image, state, _, _ := midway(t, g)
		refused(t, image, nil)
		refused(t, image, []int{})
		for k := range state {
			refused(t, image, state[:k])
			for _, n := range []int{leastInt, -1, 65536, greatestInt} {
				list := join(state)
				list[k] = n
				refused(t, image, list)
			}
		}
		for _, n := range []int{0, 1, 65535, -1} {
			refused(t, image, join(state, []int{n}))
		}
		refused(t, image, join(state, state))
		refused(t, image, make([]int, 100000))
	}
}

// P8, P11: a run that has ended has a state, too, and no list that is longer or shorter is one.
func TestNoEndedState(t *testing.T) {
	image := imageOf(only(op(push, 1), op(ret)))
	r, e := semi.Go(image, start(t, image, 4000, 64), nil, 2)
	if e != semi.OK || r.Status != 1 {
		t.Fatalf("%+v, %d", r, e)
	}
	for k := range r.State {
		refused(t, image, r.State[:k])
		for n := range 10 {
			list := join(r.State)
			list[k] = n
			if r, e := semi.Go(image, list, nil, 5); e == semi.OK && (r.Status == 0 || r.Status == 2) {
				t.Errorf("P8: Go(%q, %v, ..) = %+v: an ended run that runs", image, list, r)
			}
		}
	}
	refused(t, image, join(r.State, []int{0}))
}

// P8, P11: a state of one image is none of another's, be they ever so like.
func TestOtherImages(t *testing.T) {
	base := only(op(push, 1), op(put), op(push, 2), op(ret))
	state := start(t, imageOf(base), 10, 2)
	for at := range base.Funcs[0].Code {
		other := copyProg(base)
		if other.Funcs[0].Code[at].Op != push {
			continue
		}
		for a := range 256 {
			other.Funcs[0].Code[at].A = a
			if imageOf(other) != imageOf(base) {
				refused(t, imageOf(other), state)
			}
		}
	}
	g := rand.New(rand.NewSource(10))
	for range 200 {
		one, s, _, _ := midway(t, g)
		other, z, _, _ := midway(t, g)
		if one != other {
			refused(t, one, z)
			refused(t, other, s)
		}
	}
}

// P1: what looks like a state, and is none, panics nowhere; if it is taken, what comes of it keeps to the bounds and is taken again.
func TestBrokenStates(t *testing.T) {
	g := rand.New(rand.NewSource(11))
	taken := 0
	for range 50 {
		image, state, _, _ := midway(t, g)
		for k := range state {
			v := state[k]
			for _, n := range []int{0, 1, 2, 3, 4, 5, 6, 7, v - 2, v - 1, v + 1, v + 2, g.Intn(40), 4000, 65535} {
				list := join(state)
				list[k] = n
				for range g.Intn(3) {
					list[g.Intn(len(list))] = g.Intn(12)
				}
				taken += goOnBroken(t, image, list)
			}
		}
	}
	if taken < 1000 {
		t.Errorf("only %d broken states were taken", taken)
	}
}

func goOnBroken(t *testing.T, image string, list []int) int {
	t.Helper()
	packBroken(t, image, list)
	count := 0
	for range 3 {
		r, e := semi.Go(image, list, []int{1, 0, 2}, 60)
		if e != semi.OK {
			if e != semi.ErrState || count > 0 || !reflect.DeepEqual(r, semi.Round{}) {
				t.Fatalf("Go(%q, %v) = %+v, %d", image, list, r, e)
			}
			return count
		}
		wantState(t, r.State, 4000, 64)
		list = r.State
		count++
	}
	return count
}

// packBroken holds Pack and Live to take just what Go takes, and what Pack answers to be taken again.
func packBroken(t *testing.T, image string, list []int) {
	t.Helper()
	_, want := semi.Go(image, list, nil, 0)
	l, e := semi.Pack(image, list)
	n, f := semi.Live(image, list)
	if e != want || f != want || (e != semi.OK && (l != nil || n != 0)) {
		t.Fatalf("Pack(%q, %v) = %v, %d, Live %d, %d, want %d", image, list, l, e, n, f, want)
	}
	if e == semi.OK {
		wantState(t, l, 4000, 64)
		if again, e := semi.Live(image, l); again != n || e != semi.OK {
			t.Fatalf("Live(%q, %v) = %d, %d, want %d", image, l, again, e, n)
		}
	}
}

// P2: Go changes neither the state nor the numbers that it is given, nor what lies behind them; and answers the same again.
func TestGoChangesNothing(t *testing.T) {
	g := rand.New(rand.NewSource(12))
	for range 200 {
		image, state, _, _ := midway(t, g)
		in := randomIn(g, 20)
		roomyState, roomyIn := marked(state), marked(in)
		first, e := semi.Go(image, roomyState, roomyIn, 50)
		if e != semi.OK {
			t.Fatal(e)
		}
		if !equalLists(roomyState, state) || !equalLists(roomyIn, in) || !untouchedLists(roomyState, roomyIn) {
			t.Fatalf("Go(%q, ..) changed its arguments", image)
		}
		kept := semi.Round{State: join(first.State), Out: join(first.Out), Used: first.Used, Status: first.Status}
		second, _ := semi.Go(image, state, in, 50)
		semi.Go(image, first.State, in, 50)
		for k := range roomyState {
			roomyState[k] = -99
		}
		for k := range roomyIn {
			roomyIn[k] = -99
		}
		for k := range second.State {
			second.State[k] = -99
		}
		_ = append(first.State, -99, -99, -99)
		_ = append(first.Out, -99, -99, -99)
		if !equalLists(first.State, kept.State) || !equalLists(first.Out, kept.Out) {
			t.Fatalf("Go(%q, ..): the answer changed", image)
		}
		third, _ := semi.Go(image, state, in, 50)
		if !equalLists(third.State, kept.State) || !equalLists(third.Out, kept.Out) || third.Used != kept.Used || third.Status != kept.Status {
			t.Fatalf("Go(%q, ..) = %+v, then %+v", image, kept, third)
		}
	}
}

func untouchedLists(lists ...[]int) bool {
	for _, l := range lists {
		for _, n := range l[len(l) : len(l)+9] {
			if n != -77 {
				return false
			}
		}
	}
	return true
}

// P2: each answer of Start is new.
func TestStartsAreNew(t *testing.T) {
	image := imageOf(only(op(push, 1), op(ret)))
	first := start(t, image, 5, 5)
	kept := join(first)
	second := start(t, image, 5, 5)
	for k := range second {
		second[k] = -99
	}
	if third := start(t, image, 5, 5); !equalLists(first, kept) || !equalLists(third, kept) {
		t.Errorf("Start = %v, then %v", first, third)
	}
}
