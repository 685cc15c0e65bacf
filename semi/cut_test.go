package semi_test

import (
	"math/rand"
	"testing"

	"semi/semi"
)

// tally counts what random runs came to, so that a test of them can tell that it tested something.
type tally struct {
	ends  [6]int
	full  int // records that were made in room that others had before
	calls int
}

// randomIn is a list of numbers to take in, mostly small.
func randomIn(g *rand.Rand, count int) []int {
	in := make([]int, count)
	for k := range in {
		in[k] = max(0, g.Intn(6)-3)
		if g.Intn(12) == 0 {
			in[k] = int(g.Uint64())
		}
	}
	return in
}

// inPieces goes on with a run in pieces of random fuel and holds each to the model.
func inPieces(t *testing.T, g *rand.Rand, p semi.Prog, heap, depth int, in []int, sum *tally) {
	t.Helper()
	image := imageOf(p)
	m := newModel(p, heap, depth)
	state := start(t, image, heap, depth)
	most := 1 + g.Intn(60)
	for range 40 {
		given := in[:min(len(in), g.Intn(most))]
		fuel := g.Intn(most)
		want := m.goOn(given, fuel)
		state = wantRound(t, image, state, given, fuel, want)
		wantState(t, state, heap, depth)
		in = in[want.Used:]
		sum.ends[want.Status]++
		if len(m.acts) > 1 {
			sum.calls++
		}
		if m.status != 0 {
			break
		}
	}
	want := m.goOn(in, 3000)
	wantRound(t, image, state, in, 3000, want)
	sum.ends[want.Status]++
	sum.full += m.full
}

// P8, P9, P10: random runs, cut at random, against the model.
func TestAgainstModel(t *testing.T) {
	g := rand.New(rand.NewSource(6))
	var sum tally
	for range 3000 {
		p := busyProg(g)
		heap := g.Intn(30)
		if g.Intn(10) == 0 {
			heap = g.Intn(4001)
		}
		inPieces(t, g, p, heap, 1+g.Intn(6), randomIn(g, 200), &sum)
	}
	for status, count := range sum.ends {
		if count < 100 {
			t.Errorf("only %d random runs came to status %d", count, status)
		}
	}
	if sum.full < 1000 || sum.calls < 1000 {
		t.Errorf("the random runs were too tame: %+v", sum)
	}
	t.Logf("%+v", sum)
}

// P8, P9: random programs of the other kind, most of which go on for ever.
func TestWildAgainstModel(t *testing.T) {
	g := rand.New(rand.NewSource(7))
	var sum tally
	for range 3000 {
		p := randomProg(g)
		if e, _ := semi.Check(imageOf(p)); e == semi.OK {
			inPieces(t, g, p, g.Intn(20), 1+g.Intn(4), randomIn(g, 30), &sum)
		}
	}
	t.Logf("%+v", sum)
}

// cut is a way to cut a run: how much fuel and how many numbers each call of Go gets, and whether Pack is called ahead of it.
type cut struct {
	fuel, in int
	pack     bool
}

// runInEqualPieces is what a run comes to that is cut in this way. A run that waits though there is a number for it, or spends its fuel, goes on.
func runInEqualPieces(t *testing.T, image string, heap, depth int, in []int, c cut) semi.Round {
	t.Helper()
	all := semi.Round{State: start(t, image, heap, depth)}
	for left := 400; left > 0; left-- {
		if c.pack {
			all.State = packed(t, image, all.State)
		}
		given := in[all.Used:min(len(in), all.Used+c.in)]
		r, e := semi.Go(image, all.State, given, c.fuel)
		if e != semi.OK {
			t.Fatalf("Go(%q, ..) = %d", image, e)
		}
		all = semi.Round{State: r.State, Out: append(all.Out, r.Out...), Used: all.Used + r.Used, Status: r.Status}
		if r.Status != 0 && (r.Status != 2 || all.Used == len(in)) {
			return all
		}
	}
	return all
}

// P12: a run comes to the same however it is cut, and whether it is packed or not.
func TestCuts(t *testing.T) {
	g := rand.New(rand.NewSource(8))
	var ends [6]int
	for range 400 {
		p := busyProg(g)
		image := imageOf(p)
		heap, depth, in := g.Intn(40), 1+g.Intn(5), randomIn(g, g.Intn(20))
		want := newModel(p, heap, depth).goOn(in, 400)
		if want.Status == 0 {
			continue
		}
		ends[want.Status]++
		for _, c := range []cut{{400, 20, false}, {1, 20, false}, {1, 1, true}, {2, 3, true}, {7, 1, false}, {50, 20, true}, {400, 1, true}, {400, 1, false}} {
			r := runInEqualPieces(t, image, heap, depth, in, c)
			if r.Status != want.Status || r.Used != want.Used || !equalLists(r.Out, want.Out) {
				t.Fatalf("P12: %q cut as %+v: %+v, want %+v", image, c, r, want)
			}
		}
	}
	for _, status := range []int{1, 2, 3, 4, 5} {
		if ends[status] < 5 {
			t.Errorf("only %d runs came to status %d", ends[status], status)
		}
	}
	t.Log(ends)
}
