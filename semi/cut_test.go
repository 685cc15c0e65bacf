package semi_test

import (
	"math/rand"
	"testing"

	"semi/semi"
)

// tally counts what random runs came to, so that a test of them can tell that it tested something.
type tally struct {
	ends  [6]int
	full  int // records that were made in room that others had before
	calls int
}

// randomIn is a list of numbers to take in, mostly small.
func randomIn(g *rand.Rand, count int) []int {
	in := make([]int, count)
	for k := range in {
		in[k] = max(0, g.Intn(6)-3)
		if g.Intn(12) == 0 {
			in[k] = int(g.Uint64())
		}
	}
	return in
}

// inPieces goes on with a run in pieces of random fuel and holds each to the model.
func inPieces(t *testing.T, g *rand.Rand, p semi.Prog, heap, depth int, in []int, sum *tally) {
	t.Helper()
	image := imageOf(p)
	m := newModel(p, heap, depth)
	state := start(t, image, heap, depth)
	most := 1 + g.Intn(60)
	for range 40 {
		given := in[:min(len(in), g.Intn(most))]
		fuel := g.Intn(most)
		want := m.goOn(given, fuel)
		state = wantRound(t, image, state, given, fuel, want)
		wantState(t, state, heap, depth)
		in = in[want.Used:]
		sum.ends[want.Status]++
		if len(m.acts) > 1 {
			sum.calls++
		}
		if m.status != 0 {
			break
		}
	}
	want := m.goOn(in, 3000)
	wantRound(t, image, state, in, 3000, want)
	sum.ends[want.Status]++
	sum.full += m.full
}

// P8, P9, P10: random runs, cut at random, against the model.
func TestAgainstModel(t *testing.T) {
	g := rand.New(rand.NewSource(6))
	var sum tally
	for range 3000 {
		p := busyProg(g)
		heap := g.Intn(30)
		if g.Intn(10) == 0 {
			heap = g.Intn(4001)
		}
		inPieces(t, g, p, heap, 1+g.Intn(6), randomIn(g, 200), &sum)
	}
	for status, count := range sum.ends {
		if count < 100 {
			t.Errorf("only %d random runs came to status %d", count, status)
		}
	}
	if sum.full < 1000 || sum.calls < 1000 {
		t.Errorf("the random runs were too tame: %+v", sum)
	}
	t.Logf("%+v", sum)
}

// P8, P9: random programs of the other kind, most of which go on for ever.
func TestWildAgainstModel(t *testing.T) {
	g := rand.New(rand.NewSource(7))
	var sum tally
	for range 3000 {
		p := randomProg(g)
		if e, _ := semi.Check(imageOf(p)); e == semi.OK {
			inPieces(t, g, p, g.Intn(20), 1+g.Intn(4), randomIn(g, 30), &sum)
		}
	}
	t.Logf("%+v", sum)
}

// runInEqualPieces is what a run comes to that gets its numbers and its fuel in pieces of this size.
func runInEqualPieces(t *testing.T, image string, heap, depth int, in []int, fuel, piece int) semi.Round {
	t.Helper()
	all := semi.Round{State: start(t, image, heap, depth)}
	for fuel > 0 {
		r, e := semi.Go(image, all.State, in[all.Used:], min(piece, fuel))
		if e != semi.OK {
			t.Fatalf("Go(%q, ..) = %d", image, e)
		}
		fuel -= piece
		all = semi.Round{State: r.State, Out: append(all.Out, r.Out...), Used: all.Used + r.Used, Status: r.Status}
		if r.Status != 0 {
			return all
		}
	}
	return all
}

// P8: a run comes to the same however it is cut.
func TestCuts(t *testing.T) {
	g := rand.New(rand.NewSource(8))
	for range 300 {
		p := busyProg(g)
		image := imageOf(p)
		heap, depth, in := g.Intn(40), 1+g.Intn(5), randomIn(g, 40)
		want := runInEqualPieces(t, image, heap, depth, in, 400, 400)
		for _, piece := range []int{1, 2, 7, 50} {
			r := runInEqualPieces(t, image, heap, depth, in, 400, piece)
			if r.Status != want.Status || r.Used != want.Used || !equalLists(r.Out, want.Out) {
				t.Fatalf("%q in pieces of %d: %+v, want %+v", image, piece, r, want)
			}
		}
	}
}
