package semi_test

import (
	"math/rand"
	"strings"
	"testing"

	"semi/semi"
)

// packed packs a state that must be one.
func packed(t *testing.T, image string, state []int) []int {
	t.Helper()
	l, e := semi.Pack(image, state)
	if e != semi.OK {
		t.Fatalf("P11: Pack(%q, %v) = %v, %d", image, state, l, e)
	}
	return l
}

// wantLive holds a state to its live words.
func wantLive(t *testing.T, image string, state []int, want int) {
	t.Helper()
	if n, e := semi.Live(image, state); n != want || e != semi.OK {
		t.Fatalf("P11: Live(%q, %v) = %d, %d, want %d", image, state, n, e, want)
	}
}

// wantPacked packs a state of a run that has so many live words and frames.
func wantPacked(t *testing.T, image string, state []int, live, frames int) []int {
	t.Helper()
	wantLive(t, image, state, live)
	l := packed(t, image, state)
	if len(l) > 16+20*frames+live {
		t.Fatalf("P11: Pack(%q, %v) has %d numbers, with %d frames and %d live words", image, state, len(l), frames, live)
	}
	for _, n := range l {
		if n < 0 || n > 65535 {
			t.Fatalf("P10: Pack(%q, %v) = %v", image, state, l)
		}
	}
	wantLive(t, image, l, live)
	return l
}

// wantPackedAs packs a state of a run at which the model is, too.
func wantPackedAs(t *testing.T, image string, state []int, m *model) []int {
	t.Helper()
	if m.status != 0 {
		return wantPacked(t, image, state, 0, 0)
	}
	l := wantPacked(t, image, state, m.live(), len(m.acts))
	wantState(t, l, m.heap, m.depth)
	return l
}

// P11: Live and Pack refuse what Check refuses, also beside a state that is sound for another image.
func TestPackErrors(t *testing.T) {
	good := imageOf(only(op(push), op(ret)))
	state := start(t, good, 5, 5)
	for _, c := range []struct {
		image string
		e     semi.Errno
	}{
		{strings.Repeat("\x00", 801), semi.ErrLong},
		{good + strings.Repeat("\x00", 801-len(good)), semi.ErrLong},
		{good + strings.Repeat("\x00", 800-len(good)), semi.ErrImage},
		{"", semi.ErrImage},
		{good[:len(good)-1], semi.ErrImage},
		{imageOf(only(op(ret))), semi.ErrType},
		{imageOf(only(op(push, 1), op(ret))), semi.ErrState},
	} {
		for _, list := range [][]int{nil, {}, {1, 2, 3}, state, state[:len(state)-1]} {
			if l, e := semi.Pack(c.image, list); l != nil || e != c.e {
				t.Errorf("P11: Pack(%.40q, %v) = %v, %d, want nil, %d", c.image, list, l, e, c.e)
			}
			if n, e := semi.Live(c.image, list); n != 0 || e != c.e {
				t.Errorf("P11: Live(%.40q, %v) = %d, %d, want 0, %d", c.image, list, n, e, c.e)
			}
		}
	}
	refused(t, good, nil)
	refused(t, good, []int{})
	refused(t, good, join(state, []int{0}))
	wantPacked(t, good, state, 0, 1)
}

// atHold brings a run to where it holds its records and has not begun to fill the memory up.
func atHold(t *testing.T, p semi.Prog, way int) (*model, []int) {
	t.Helper()
	image := imageOf(p)
	m := newModel(p, 40, 4)
	state := start(t, image, 40, 4)
	for range 200 {
		top := m.acts[len(m.acts)-1]
		if (top.f == 0 && top.at == way) || top.f == 2 {
			return m, state
		}
		want := m.goOn(nil, 1)
		state = wantRound(t, image, state, nil, 1, want)
	}
	t.Fatal("the run never came there")
	return nil, nil
}

// P11: Live tells the live words of every way to hold records, in the top frame and in one below, and Pack keeps just these.
func TestLiveOfWays(t *testing.T) {
	for _, c := range ways() {
		for _, above := range []bool{false, true} {
			p := holding(c.code, above)
			image := imageOf(p)
			m, state := atHold(t, p, len(c.code))
			l := wantPacked(t, image, state, c.live, len(m.acts))
			want := m.goOn(nil, 10000)
			wantRound(t, image, state, nil, 10000, want)
			wantRound(t, image, l, nil, 10000, want)
			if want.Status != 4 {
				t.Errorf("%s: status %d", c.name, want.Status)
			}
		}
	}
}

// P11, P12: random runs, packed at random, against the model at every cut.
func TestPackAgainstModel(t *testing.T) {
	g := rand.New(rand.NewSource(13))
	var lives, cleared, frames int
	for range 300 {
		p := busyProg(g)
		image := imageOf(p)
		heap, depth := g.Intn(40), 1+g.Intn(6)
		m := newModel(p, heap, depth)
		state := start(t, image, heap, depth)
		in := randomIn(g, 100)
		most := 1 + g.Intn(20)
		for range 50 {
			l := wantPackedAs(t, image, state, m)
			if m.status == 0 {
				lives += min(1, m.live())
				frames += len(m.acts) - 1
				cleared += len(state) - len(l)
			}
			if g.Intn(2) == 0 {
				state = l
			}
			fuel := g.Intn(most)
			given := in[:min(len(in), g.Intn(5))]
			want := m.goOn(given, fuel)
			state = wantRound(t, image, state, given, fuel, want)
			in = in[want.Used:]
		}
	}
	if lives < 1000 || cleared < 1000 || frames < 1000 {
		t.Errorf("the random runs were too tame: %d, %d, %d", lives, cleared, frames)
	}
	t.Log(lives, cleared, frames)
}

// P11: of a run that has ended there are 0 live words, whatever it held, and its packed state tells its status again.
func TestPackEnded(t *testing.T) {
	types := [][]int{{0}}
	holds := []semi.Ins{op(push, 7), op(newRec, 1), op(store, 0), op(push, 7), op(newRec, 1)}
	for _, c := range []struct {
		status int
		tail   []semi.Ins
	}{
		{1, []semi.Ins{op(get, 1, 0), op(ret)}},
		{3, []semi.Ins{op(null, 1), op(get, 1, 0), op(jump, 7)}},
		{3, []semi.Ins{op(null, 1), op(push, 1), op(set, 1, 0), op(jump, 8)}},
		{4, []semi.Ins{op(push, 1), op(newRec, 1), op(jump, 7)}},
		{5, []semi.Ins{op(call), op(jump, 6)}},
	} {
		p := semi.Prog{Types: types, Funcs: []semi.Func{{Locals: []int{1}, Code: joinCode(holds, c.tail)}}}
		image := imageOf(p)
		wantFit(t, image)
		m := newModel(p, 5, 1)
		state := start(t, image, 5, 1)
		for range 5 {
			state = wantRound(t, image, state, nil, 1, m.goOn(nil, 1))
		}
		state = wantPacked(t, image, state, 4, 1)
		want := m.goOn(nil, 100)
		if want.Status != c.status {
			t.Fatalf("the model differs: %+v, want status %d", want, c.status)
		}
		state = wantRound(t, image, state, nil, 100, want)
		for range 3 {
			state = wantPacked(t, image, state, 0, 0)
			for _, fuel := range []int{0, 1, 10000} {
				wantRound(t, image, state, []int{1, 2}, fuel, semi.Round{Status: c.status})
			}
		}
	}
}

func joinCode(a, b []semi.Ins) []semi.Ins {
	return append(append([]semi.Ins(nil), a...), b...)
}

// P11: however much lies there that cannot be reached, the packed state is as short as the live words ask.
func TestPackIsShort(t *testing.T) {
	// A record of 6 words is held and another one dropped, over and over.
	p := semi.Prog{Types: [][]int{{0, 0, 0, 0, 1}}, Funcs: []semi.Func{{Locals: []int{1}, Code: []semi.Ins{
		op(push, 1), op(push, 2), op(push, 3), op(push, 4), op(null, 1), op(newRec, 1), op(store, 0), op(jump),
	}}}}
	image := imageOf(p)
	long := 0
	for _, fuel := range []int{0, 6, 7, 100, 5000, 5333, 5341, 10000} {
		r, e := semi.Go(image, start(t, image, 4000, 1), nil, fuel)
		if e != semi.OK || r.Status != 0 {
			t.Fatal(r, e)
		}
		m := newModel(p, 4000, 1)
		m.goOn(nil, fuel)
		l := wantPackedAs(t, image, r.State, m)
		if len(l) > 16+20+12 {
			t.Errorf("P11: a packed state of %d numbers", len(l))
		}
		long = max(long, len(r.State))
		wantRound(t, image, l, nil, 3000, m.goOn(nil, 3000))
	}
	if long < 500 {
		t.Errorf("the longest state to pack had only %d numbers", long)
	}
}

// P11, P12: the greatest memory and the most frames, packed again and again.
func TestPackGreatestRun(t *testing.T) {
	p := greatProg()
	image := imageOf(p)
	m := newModel(p, 3840, 64)
	state := start(t, image, 3840, 64)
	in := greatIn()
	most, deepest := 0, 0
	for range 40 {
		if m.status == 0 {
			most = max(most, m.live())
			deepest = max(deepest, len(m.acts))
		}
		state = wantPackedAs(t, image, state, m)
		want := m.goOn(in, 487)
		state = wantRound(t, image, state, in, 487, want)
		in = in[want.Used:]
	}
	if m.status != 1 || most < 3700 || deepest < 60 {
		t.Errorf("status %d, at most %d live words and %d frames", m.status, most, deepest)
	}
}

// P2: Pack and Live change nothing, answer the same again, and what Pack answers is new.
func TestPackChangesNothing(t *testing.T) {
	g := rand.New(rand.NewSource(14))
	for range 200 {
		image, state, _, _ := midway(t, g)
		roomy := marked(state)
		first := packed(t, image, roomy)
		n, _ := semi.Live(image, roomy)
		if !equalLists(roomy, state) || !untouchedLists(roomy) {
			t.Fatalf("P2: Pack(%q, %v) or Live changed the state to %v", image, state, roomy)
		}
		kept := join(first)
		second := packed(t, image, state)
		again := packed(t, image, first)
		semi.Go(image, first, nil, 50)
		for k := range roomy {
			roomy[k] = -99
		}
		for k := range second {
			second[k] = -99
		}
		for k := range again {
			again[k] = -99
		}
		if !equalLists(first, kept) || !equalLists(packed(t, image, state), kept) {
			t.Fatalf("P2: Pack(%q, %v) = %v, then %v", image, state, kept, first)
		}
		wantLive(t, image, state, n)
	}
}

// P12: a record is the same record behind Pack, also if two are alike.
func TestSameBehindPack(t *testing.T) {
	p := semi.Prog{Types: [][]int{{0}}, Funcs: []semi.Func{{Locals: []int{1, 1, 1}, Code: []semi.Ins{
		op(push, 9), op(newRec, 1), op(is, 1), op(put),
		op(push, 5), op(newRec, 1), op(store, 0), op(push, 5), op(newRec, 1), op(store, 1), op(load, 0), op(store, 2),
		op(load, 0), op(load, 1), op(same, 1), op(put), op(load, 0), op(load, 2), op(same, 1), op(put),
		op(load, 2), op(push, 6), op(set, 1, 0), op(load, 0), op(get, 1, 0), op(put), op(load, 1), op(get, 1, 0), op(put),
		op(null, 1), op(store, 0), op(load, 0), op(is, 1), op(ret),
	}}}}
	image := imageOf(p)
	wantFit(t, image)
	state := start(t, image, 6, 1)
	var out []int
	m := newModel(p, 6, 1)
	for m.status == 0 {
		state = wantPackedAs(t, image, state, m)
		want := m.goOn(nil, 1)
		state = wantRound(t, image, state, nil, 1, want)
		out = append(out, want.Out...)
	}
	if !equalLists(out, []int{0, 0, 1, 6, 5, 1}) {
		t.Errorf("P12: %v", out)
	}
}
