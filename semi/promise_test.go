package semi_test

import (
	"math/rand"
	"reflect"
	"strings"
	"testing"

	"semi/semi"
)

// askAll makes every call; that it comes back is what is tested.
func askAll(image string, p semi.Prog, list []int, a, b int) {
	semi.Check(image)
	semi.Decode(image)
	semi.Encode(p)
	semi.Stack(image, a, b)
	semi.Start(image, a, b)
	semi.Go(image, list, list, a)
	semi.Pack(image, list)
	semi.Live(image, list)
}

// P1: every call ends, at texts that are nearly images and at texts that are not at all.
func TestEveryCallEnds(t *testing.T) {
	g := rand.New(rand.NewSource(3))
	ends := []int{leastInt, -1, 0, 1, 63, 64, 65535, 65536, greatestInt}
	for range 4000 {
		p := randomProg(g)
		text := []byte(imageOf(p))
		for range g.Intn(4) {
			text[g.Intn(len(text))] = byte(g.Intn(256))
		}
		for _, s := range slots(&p) {
			if g.Intn(200) == 0 {
				*s.n = ends[g.Intn(len(ends))]
			}
		}
		a, b := ends[g.Intn(len(ends))], ends[g.Intn(len(ends))]
		askAll(string(text), p, ends, a, b)
		noise := make([]byte, g.Intn(40))
		g.Read(noise)
		askAll(string(noise), semi.Prog{}, nil, a, b)
	}
	askAll(strings.Repeat("\x01", 1<<20), semi.Prog{}, nil, 0, 0)
}

// P1: with an error every other result is its type's zero value, and of several errors the first named is the answer.
func TestFirstErrorAndZeroValues(t *testing.T) {
	wrong := only(op(ret))
	wantError(t, imageOf(wrong), semi.ErrType, 0)
	wantError(t, imageOf(wrong)+"\x00", semi.ErrImage, len(imageOf(wrong)))
	wantError(t, imageOf(wrong)+strings.Repeat("\x00", 800), semi.ErrLong, 0)
	wantNoProg(t, semi.Prog{Types: make([][]int, 7), Funcs: longProg(8).Funcs})
}

// P2: a call changes nothing that it is given.
func TestArgumentsStay(t *testing.T) {
	g := rand.New(rand.NewSource(4))
	for range 500 {
		p := randomProg(g)
		if g.Intn(2) == 0 {
			all := slots(&p)
			*all[g.Intn(len(all))].n = g.Intn(300) - 10
		}
		before := copyProg(p)
		roomy := spread(p)
		semi.Encode(roomy)
		if !reflect.DeepEqual(copyProg(roomy), before) || !untouched(roomy) {
			t.Fatalf("Encode changed %v to %v", before, roomy)
		}
	}
}

// spread is the same program, with marked room behind each list.
func spread(p semi.Prog) semi.Prog {
	q := semi.Prog{Types: append(make([][]int, 0, len(p.Types)+9), p.Types...), Funcs: append(make([]semi.Func, 0, len(p.Funcs)+9), p.Funcs...)}
	for k, fields := range q.Types {
		q.Types[k] = marked(fields)
	}
	for k := range q.Funcs {
		q.Funcs[k].Locals = marked(q.Funcs[k].Locals)
	}
	return q
}

func marked(list []int) []int {
	roomy := append([]int(nil), list...)
	for range 9 {
		roomy = append(roomy, -77)
	}
	return roomy[:len(list)]
}

func untouched(p semi.Prog) bool {
	lists := append([][]int(nil), p.Types...)
	for _, f := range p.Funcs {
		lists = append(lists, f.Locals)
	}
	return untouchedLists(lists...)
}

// spoil changes every number of a program, and the room behind its lists.
func spoil(p *semi.Prog) {
	for _, s := range slots(p) {
		*s.n = -99
	}
	for k, fields := range p.Types {
		p.Types[k] = append(fields, -99, -99)
	}
	for k := range p.Funcs {
		f := &p.Funcs[k]
		f.Locals = append(f.Locals, -99, -99)
		f.Code = append(f.Code, semi.Ins{Op: -99})
	}
	p.Types = append(p.Types, nil)
	p.Funcs = append(p.Funcs, semi.Func{})
}

// P2: the same question has the same answer, whatever became of the answer before.
func TestAnswersAreNew(t *testing.T) {
	image := rowsImage()
	kept, _, _ := semi.Decode(image)
	lost, _, _ := semi.Decode(image)
	spoil(&lost)
	again, e, at := semi.Decode(image)
	if e != semi.OK || at != 0 || imageOf(kept) != image || imageOf(again) != image {
		t.Errorf("Decode = %v, then %v", kept, again)
	}
	s, _ := semi.Encode(kept)
	spoil(&kept)
	if s != image {
		t.Errorf("Encode's answer became %q", s)
	}
	deep := imageOf(only(append(laying(make([]int, 8)), op(jump, 8))...))
	first, _ := semi.Stack(deep, 0, 8)
	second, _ := semi.Stack(deep, 0, 8)
	for k := range first {
		first[k] = -99
	}
	first = append(first[:4], -99)
	third, _ := semi.Stack(deep, 0, 8)
	if !equalLists(second, make([]int, 8)) || !equalLists(third, make([]int, 8)) || len(first) != 5 {
		t.Errorf("Stack = %v, then %v", second, third)
	}
}

// P2: no list of an answer reaches into another.
func TestListsOfAnAnswer(t *testing.T) {
	image := rowsImage()
	want, _, _ := semi.Decode(image)
	p, _, _ := semi.Decode(image)
	for k := range p.Types {
		_ = append(p.Types[k], -99, -99, -99)
	}
	for k := range p.Funcs {
		_ = append(p.Funcs[k].Locals, -99, -99, -99)
		_ = append(p.Funcs[k].Code, semi.Ins{Op: -99}, semi.Ins{Op: -99})
	}
	if !equalProgs(p, want) {
		t.Errorf("Decode's lists share memory: %v", p)
	}
	all := slots(&p)
	for k, s := range all {
		*s.n = -k
	}
	for k, s := range all {
		if *s.n != -k {
			t.Errorf("Decode's lists share memory at %d", s.at)
		}
	}
}

// P2: the order of the questions makes no difference.
func TestOrderOfQuestions(t *testing.T) {
	type answers struct {
		check, stack semi.Errno
		at           int
		list         []int
		prog         semi.Prog
		text         string
	}
	ask := func(p semi.Prog) answers {
		var a answers
		a.text, _ = semi.Encode(p)
		a.check, a.at = semi.Check(imageOf(p))
		a.list, a.stack = semi.Stack(imageOf(p), 0, 1)
		a.prog, _, _ = semi.Decode(imageOf(p))
		return a
	}
	g := rand.New(rand.NewSource(5))
	var progs []semi.Prog
	var first []answers
	for range 300 {
		p := randomProg(g)
		progs = append(progs, p)
		first = append(first, ask(p))
	}
	for k := len(progs) - 1; k >= 0; k-- {
		if again := ask(progs[k]); !reflect.DeepEqual(again, first[k]) {
			t.Fatalf("%v, then %v", first[k], again)
		}
	}
}
