package semi_test

import (
	"semi/semi"
)

// A model is a run as the document tells it, in all of Go: records are Go's own, and what can be reached is looked for anew at every New.
type model struct {
	prog        semi.Prog
	heap, depth int
	acts        []*act
	status      int
	made, full  int // the words of all records that were made, and how many times they would not have had room together
}

type act struct {
	f, at         int
	locals, stack []value
}

type record struct{ fields []value }

type value struct {
	n   int
	rec *record
}

func newModel(p semi.Prog, heap, depth int) *model {
	m := &model{prog: p, heap: heap, depth: depth}
	m.enter(0, nil)
	return m
}

func (m *model) enter(f int, args []value) {
	locals := make([]value, len(m.prog.Funcs[f].Locals))
	copy(locals, args)
	m.acts = append(m.acts, &act{f: f, locals: locals})
}

// live counts the live words.
func (m *model) live() int {
	seen := map[*record]bool{}
	words := 0
	var visit func(list []value)
	visit = func(list []value) {
		for _, v := range list {
			if v.rec != nil && !seen[v.rec] {
				seen[v.rec] = true
				words += 1 + len(v.rec.fields)
				visit(v.rec.fields)
			}
		}
	}
	for _, a := range m.acts {
		visit(a.locals)
		visit(a.stack)
	}
	return words
}

// goOn makes at most fuel instructions, and answers what Go is to answer but for the state.
func (m *model) goOn(in []int, fuel int) semi.Round {
	var r semi.Round
	for range fuel {
		if m.status != 0 {
			break
		}
		a := m.acts[len(m.acts)-1]
		n := m.prog.Funcs[a.f].Code[a.at]
		if n.Op == read && r.Used == len(in) {
			r.Status = 2
			return r
		}
		m.step(a, n, in, &r)
	}
	r.Status = m.status
	return r
}

func (m *model) step(a *act, n semi.Ins, in []int, r *semi.Round) {
	lay := func(v value) { a.stack = append(a.stack, v) }
	count := func(n int) { lay(value{n: ((n % 65536) + 65536) % 65536}) }
	yes := func(b bool) {
		if b {
			count(1)
		} else {
			count(0)
		}
	}
	takes := len(spell(m.prog, m.prog.Funcs[a.f], n, table[n.Op].takes))
	top := a.stack[len(a.stack)-takes:]
	if n.Op == newRec {
		words := 1 + len(m.prog.Types[n.A-1])
		if m.live()+words > m.heap {
			m.status = 4
			return
		}
		m.made += words
		if m.made > m.heap {
			m.full++
		}
	}
	if n.Op == call && len(m.acts) == m.depth {
		m.status = 5
		return
	}
	a.stack = append([]value(nil), a.stack[:len(a.stack)-takes]...)
	a.at++
	switch n.Op {
	case push:
		count(n.A)
	case add:
		count(top[0].n + top[1].n)
	case sub:
		count(top[0].n - top[1].n)
	case mul:
		count(top[0].n * top[1].n)
	case less:
		yes(top[0].n < top[1].n)
	case load:
		lay(a.locals[n.A])
	case store:
		a.locals[n.A] = top[0]
	case newRec:
		lay(value{rec: &record{append([]value(nil), top...)}})
	case get, set:
		if top[0].rec == nil {
			m.status = 3
		} else if n.Op == get {
			lay(top[0].rec.fields[n.B])
		} else {
			top[0].rec.fields[n.B] = top[1]
		}
	case null:
		lay(value{})
	case is:
		yes(top[0].rec == nil)
	case same:
		yes(top[0].rec == top[1].rec)
	case jump:
		a.at = n.A
	case zero:
		if top[0].n == 0 {
			a.at = n.A
		}
	case call:
		m.enter(n.A, top)
	case ret:
		m.acts = m.acts[:len(m.acts)-1]
		if len(m.acts) == 0 {
			r.Out = append(r.Out, top[0].n)
			m.status = 1
			return
		}
		b := m.acts[len(m.acts)-1]
		b.stack = append(b.stack, top[0])
	case put:
		r.Out = append(r.Out, top[0].n)
	case read:
		count(in[r.Used])
		r.Used++
	}
}
