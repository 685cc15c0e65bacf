package semi_test

import (
	"math/rand"

	"semi/semi"
)

// busy writes functions that make, change and drop records, so that a run goes on for long and comes to every kind of end.
type busy struct {
	g     *rand.Rand
	p     semi.Prog
	f     int
	code  []semi.Ins
	depth int
}

func busyProg(g *rand.Rand) semi.Prog {
	for {
		b := busy{g: g}
		b.p.Types = make([][]int, 1+g.Intn(4))
		for k := range b.p.Types {
			b.p.Types[k] = randomTypes(g, min(g.Intn(6), 1+g.Intn(5)), len(b.p.Types))
		}
		b.p.Funcs = make([]semi.Func, 1+g.Intn(4))
		for k := range b.p.Funcs {
			f := &b.p.Funcs[k]
			if k > 0 {
				f.Args = g.Intn(5)
				f.Result = g.Intn(len(b.p.Types) + 1)
			}
			f.Locals = randomTypes(g, f.Args+g.Intn(9-f.Args), len(b.p.Types))
		}
		fits := true
		for k := range b.p.Funcs {
			b.f, b.code = k, nil
			b.part(4 + g.Intn(8))
			b.lay(b.p.Funcs[k].Result)
			b.put(op(ret))
			b.p.Funcs[k].Code = b.code
			fits = fits && len(b.code) <= 64
		}
		if fits && len(imageOf(b.p)) <= 800 {
			return b.p
		}
	}
}

func (b *busy) put(list ...semi.Ins) { b.code = append(b.code, list...) }

func (b *busy) here() int { return len(b.code) }

// local is a local of the type, if there is one.
func (b *busy) local(kind int) (int, bool) {
	locals := b.p.Funcs[b.f].Locals
	for _, k := range b.g.Perm(len(locals)) {
		if locals[k] == kind {
			return k, true
		}
	}
	return 0, false
}

// lay lays a value of the type on the stack, with room for at most as many as a new record has fields.
func (b *busy) lay(kind int) {
	l, ok := b.local(kind)
	switch {
	case ok && b.g.Intn(4) > 0:
		b.put(op(load, l))
	case kind != number:
		b.put(op(null, kind))
	case b.g.Intn(3) == 0:
		b.put(op(read))
	default:
		b.put(op(push, b.g.Intn(256)))
	}
}

// drop takes a value of the type off the stack.
func (b *busy) drop(kind int) {
	l, ok := b.local(kind)
	switch {
	case ok && b.g.Intn(5) > 0:
		b.put(op(store, l))
	case kind != number:
		b.put(op(is, kind), op(put))
	default:
		b.put(op(put))
	}
}

func (b *busy) lays(kinds []int) {
	for _, k := range kinds {
		b.lay(k)
	}
}

// part writes so many pieces; each leaves the stack as it was.
func (b *busy) part(count int) {
	for range count {
		b.piece()
	}
}

func (b *busy) piece() {
	g := b.g
	kind := 1 + g.Intn(len(b.p.Types))
	fields := b.p.Types[kind-1]
	switch g.Intn(9) {
	case 0, 1, 2:
		b.lays(fields)
		b.put(op(newRec, kind))
		b.drop(kind)
	case 3, 4:
		b.change(kind, fields)
	case 5:
		// Mostly a function behind this one, so that not every run ends too deep.
		f := b.f + 1
		if f == len(b.p.Funcs) || g.Intn(20) == 0 {
			f = g.Intn(len(b.p.Funcs))
		}
		if f <= b.f && g.Intn(10) > 0 {
			return
		}
		b.lays(b.p.Funcs[f].Locals[:b.p.Funcs[f].Args])
		b.put(op(call, f))
		b.drop(b.p.Funcs[f].Result)
	case 6:
		b.lays([]int{number, number})
		b.put(op(add + g.Intn(4)))
		b.drop(number)
	case 7:
		b.lays([]int{kind, kind})
		b.put(op(same, kind))
		b.drop(number)
	case 8:
		b.nest(kind)
	}
}

// change reads or writes a field of a local; mostly it asks ahead whether that is nothing.
func (b *busy) change(kind int, fields []int) {
	l, ok := b.local(kind)
	if !ok || len(fields) == 0 {
		return
	}
	field := b.g.Intn(len(fields))
	careful := b.g.Intn(12) > 0
	at := b.here()
	if careful {
		b.put(op(load, l), op(is, kind), op(zero, at+4), op(jump))
	}
	b.put(op(load, l))
	if b.g.Intn(2) == 0 {
		b.put(op(get, kind, field))
		b.drop(fields[field])
	} else {
		b.lay(fields[field])
		b.put(op(set, kind, field))
	}
	if careful {
		b.code[at+3].A = b.here()
	}
}

// nest writes pieces that are done over and over, or with a value below them on the stack.
func (b *busy) nest(kind int) {
	if b.depth >= 2 {
		return
	}
	b.depth++
	if b.g.Intn(2) == 0 {
		b.lay(kind)
		b.part(1 + b.g.Intn(3))
		b.drop(kind)
	} else {
		at := b.here()
		b.part(1 + b.g.Intn(3))
		b.put(op(read), op(zero, at))
	}
	b.depth--
}
