package semi_test

import (
	"math/rand"

	"semi/semi"
)

// randomProg is a program; often its functions fit.
func randomProg(g *rand.Rand) semi.Prog {
	var p semi.Prog
	p.Types = make([][]int, g.Intn(7))
	for k := range p.Types {
		p.Types[k] = randomTypes(g, g.Intn(6), len(p.Types))
	}
	p.Funcs = make([]semi.Func, 1+g.Intn(6))
	for k := range p.Funcs {
		f := &p.Funcs[k]
		if k > 0 {
			f.Args = g.Intn(5)
			f.Result = g.Intn(len(p.Types) + 1)
		}
		f.Locals = randomTypes(g, f.Args+g.Intn(9-f.Args), len(p.Types))
	}
	tame := g.Intn(5) > 0
	for k := range p.Funcs {
		p.Funcs[k].Code = randomCode(g, p, p.Funcs[k], tame)
	}
	return p
}

func randomTypes(g *rand.Rand, count, most int) []int {
	list := make([]int, count)
	for k := range list {
		list[k] = g.Intn(most + 1)
	}
	return list
}

// randomIns is an instruction of a function that will have so many.
func randomIns(g *rand.Rand, p semi.Prog, f semi.Func, count int) semi.Ins {
	for {
		n := semi.Ins{Op: g.Intn(19)}
		choices := 1
		switch n.Op {
		case push:
			choices = 256
		case load, store:
			choices = len(f.Locals)
		case newRec, get, set, null, is, same:
			choices = len(p.Types)
		case jump, zero:
			choices = count
		case call:
			choices = len(p.Funcs)
		}
		if choices == 0 {
			continue
		}
		n.A = g.Intn(choices)
		if n.Op >= newRec && n.Op <= same {
			n.A++
		}
		if n.Op == get || n.Op == set {
			if len(p.Types[n.A-1]) == 0 {
				continue
			}
			n.B = g.Intn(len(p.Types[n.A-1]))
		}
		return n
	}
}

// randomCode keeps, if tame, mostly to instructions that find what they need, and jumps only to where the stack is the same.
func randomCode(g *rand.Rand, p semi.Prog, f semi.Func, tame bool) []semi.Ins {
	count := 1 + g.Intn(24)
	var code []semi.Ins
	var stacks [][]int
	var stack []int
	for len(code) < count-1 {
		n := randomIns(g, p, f, count)
		if tame && g.Intn(400) > 0 {
			left, ok := after(p, f, n, stack)
			if n.Op == jump || n.Op == zero {
				ok = ok && n.A < len(code) && equalLists(stacks[n.A], left)
			}
			if !ok || n.Op == ret && g.Intn(3) > 0 {
				continue
			}
			stacks = append(stacks, stack)
			stack = left
		} else {
			stacks = append(stacks, stack)
		}
		code = append(code, n)
	}
	if tame {
		return append(code, op(jump, count-1))
	}
	return append(code, randomIns(g, p, f, count))
}

// after is the stack that an instruction leaves, if it finds what it needs.
func after(p semi.Prog, f semi.Func, n semi.Ins, stack []int) ([]int, bool) {
	takes := spell(p, f, n, table[n.Op].takes)
	rest := len(stack) - len(takes)
	if rest < 0 || !equalLists(stack[rest:], takes) || n.Op == ret && rest > 0 {
		return nil, false
	}
	left := join(stack[:rest], spell(p, f, n, table[n.Op].gives))
	return left, len(left) <= 8
}
