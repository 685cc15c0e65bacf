package semi

// openFitting reads an image whose functions must fit.
func openFitting(image string) opened {
	o := open(image)
	if o.err != OK {
		return o
	}
	for k, f := range o.prog.Funcs {
		t := fit(o.prog, f)
		if t.wrong {
			return opened{err: ErrType, at: k}
		}
		o.spots = append(o.spots, t.spots)
	}
	return o
}

// spot is what is known of an instruction: whether it is come to, and with which stack.
type spot struct {
	reached bool
	stack   []int
}

// fitting gives the instructions of a function their stacks.
type fitting struct {
	prog  Prog
	fun   Func
	spots []spot
	queue []int // the instructions that are come to, in the order in which they were
	wrong bool
}

// fit gives every instruction that is come to its stack. Each is laid in the queue at most once, so as many steps as there are instructions are enough.
func fit(p Prog, f Func) fitting {
	t := fitting{prog: p, fun: f, spots: make([]spot, len(f.Code))}
	t.goOn(0, nil)
	for k := 0; k < len(f.Code); k++ {
		if t.wrong || k >= len(t.queue) {
			return t
		}
		i := t.queue[k]
		t.pass(i)
	}
	return t
}

// goOn hands a stack to the instruction at which the run can go on.
func (t *fitting) goOn(i int, stack []int) {
	if i < 0 || i >= len(t.spots) {
		t.wrong = true
		return
	}
	if !t.spots[i].reached {
		t.spots[i].reached = true
		t.spots[i].stack = stack
		t.queue = append(t.queue, i)
		return
	}
	if !sameList(t.spots[i].stack, stack) {
		t.wrong = true
	}
}

// pass hands on what instruction i, which is come to, leaves.
func (t *fitting) pass(i int) {
	n := t.fun.Code[i]
	stack := t.spots[i].stack
	needs := stackAhead(t.prog, t.fun, n)
	rest := len(stack) - len(needs)
	if rest < 0 || !sameList(stack[rest:], needs) {
		t.wrong = true
		return
	}
	if n.Op == opRet {
		if rest > 0 {
			t.wrong = true
		}
		return
	}
	gives := stackBehind(t.prog, t.fun, n)
	left := joined(stack[:rest], gives)
	if len(left) > maxStack {
		t.wrong = true
		return
	}
	if n.Op == opJump || n.Op == opZero {
		t.goOn(n.A, left)
	}
	if n.Op != opJump {
		t.goOn(i+1, left)
	}
}

// stackAhead lists the types that an instruction of f takes off its stack, the top one last.
func stackAhead(p Prog, f Func, n Ins) []int {
	switch n.Op {
	case opAdd, opSub, opMul, opLess:
		return []int{number, number}
	case opZero, opPrint:
		return []int{number}
	case opStore:
		return []int{entry(f.Locals, n.A)}
	case opNew:
		return fieldsOf(p.Types, n.A)
	case opGet, opIs:
		return []int{n.A}
	case opSet:
		fields := fieldsOf(p.Types, n.A)
		return []int{n.A, entry(fields, n.B)}
	case opSame:
		return []int{n.A, n.A}
	case opCall:
		called := funcAt(p.Funcs, n.A)
		return argsOf(called)
	case opRet:
		return []int{f.Result}
	}
	return nil
}

// stackBehind lists the types that an instruction of f lays on its stack.
func stackBehind(p Prog, f Func, n Ins) []int {
	switch n.Op {
	case opPush, opAdd, opSub, opMul, opLess, opIs, opSame, opRead:
		return []int{number}
	case opLoad:
		return []int{entry(f.Locals, n.A)}
	case opNew, opNull:
		return []int{n.A}
	case opGet:
		fields := fieldsOf(p.Types, n.A)
		return []int{entry(fields, n.B)}
	case opCall:
		called := funcAt(p.Funcs, n.A)
		return []int{called.Result}
	}
	return nil
}

// spotAt answers what is known of instruction i of function f.
func spotAt(spots [][]spot, f int, i int) spot {
	if f < 0 || f >= len(spots) {
		return spot{}
	}
	if i < 0 || i >= len(spots[f]) {
		return spot{}
	}
	return spots[f][i]
}

func sameList(a []int, b []int) bool {
	if len(a) != len(b) {
		return false
	}
	for k := range a {
		if a[k] != b[k] {
			return false
		}
	}
	return true
}

// joined is a new list: one list and another behind it.
func joined(a []int, b []int) []int {
	var list []int
	list = append(list, a...)
	list = append(list, b...)
	return list
}
