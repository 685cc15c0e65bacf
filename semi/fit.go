package semi

// openFitting reads an image whose functions must fit.
func openFitting(image string) opened {
	o := open(image)
	if o.err != OK {
		return o
	}
	for k, f := range o.prog.Funcs {
		t := fit(o.prog, f)
		if t.wrong {
			return opened{err: ErrType, at: k}
		}
	}
	return o
}

// spot is what is known of an instruction: whether it is come to, and with which stack.
type spot struct {
	reached bool
	stack   []int
}

// fitting gives the instructions of a function their stacks.
type fitting struct {
	prog  Prog
	fun   Func
	spots []spot
	queue []int // the instructions that are come to, in the order in which they were
	wrong bool
}

// fit gives every instruction that is come to its stack. Each is laid in the queue at most once, so as many steps as there are instructions are enough.
func fit(p Prog, f Func) fitting {
	t := fitting{prog: p, fun: f, spots: make([]spot, len(f.Code))}
	t.goOn(0, nil)
	for k := 0; k < len(f.Code); k++ {
		if t.wrong || k >= len(t.queue) {
			return t
		}
		i := t.queue[k]
		t.pass(i)
	}
	return t
}

// goOn hands a stack to the instruction at which the run can go on.
func (t *fitting) goOn(i int, stack []int) {
	if i < 0 || i >= len(t.spots) {
		t.wrong = true
		return
	}
	if !t.spots[i].reached {
		t.spots[i].reached = true
		t.spots[i].stack = stack
		t.queue = append(t.queue, i)
		return
	}
	if !sameList(t.spots[i].stack, stack) {
		t.wrong = true
	}
}

// pass hands on what instruction i, which is come to, leaves.
func (t *fitting) pass(i int) {
	n := t.fun.Code[i]
	stack := t.spots[i].stack
	needs := stackAhead(t.prog, t.fun, n)
	rest := len(stack) - len(needs)
	if rest < 0 || !sameList(stack[rest:], needs) {
		t.wrong = true
		return
	}
	if n.Op == opRet {
		if rest > 0 {
			t.wrong = true
		}
		return
	}
	gives := stackBehind(t.prog, t.fun, n)
	left := joined(stack[:rest], gives)
	if len(left) > maxStack {
		t.wrong = true
		return
	}
	if n.Op == opJump || n.Op == opZero {
		t.goOn(n.A, left)
	}
	if n.Op != opJump {
		t.goOn(i+1, left)
	}
}

// stackAhead lists the types that an instruction of f takes off its stack, the top one last.
func stackAhead(p Prog, f Func, n Ins) []int {
	switch n.Op {
	case opAdd, opSub, opMul, opLess:
		return []int{number, number}
	case opZero, opPrint:
		return []int{number}
	case opStore:
		return []int{typeAt(f.Locals, n.A)}
	case opNew:
		return fieldsOf(p.Types, n.A)
	case opGet, opIs:
		return []int{n.A}
	case opSet:
		fields := fieldsOf(p.Types, n.A)
		return []int{n.A, typeAt(fields, n.B)}
	case opSame:
		return []int{n.A, n.A}
	case opCall:
		return argsOf(p.Funcs, n.A)
	case opRet:
		return []int{f.Result}
	}
	return nil
}

// stackBehind lists the types that an instruction of f lays on its stack.
func stackBehind(p Prog, f Func, n Ins) []int {
	switch n.Op {
	case opPush, opAdd, opSub, opMul, opLess, opIs, opSame, opRead:
		return []int{number}
	case opLoad:
		return []int{typeAt(f.Locals, n.A)}
	case opNew, opNull:
		return []int{n.A}
	case opGet:
		fields := fieldsOf(p.Types, n.A)
		return []int{typeAt(fields, n.B)}
	case opCall:
		return []int{resultOf(p.Funcs, n.A)}
	}
	return nil
}

// typeAt answers the type at a place of a list. A program's operands are places of their lists; the test holds for all others.
func typeAt(list []int, place int) int {
	if place < 0 || place >= len(list) {
		return number
	}
	return list[place]
}

func argsOf(funcs []Func, f int) []int {
	if f < 0 || f >= len(funcs) {
		return nil
	}
	count := funcs[f].Args
	if count < 0 || count > len(funcs[f].Locals) {
		return nil
	}
	return funcs[f].Locals[:count]
}

func resultOf(funcs []Func, f int) int {
	if f < 0 || f >= len(funcs) {
		return number
	}
	return funcs[f].Result
}

func sameList(a []int, b []int) bool {
	if len(a) != len(b) {
		return false
	}
	for k := range a {
		if a[k] != b[k] {
			return false
		}
	}
	return true
}

// joined is a new list: one list and another behind it.
func joined(a []int, b []int) []int {
	var list []int
	list = append(list, a...)
	list = append(list, b...)
	return list
}
