package semi

// The statuses of a run. Waiting is told alone: a run that waits is a running one.
const (
	statusRunning = 0
	statusDone    = 1
	statusWaiting = 2
	statusNothing = 3
	statusFull    = 4
	statusDeep    = 5
)

// nothing is the reference to no record.
const nothing = 0

// frame is a call that has not returned.
type frame struct {
	fun    int
	at     int // the next instruction; the frames below the top one stay at their Call until it returns
	locals []int
	stack  []int
}

// run is a run between two instructions, and what it took in and put out since it was taken up.
type run struct {
	image  string
	prog   Prog
	spots  [][]spot
	heap   int
	depth  int
	status int     // running, or how the run ended: then the memory and the frames mean nothing more
	words  []int   // the records, see memory.go
	below  []frame // the frames that wait for a call, the first one first
	top    frame
	in     []int
	used   int
	out    []int
}

// begin is a run ahead of the first instruction of function 0.
func begin(o opened, image string) run {
	f := funcAt(o.prog.Funcs, 0)
	return run{image: image, prog: o.prog, spots: o.spots, top: entered(0, f, nil)}
}

// entered is the frame of function f ahead of its first instruction. Both 0 and nothing are laid down as 0, so all locals behind the arguments begin alike.
func entered(f int, fun Func, args []int) frame {
	locals := joined(args, nil)
	for k := len(args); k < len(fun.Locals); k++ {
		locals = append(locals, 0)
	}
	return frame{fun: f, locals: locals}
}

// goOn makes at most so many instructions and answers the status.
func (r *run) goOn(fuel int) int {
	for k := 0; k < fuel; k++ {
		if r.status != statusRunning {
			return r.status
		}
		f := funcAt(r.prog.Funcs, r.top.fun)
		n := insAt(f, r.top.at)
		if n.Op == opRead && r.used >= len(r.in) {
			return statusWaiting
		}
		r.do(n)
	}
	return r.status
}

// do makes one instruction.
func (r *run) do(n Ins) {
	switch n.Op {
	case opJump:
		r.top.at = n.A
	case opZero:
		v := r.top.pop()
		r.top.at++
		if v == 0 {
			r.top.at = n.A
		}
	case opCall:
		r.call(n.A)
	case opRet:
		r.giveBack()
	case opNew, opGet, opSet:
		r.useRecord(n)
		r.top.at++
	default:
		r.useValues(n)
		r.top.at++
	}
}

func (r *run) call(f int) {
	if len(r.below)+1 >= r.depth {
		r.status = statusDeep
		return
	}
	fun := funcAt(r.prog.Funcs, f)
	args := r.top.popAll(len(argsOf(fun)))
	r.below = append(r.below, r.top)
	r.top = entered(f, fun, args)
}

// giveBack returns to the frame below. Function 0 can be called, too: the run is done when its first frame returns.
func (r *run) giveBack() {
	v := r.top.pop()
	last := len(r.below) - 1
	if last < 0 {
		r.out = append(r.out, v)
		r.status = statusDone
		return
	}
	r.top = r.below[last]
	r.below = r.below[:last]
	r.top.push(v)
	r.top.at++
}

func (r *run) useRecord(n Ins) {
	if n.Op == opNew {
		r.makeRecord(n.A)
		return
	}
	v := 0
	if n.Op == opSet {
		v = r.top.pop()
	}
	ref := r.top.pop()
	if ref == nothing {
		r.status = statusNothing
		return
	}
	place := fieldPlace(ref, n.B)
	if n.Op == opGet {
		v = entry(r.words, place)
		r.top.push(v)
		return
	}
	if place >= 0 && place < len(r.words) {
		r.words[place] = v
	}
}

// makeRecord makes a new record of type t. The memory is cleared only when it has no room left: what lies in it is never less than what can be reached. The fields' values stay on the stack until then, and so are reached.
func (r *run) makeRecord(t int) {
	count := len(fieldsOf(r.prog.Types, t))
	if len(r.words)+count+1 > r.heap {
		r.clearAway()
	}
	if len(r.words)+count+1 > r.heap {
		r.status = statusFull
		return
	}
	values := r.top.popAll(count)
	ref := referenceTo(len(r.words))
	r.words = append(r.words, t)
	r.words = append(r.words, values...)
	r.top.push(ref)
}

func (r *run) useValues(n Ins) {
	switch n.Op {
	case opPush:
		r.top.push(n.A)
	case opAdd, opSub, opMul, opLess, opSame:
		second := r.top.pop()
		first := r.top.pop()
		r.top.push(reckoned(n.Op, first, second))
	case opLoad:
		v := entry(r.top.locals, n.A)
		r.top.push(v)
	case opStore:
		v := r.top.pop()
		if n.A >= 0 && n.A < len(r.top.locals) {
			r.top.locals[n.A] = v
		}
	case opNull:
		r.top.push(nothing)
	case opIs:
		v := r.top.pop()
		r.top.push(truth(v == nothing))
	case opPrint:
		v := r.top.pop()
		r.out = append(r.out, v)
	case opRead:
		v := entry(r.in, r.used)
		r.top.push(wrapped(v))
		r.used++
	}
}

func (f *frame) push(v int) {
	f.stack = append(f.stack, v)
}

func (f *frame) pop() int {
	last := len(f.stack) - 1
	if last < 0 {
		return 0
	}
	v := f.stack[last]
	f.stack = f.stack[:last]
	return v
}

// popAll takes so many values off the stack, the top one last.
func (f *frame) popAll(count int) []int {
	rest := len(f.stack) - count
	if count < 0 || rest < 0 {
		return nil
	}
	values := joined(f.stack[rest:], nil)
	f.stack = f.stack[:rest]
	return values
}

func reckoned(op int, first int, second int) int {
	switch op {
	case opAdd:
		return wrapped(first + second)
	case opSub:
		return wrapped(first - second)
	case opMul:
		return wrapped(first * second)
	case opLess:
		return truth(first < second)
	}
	return truth(first == second)
}

// wrapped is a whole number taken modulo 65536, from 0 to 65535. A product that is too great for an int comes out right, too: the modulus divides what an int is cut by.
func wrapped(n int) int {
	rest := n % modulus
	if rest < 0 {
		rest += modulus
	}
	return rest
}

func truth(yes bool) int {
	if yes {
		return 1
	}
	return 0
}
