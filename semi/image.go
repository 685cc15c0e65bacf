package semi

// opened is what an image was read as: a program, or the error and its place.
type opened struct {
	prog  Prog
	spots [][]spot // of each function, if they were asked to fit
	err   Errno
	at    int
}

// open reads an image; the functions need not fit.
func open(image string) opened {
	if len(image) > maxImage {
		return opened{err: ErrLong}
	}
	numbers := bytesOf(image)
	return readProg(numbers)
}

func bytesOf(image string) []int {
	var numbers []int
	for k := 0; k < len(image); k++ {
		numbers = append(numbers, int(image[k]))
	}
	return numbers
}

func textOf(numbers []int) string {
	var text []byte
	for _, n := range numbers {
		text = append(text, byte(n))
	}
	return string(text)
}

// readProg reads what an image holds. It alone says what a program is: Encode asks it, too, and may hand it numbers that are no bytes.
func readProg(numbers []int) opened {
	r := reader{numbers: numbers}
	p := r.takeProg()
	if r.stopped || r.at < len(r.numbers) {
		return opened{err: ErrImage, at: r.at}
	}
	return opened{prog: p}
}

// reader goes along an image's numbers, and stops for good at the first that cannot stand there, or where one is missing.
type reader struct {
	numbers []int
	at      int
	stopped bool
}

// take answers the next number, if it is from low to high. Else it stops and answers 0, so that no list is read behind the fault.
func (r *reader) take(low int, high int) int {
	if r.stopped || r.at >= len(r.numbers) {
		r.stopped = true
		return 0
	}
	n := r.numbers[r.at]
	if n < low || n > high {
		r.stopped = true
		return 0
	}
	r.at++
	return n
}

func (r *reader) takeProg() Prog {
	var p Prog
	types := r.take(0, maxTypes)
	for k := 0; k < types; k++ {
		count := r.take(0, maxFields)
		fields := r.takeTypes(count, types)
		p.Types = append(p.Types, fields)
	}
	funcs := r.take(1, maxFuncs)
	for k := 0; k < funcs; k++ {
		f := r.takeFunc(k, scope{types: p.Types, funcs: funcs})
		p.Funcs = append(p.Funcs, f)
	}
	return p
}

func (r *reader) takeTypes(count int, greatest int) []int {
	var list []int
	for k := 0; k < count; k++ {
		t := r.take(0, greatest)
		list = append(list, t)
	}
	return list
}

func (r *reader) takeFunc(place int, s scope) Func {
	mostArgs := maxArgs
	greatestResult := len(s.types)
	if place == 0 {
		mostArgs = 0
		greatestResult = number
	}
	var f Func
	f.Args = r.take(0, mostArgs)
	s.locals = r.take(f.Args, maxLocals)
	f.Locals = r.takeTypes(s.locals, len(s.types))
	f.Result = r.take(0, greatestResult)
	s.code = r.take(1, maxCode)
	for k := 0; k < s.code; k++ {
		n := r.takeIns(s)
		f.Code = append(f.Code, n)
	}
	return f
}

func (r *reader) takeIns(s scope) Ins {
	op := r.take(0, opRead)
	low, high := s.boundsA(op)
	a := r.take(low, high)
	high = s.greatestB(op, a)
	b := r.take(0, high)
	return Ins{Op: op, A: a, B: b}
}

// hasLongList tells whether a list of p is longer than a program's may be.
func hasLongList(p Prog) bool {
	if len(p.Types) > maxTypes || len(p.Funcs) > maxFuncs {
		return true
	}
	for _, fields := range p.Types {
		if len(fields) > maxFields {
			return true
		}
	}
	for _, f := range p.Funcs {
		if len(f.Locals) > maxLocals || len(f.Code) > maxCode {
			return true
		}
	}
	return false
}

// numbersOf lists what p's image would hold, whether p is a program or not.
func numbersOf(p Prog) []int {
	var list []int
	list = append(list, len(p.Types))
	for _, fields := range p.Types {
		list = append(list, len(fields))
		list = append(list, fields...)
	}
	list = append(list, len(p.Funcs))
	for _, f := range p.Funcs {
		list = append(list, f.Args, len(f.Locals))
		list = append(list, f.Locals...)
		list = append(list, f.Result, len(f.Code))
		for _, n := range f.Code {
			list = append(list, n.Op, n.A, n.B)
		}
	}
	return list
}
