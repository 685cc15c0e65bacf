// Package semi: a machine for typed programs, with records in a small memory: see DOC.md.
package semi

// Errno is what a call answers: OK or the reason for a refusal.
type Errno int

const (
	OK       Errno = 0
	ErrLong  Errno = 1 // an image above its bound
	ErrImage Errno = 2 // no program's image
	ErrType  Errno = 3 // a function that does not fit
	ErrRange Errno = 4 // a number out of its range
	ErrState Errno = 5 // no state of this image
	ErrNone  Errno = 6 // an instruction that is never come to
	ErrProg  Errno = 7 // no program
)

// Ins is an instruction.
type Ins struct{ Op, A, B int }

// Func is a function.
type Func struct {
	Args   int
	Locals []int
	Result int
	Code   []Ins
}

// Prog is a program: the record types, each by its fields' types, and the functions.
type Prog struct {
	Types [][]int
	Funcs []Func
}

// Round is what a run did in one call of Go.
type Round struct {
	State  []int
	Out    []int
	Used   int
	Status int
}

// Check tells whether an image is a program whose functions fit (P3).
func Check(image string) (Errno, int) {
	o := openFitting(image)
	return o.err, o.at
}

// Decode reads a program's image (P4).
func Decode(image string) (Prog, Errno, int) {
	o := open(image)
	return o.prog, o.err, o.at
}

// Encode writes a program's image (P5).
func Encode(p Prog) (string, Errno) {
	// The lists' lengths are looked at ahead of all else, so that the work is bounded however great p is.
	if hasLongList(p) {
		return "", ErrProg
	}
	numbers := numbersOf(p)
	o := readProg(numbers)
	if o.err != OK {
		return "", ErrProg
	}
	if len(numbers) > maxImage {
		return "", ErrLong
	}
	return textOf(numbers), OK
}

// Stack tells the stack of an instruction (P6).
func Stack(image string, f int, i int) ([]int, Errno) {
	o := openFitting(image)
	if o.err != OK {
		return nil, o.err
	}
	if f < 0 || f >= len(o.prog.Funcs) {
		return nil, ErrRange
	}
	if i < 0 || i >= len(o.prog.Funcs[f].Code) {
		return nil, ErrRange
	}
	p := spotAt(o.spots, f, i)
	if !p.reached {
		return nil, ErrNone
	}
	return joined(p.stack, nil), OK
}

// Start begins a run (P7).
func Start(image string, heap int, depth int) ([]int, Errno, int) {
	o := openFitting(image)
	if o.err != OK {
		return nil, o.err, o.at
	}
	if heap < 0 || heap > maxHeap || depth < 1 || depth > maxDepth {
		return nil, ErrRange, 0
	}
	r := begin(o, image)
	r.heap = heap
	r.depth = depth
	return layDown(r), OK, 0
}

// Go goes on with a run (P8, P9).
func Go(image string, state []int, in []int, fuel int) (Round, Errno) {
	r, e := takeUp(image, state)
	if e != OK {
		return Round{}, e
	}
	if fuel < 0 || fuel > maxFuel {
		return Round{}, ErrRange
	}
	r.in = in
	status := r.goOn(fuel)
	return Round{State: layDown(r), Out: r.out, Used: r.used, Status: status}, OK
}

// Pack clears away what cannot be reached (P11).
func Pack(image string, state []int) ([]int, Errno) {
	r, e := takeUp(image, state)
	if e != OK {
		return nil, e
	}
	r.clearAway()
	return layDown(r), OK
}

// Live tells the live words (P11).
func Live(image string, state []int) (int, Errno) {
	r, e := takeUp(image, state)
	if e != OK {
		return 0, e
	}
	r.clearAway()
	return len(r.words), OK
}
