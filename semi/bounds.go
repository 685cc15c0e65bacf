package semi

// The limits of a program and of its runs.
const (
	maxImage  = 800
	maxTypes  = 6
	maxFields = 5
	maxFuncs  = 6
	maxArgs   = 4
	maxLocals = 8
	maxCode   = 64
	maxStack  = 8
	maxHeap   = 4000
	maxDepth  = 64
	maxFuel   = 10000
)

// Sums, differences and products are taken modulo this.
const modulus = 65536

// The type of a number; the others are record types, counted from 1.
const number = 0

// The opcodes.
const (
	opPush  = 0
	opAdd   = 1
	opSub   = 2
	opMul   = 3
	opLess  = 4
	opLoad  = 5
	opStore = 6
	opNew   = 7
	opGet   = 8
	opSet   = 9
	opNull  = 10
	opIs    = 11
	opSame  = 12
	opJump  = 13
	opZero  = 14
	opCall  = 15
	opRet   = 16
	opPrint = 17
	opRead  = 18
)

// scope is what an instruction's operands may name.
type scope struct {
	types  [][]int
	funcs  int
	locals int
	code   int
}

// boundsA answers the least and the greatest A of an opcode; where no A can stand, the least is the greater one.
func (s scope) boundsA(op int) (int, int) {
	switch op {
	case opPush:
		return 0, 255
	case opLoad, opStore:
		return 0, s.locals - 1
	case opNew, opGet, opSet, opNull, opIs, opSame:
		return 1, len(s.types)
	case opJump, opZero:
		return 0, s.code - 1
	case opCall:
		return 0, s.funcs - 1
	}
	return 0, 0
}

// greatestB answers the greatest B behind an opcode and A, the least being 0; -1, where no B can stand.
func (s scope) greatestB(op int, a int) int {
	if op != opGet && op != opSet {
		return 0
	}
	return len(fieldsOf(s.types, a)) - 1
}

// entry answers what stands at a place of a list. A program's operands are places of their lists; the test holds for all others.
func entry(list []int, place int) int {
	if place < 0 || place >= len(list) {
		return 0
	}
	return list[place]
}

// fieldsOf answers the fields of a record type, none where there is no such type.
func fieldsOf(types [][]int, t int) []int {
	if t < 1 || t > len(types) {
		return nil
	}
	return types[t-1]
}

// funcAt answers a function, one without code where there is none.
func funcAt(funcs []Func, f int) Func {
	if f < 0 || f >= len(funcs) {
		return Func{}
	}
	return funcs[f]
}

// insAt answers an instruction of a function.
func insAt(f Func, i int) Ins {
	if i < 0 || i >= len(f.Code) {
		return Ins{}
	}
	return f.Code[i]
}

// argsOf answers the types of a function's arguments.
func argsOf(f Func) []int {
	return front(f.Locals, f.Args)
}

// front answers the first so many of a list.
func front(list []int, count int) []int {
	if count < 0 || count > len(list) {
		return nil
	}
	return list[:count]
}
