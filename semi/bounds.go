package semi

// The limits of a program.
const (
	maxImage  = 800
	maxTypes  = 6
	maxFields = 5
	maxFuncs  = 6
	maxArgs   = 4
	maxLocals = 8
	maxCode   = 64
	maxStack  = 8
)

// The type of a number; the others are record types, counted from 1.
const number = 0

// The opcodes.
const (
	opPush  = 0
	opAdd   = 1
	opSub   = 2
	opMul   = 3
	opLess  = 4
	opLoad  = 5
	opStore = 6
	opNew   = 7
	opGet   = 8
	opSet   = 9
	opNull  = 10
	opIs    = 11
	opSame  = 12
	opJump  = 13
	opZero  = 14
	opCall  = 15
	opRet   = 16
	opPrint = 17
	opRead  = 18
)

// scope is what an instruction's operands may name.
type scope struct {
	types  [][]int
	funcs  int
	locals int
	code   int
}

// boundsA answers the least and the greatest A of an opcode; where no A can stand, the least is the greater one.
func (s scope) boundsA(op int) (int, int) {
	switch op {
	case opPush:
		return 0, 255
	case opLoad, opStore:
		return 0, s.locals - 1
	case opNew, opGet, opSet, opNull, opIs, opSame:
		return 1, len(s.types)
	case opJump, opZero:
		return 0, s.code - 1
	case opCall:
		return 0, s.funcs - 1
	}
	return 0, 0
}

// greatestB answers the greatest B behind an opcode and A, the least being 0; -1, where no B can stand.
func (s scope) greatestB(op int, a int) int {
	if op != opGet && op != opSet {
		return 0
	}
	return len(fieldsOf(s.types, a)) - 1
}

// fieldsOf answers the fields of a record type, none where there is no such type.
func fieldsOf(types [][]int, t int) []int {
	if t < 1 || t > len(types) {
		return nil
	}
	return types[t-1]
}
