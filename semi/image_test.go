package semi_test

import (
	"math/rand"
	"strings"
	"testing"

	"semi/semi"
)

// row is a byte of an image, and the least and the greatest that can stand there behind the rows ahead of it.
type row struct{ value, low, high int }

// rows is an image with every opcode, written out byte for byte.
func rows() []row {
	free := func(n, high int) row { return row{n, 0, high} }
	nought := free(0, 0)
	opcode := func(n int) row { return free(n, 18) }
	list := []row{
		free(2, 6),                                     // record types
		free(2, 5), free(0, 2), free(2, 2), free(0, 5), // their fields
		{2, 1, 6},                                                       // functions
		nought, free(2, 8), free(1, 2), free(0, 2), nought, {22, 1, 64}, // function 0
		opcode(push), free(255, 255), nought,
		opcode(push), free(0, 255), nought,
		opcode(add), nought, nought,
		opcode(sub), nought, nought,
		opcode(mul), nought, nought,
		opcode(less), nought, nought,
		opcode(load), free(1, 1), nought,
		opcode(store), free(0, 1), nought,
		opcode(newRec), {1, 1, 2}, nought,
		opcode(get), {1, 1, 2}, free(0, 1),
		opcode(get), {1, 1, 2}, free(1, 1),
		opcode(set), {1, 1, 2}, free(1, 1),
		opcode(null), {2, 1, 2}, nought,
		opcode(is), {1, 1, 2}, nought,
		opcode(same), {2, 1, 2}, nought,
		opcode(jump), free(21, 21), nought,
		opcode(zero), free(0, 21), nought,
		opcode(call), free(0, 1), nought,
		opcode(call), free(1, 1), nought,
		opcode(ret), nought, nought,
		opcode(put), nought, nought,
		opcode(read), nought, nought,
		free(3, 4), {4, 3, 8}, free(0, 2), free(1, 2), free(2, 2), free(1, 2), free(2, 2), {2, 1, 64}, // function 1
		opcode(store), free(3, 3), nought,
		opcode(jump), free(1, 1), nought,
	}
	return list
}

func rowsImage() string {
	var numbers []int
	for _, r := range rows() {
		numbers = append(numbers, r.value)
	}
	return raw(numbers...)
}

func TestRowsAreAProgram(t *testing.T) {
	wantProg(t, rowsImage())
}

// P3, P4: at every place every byte, by what stands ahead of it alone.
func TestEveryByteAtEveryPlace(t *testing.T) {
	image := rowsImage()
	for at, r := range rows() {
		for n := 0; n < 256; n++ {
			changed := image[:at] + raw(n) + image[at+1:]
			if n < r.low || n > r.high {
				wantError(t, changed, semi.ErrImage, at)
				wantError(t, changed[:at+1], semi.ErrImage, at)
				continue
			}
			if e, place := semi.Check(changed); e == semi.ErrImage && place <= at {
				t.Errorf("Check: byte %d at %d is refused at %d", n, at, place)
			}
			if at+1 < len(image) {
				wantError(t, changed[:at+1], semi.ErrImage, at+1)
			}
		}
	}
}

// P3, P4: an image that ends too early at every place, and one that goes on behind the last function.
func TestTooShortAndTooFar(t *testing.T) {
	image := rowsImage()
	for n := 0; n < len(image); n++ {
		wantError(t, image[:n], semi.ErrImage, n)
	}
	fits := imageOf(only(op(read), op(ret)))
	wantFit(t, fits)
	for n := 0; n < 256; n++ {
		wantError(t, image+raw(n), semi.ErrImage, len(image))
		wantError(t, fits+raw(n), semi.ErrImage, len(fits))
		wantError(t, fits+raw(n, n), semi.ErrImage, len(fits))
	}
	wantError(t, fits+fits, semi.ErrImage, len(fits))
}

// P3: an opcode, or an A, may stand though nothing may follow it.
func TestNothingMayFollow(t *testing.T) {
	for _, c := range []struct {
		ahead string
		most  int
	}{
		{raw(0, 1, 0, 0, 0, 1, load), -1}, {raw(0, 1, 0, 0, 0, 1, store), -1},
		{raw(0, 1, 0, 0, 0, 1, newRec), -1}, {raw(0, 1, 0, 0, 0, 1, get), -1}, {raw(0, 1, 0, 0, 0, 1, set), -1}, {raw(0, 1, 0, 0, 0, 1, null), -1}, {raw(0, 1, 0, 0, 0, 1, is), -1}, {raw(0, 1, 0, 0, 0, 1, same), -1},
		{raw(1, 0, 1, 0, 0, 0, 1, get, 1), -1}, {raw(1, 0, 1, 0, 0, 0, 1, set, 1), -1},
		{raw(2, 0, 2, 0, 0, 1, 0, 0, 0, 1, get, 2), 1}, {raw(2, 0, 2, 0, 0, 1, 0, 0, 0, 1, set, 2), 1}, {raw(2, 0, 2, 0, 0, 1, 0, 0, 0, 1, set, 1), -1},
	} {
		wantError(t, c.ahead, semi.ErrImage, len(c.ahead))
		for n := 0; n < 256; n++ {
			if n > c.most {
				wantError(t, c.ahead+raw(n, 0), semi.ErrImage, len(c.ahead))
			} else {
				wantProgPrefix(t, c.ahead+raw(n))
			}
		}
	}
}

// wantProgPrefix holds that every byte of a text can stand.
func wantProgPrefix(t *testing.T, text string) {
	t.Helper()
	if e, at := semi.Check(text); e == semi.ErrImage && at < len(text) {
		t.Errorf("Check(%.80q) = %d, %d: each of these bytes can stand", text, e, at)
	}
}

// edges are programs just within a limit, and what the image looks like one above it, with the place.
func edges() []struct {
	within, above semi.Prog
	at            int
} {
	types := func(count int) semi.Prog {
		p := only(op(read), op(ret))
		p.Types = make([][]int, count)
		return p
	}
	fields := func(count int) semi.Prog {
		p := only(op(read), op(ret))
		p.Types = [][]int{make([]int, count)}
		return p
	}
	funcs := func(count int) semi.Prog {
		p := only(op(read), op(ret))
		for len(p.Funcs) < count {
			p.Funcs = append(p.Funcs, p.Funcs[0])
		}
		p.Funcs = p.Funcs[:count]
		return p
	}
	second := func(args, locals int) semi.Prog {
		p := funcs(2)
		p.Funcs[1].Args = args
		p.Funcs[1].Locals = make([]int, locals)
		return p
	}
	first := func(args, locals int) semi.Prog {
		p := only(op(read), op(ret))
		p.Funcs[0].Args = args
		p.Funcs[0].Locals = make([]int, locals)
		return p
	}
	code := func(count int) semi.Prog {
		p := only()
		for len(p.Funcs[0].Code) < count {
			p.Funcs[0].Code = append(p.Funcs[0].Code, op(jump, 0))
		}
		return p
	}
	result := func(f, n int) semi.Prog {
		p := funcs(2)
		p.Types = [][]int{nil}
		p.Funcs[1].Code = []semi.Ins{op(jump)}
		p.Funcs[f].Result = n
		return p
	}
	return []struct {
		within, above semi.Prog
		at            int
	}{
		{types(6), types(7), 0}, {fields(5), fields(6), 1}, {funcs(6), funcs(7), 1}, {funcs(1), funcs(0), 1},
		{second(4, 8), second(5, 8), 12}, {second(4, 8), second(4, 9), 13}, {second(3, 3), second(3, 2), 13}, {second(4, 4), second(4, 0), 13},
		{first(0, 8), first(1, 8), 2}, {first(0, 8), first(0, 9), 3},
		{code(64), code(65), 5}, {code(1), code(0), 5},
		{result(0, 0), result(0, 1), 5}, {result(1, 1), result(1, 2), 15},
	}
}

// P3, P4, P5: each limit, just within it and just above it.
func TestLimits(t *testing.T) {
	for _, c := range edges() {
		wantFit(t, imageOf(c.within))
		if s, e := semi.Encode(c.within); e != semi.OK || s != imageOf(c.within) {
			t.Errorf("Encode(%v) = %q, %d", c.within, s, e)
		}
		wantError(t, imageOf(c.above), semi.ErrImage, c.at)
		wantNoProg(t, c.above)
	}
}

// longProg is a program whose image has 800 bytes, and as many more as there are locals in its first function.
func longProg(locals int) semi.Prog {
	var p semi.Prog
	for _, count := range []int{64, 64, 64, 64, 1, 1} {
		p.Funcs = append(p.Funcs, semi.Func{Code: make([]semi.Ins, count)})
		for i := range p.Funcs[len(p.Funcs)-1].Code {
			p.Funcs[len(p.Funcs)-1].Code[i] = op(jump)
		}
	}
	p.Funcs[0].Locals = make([]int, locals)
	return p
}

// P3, P4, P5: an image of MaxImage bytes, and longer ones; ErrLong goes ahead of ErrImage.
func TestLongImages(t *testing.T) {
	image := imageOf(longProg(0))
	if len(image) != 800 {
		t.Fatalf("the test's image has %d bytes", len(image))
	}
	wantFit(t, image)
	for locals := 1; locals <= 8; locals++ {
		p := longProg(locals)
		wantError(t, imageOf(p), semi.ErrLong, 0)
		if s, e := semi.Encode(p); s != "" || e != semi.ErrLong {
			t.Errorf("Encode of %d bytes = %q, %d, want ErrLong", len(imageOf(p)), s, e)
		}
	}
	wantError(t, image+"\x00", semi.ErrLong, 0)
	wantError(t, strings.Repeat("\xff", 800), semi.ErrImage, 0)
	wantError(t, strings.Repeat("\xff", 801), semi.ErrLong, 0)
	wantError(t, strings.Repeat("\x00", 1<<20), semi.ErrLong, 0)
}

// P5: ErrProg goes ahead of ErrLong.
func TestNoProgramAheadOfLong(t *testing.T) {
	p := longProg(8)
	p.Funcs[5].Code[0].B = 1
	wantNoProg(t, p)
	p = longProg(8)
	p.Funcs[5].Code = nil
	wantNoProg(t, p)
}

func wantNoProg(t *testing.T, p semi.Prog) {
	t.Helper()
	if s, e := semi.Encode(p); s != "" || e != semi.ErrProg {
		t.Errorf("Encode(%.200v) = %.80q, %d, want ErrProg", p, s, e)
	}
}

// slot is a number of a program that is no list's length, and its place in the image.
type slot struct {
	n  *int
	at int
}

func slots(p *semi.Prog) []slot {
	var list []slot
	at := 1
	lay := func(n *int) {
		list = append(list, slot{n, at})
		at++
	}
	for _, fields := range p.Types {
		at++
		for k := range fields {
			lay(&fields[k])
		}
	}
	at++
	for k := range p.Funcs {
		f := &p.Funcs[k]
		lay(&f.Args)
		at++
		for k := range f.Locals {
			lay(&f.Locals[k])
		}
		lay(&f.Result)
		at++
		for k := range f.Code {
			lay(&f.Code[k].Op)
			lay(&f.Code[k].A)
			lay(&f.Code[k].B)
		}
	}
	return list
}

// P5: every number of a program, within its bounds, below and above them, and far off.
func TestEncodeEveryNumber(t *testing.T) {
	p, e, _ := semi.Decode(rowsImage())
	if e != semi.OK {
		t.Fatal("no program")
	}
	far := []int{leastInt, -1 << 32, -65536, -256, -255, -1, 256, 257, 511, 65535, 65536, 1 << 32, greatestInt}
	bounds := rows()
	for _, s := range slots(&p) {
		was := *s.n
		for n := 0; n < 256; n++ {
			*s.n = n
			if n < bounds[s.at].low || n > bounds[s.at].high {
				wantNoProg(t, p)
				continue
			}
			image, e := semi.Encode(p)
			if _, want, _ := semi.Decode(imageOf(p)); (e == semi.OK) != (want == semi.OK) || e == semi.OK && image != imageOf(p) {
				t.Errorf("Encode with %d at %d = %q, %d", n, s.at, image, e)
			}
		}
		// The last ones have the low bits of the number that can stand there.
		for _, n := range append(far, was-65536, was-256, was+256, was+65536, was+1<<32) {
			*s.n = n
			wantNoProg(t, p)
		}
		*s.n = was
	}
	if s, e := semi.Encode(p); e != semi.OK || s != rowsImage() {
		t.Errorf("Encode = %q, %d", s, e)
	}
}

// P5, P1: lists far above every limit, too: the work stays small, however often a list stands in them.
func TestEncodeLongLists(t *testing.T) {
	good := only(op(read), op(ret))
	for _, count := range []int{7, 256, 257, 262, 1 << 16, 1 << 20} {
		p := copyProg(good)
		p.Types = make([][]int, count)
		wantNoProg(t, p)
		wide := make([]int, count)
		for k := range p.Types {
			p.Types[k] = wide
		}
		wantNoProg(t, p)
		p.Types = p.Types[:1]
		wantNoProg(t, p)
		p = semi.Prog{Funcs: make([]semi.Func, count)}
		for k := range p.Funcs {
			p.Funcs[k] = good.Funcs[0]
		}
		wantNoProg(t, p)
	}
	for _, count := range []int{9, 256, 264, 1 << 20} {
		p := copyProg(good)
		p.Funcs[0].Locals = make([]int, count)
		wantNoProg(t, p)
	}
	for _, count := range []int{65, 256, 258, 320, 1 << 20} {
		p := copyProg(good)
		p.Funcs[0].Code = make([]semi.Ins, count)
		wantNoProg(t, p)
	}
	wantNoProg(t, semi.Prog{})
	wantNoProg(t, semi.Prog{Types: [][]int{nil}})
	wantNoProg(t, semi.Prog{Funcs: []semi.Func{{}}})
}

// P4, P5: programs come back as they were, whether their functions fit or not.
func TestRoundTrip(t *testing.T) {
	g := rand.New(rand.NewSource(1))
	for range 3000 {
		p := randomProg(g)
		image := imageOf(p)
		if len(image) > 800 {
			wantError(t, image, semi.ErrLong, 0)
			continue
		}
		s, e := semi.Encode(p)
		if s != image || e != semi.OK {
			t.Fatalf("Encode(%v) = %q, %d", p, s, e)
		}
		q, e, at := semi.Decode(image)
		if e != semi.OK || at != 0 || !equalProgs(p, q) {
			t.Fatalf("Decode(%q) = %v, %d, %d, want %v", image, q, e, at, p)
		}
	}
}
