package semi

// A state is laid down as
//   - the image's marks, so that no other image takes it for its own,
//   - heap, depth and status; of a run that has ended this is all,
//   - how many words the memory has, and these words,
//   - how many frames there are, and of each, the first one first, the instruction at which it is, its locals and its stack.
//
// A frame's function is not laid down: it is function 0, or the one that the frame below calls. Nor is how many values its stack has: the instruction says it.

// marksOf tells one image from another, but for rare chance.
func marksOf(image string) []int {
	return []int{markOf(image, 257), markOf(image, 263), markOf(image, 269)}
}

func markOf(image string, factor int) int {
	const prime = 65521
	mark := len(image)
	for k := 0; k < len(image); k++ {
		mark = (mark*factor + int(image[k])) % prime
	}
	return mark
}

// layDown is the run's state.
func layDown(r run) []int {
	list := marksOf(r.image)
	list = append(list, r.heap, r.depth, r.status)
	if r.status != statusRunning {
		return list
	}
	list = append(list, len(r.words))
	list = append(list, r.words...)
	list = append(list, len(r.below)+1)
	for _, f := range r.below {
		list = append(list, numbersOfFrame(f)...)
	}
	list = append(list, numbersOfFrame(r.top)...)
	return list
}

func numbersOfFrame(f frame) []int {
	list := []int{f.at}
	list = append(list, f.locals...)
	list = append(list, f.stack...)
	return list
}

// taking goes along a list that should be a state.
type taking struct {
	from    reader
	run     run
	records []int // for each word of the memory, the type of the record that begins there; 0, where none does
}

// takeUp reads a state of an image; it has the errors that Go, Pack and Live share. What it takes has a value of the right type everywhere, so the run can go on as one from Start. One that has ended has no memory.
func takeUp(image string, state []int) (run, Errno) {
	o := openFitting(image)
	if o.err != OK {
		return run{}, o.err
	}
	t := taking{from: reader{numbers: state}, run: run{image: image, prog: o.prog, spots: o.spots}}
	t.takeHead()
	if t.run.status == statusRunning {
		t.takeWords()
		t.takeFrames()
	}
	if t.from.stopped || t.from.at < len(state) {
		return run{}, ErrState
	}
	return t.run, OK
}

func (t *taking) takeHead() {
	marks := marksOf(t.run.image)
	for _, m := range marks {
		t.from.take(m, m)
	}
	t.run.heap = t.from.take(0, maxHeap)
	t.run.depth = t.from.take(1, maxDepth)
	t.run.status = t.from.take(statusRunning, statusDeep)
	if t.run.status == statusWaiting {
		t.from.stopped = true
	}
}

// takeWords reads the memory: first where records begin, then, since a field may refer to a record behind it, what they hold.
func (t *taking) takeWords() {
	count := t.from.take(0, t.run.heap)
	for k := 0; k < count; k++ {
		w := t.from.take(0, modulus-1)
		t.run.words = append(t.run.words, w)
	}
	t.records = recordsIn(t.run.prog.Types, t.run.words)
	again := reader{numbers: t.run.words}
	// Each turn takes a number or stops, so this ends.
	for again.at < count && !again.stopped {
		kind := again.take(1, len(t.run.prog.Types))
		takeValues(&again, fieldsOf(t.run.prog.Types, kind), t.records)
	}
	if again.stopped {
		t.from.stopped = true
	}
}

// recordsIn tells where in a memory records begin, and of which types. It takes the words for records: whether they are is for others to look at.
func recordsIn(types [][]int, words []int) []int {
	var records []int
	left := 0
	for _, w := range words {
		if left > 0 {
			left--
			records = append(records, 0)
			continue
		}
		left = len(fieldsOf(types, w))
		records = append(records, w)
	}
	return records
}

// takeValues reads a value of each of these types. A reference must be nothing or name a record of its type.
func takeValues(from *reader, kinds []int, records []int) []int {
	var values []int
	for _, kind := range kinds {
		v := from.take(0, modulus-1)
		if kind != number && v != nothing && entry(records, v-1) != kind {
			from.stopped = true
		}
		values = append(values, v)
	}
	return values
}

func (t *taking) takeFrames() {
	count := t.from.take(1, t.run.depth)
	f := 0
	for k := 1; k < count; k++ {
		waiting := t.takeFrame(f, true)
		t.run.below = append(t.run.below, waiting)
		fun := funcAt(t.run.prog.Funcs, f)
		n := insAt(fun, waiting.at)
		f = n.A
	}
	t.run.top = t.takeFrame(f, false)
}

// takeFrame reads a frame of function f. One that waits is at a Call, and the arguments lie on its stack no more.
func (t *taking) takeFrame(f int, waits bool) frame {
	fun := funcAt(t.run.prog.Funcs, f)
	at := t.from.take(0, len(fun.Code)-1)
	n := insAt(fun, at)
	p := spotAt(t.run.spots, f, at)
	kinds := p.stack
	if waits {
		args := stackAhead(t.run.prog, fun, n)
		kinds = front(p.stack, len(p.stack)-len(args))
	}
	if !p.reached || (waits && n.Op != opCall) {
		t.from.stopped = true
	}
	locals := takeValues(&t.from, fun.Locals, t.records)
	stack := takeValues(&t.from, kinds, t.records)
	return frame{fun: f, at: at, locals: locals, stack: stack}
}
