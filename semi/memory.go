package semi

// The records lie in the memory one behind the other, each as its type and its fields' values. So the memory has as many words as the document counts for its records.

// referenceTo is the reference to the record whose type lies at this place: one more, since 0 is nothing.
func referenceTo(place int) int {
	return place + 1
}

// fieldPlace is where a field of a record lies.
func fieldPlace(ref int, field int) int {
	return ref + field
}

// moving lays the records that can be reached into a new memory.
type moving struct {
	types [][]int
	from  []int
	to    []int
	refs  []int // for each place of from, the new reference to the record there; nothing, while it has none
}

// clearAway clears away what cannot be reached, and lets every reference name its record's new place. Then the memory has just the live words.
func (r *run) clearAway() {
	m := moving{types: r.prog.Types, from: r.words, to: make([]int, 0, len(r.words)), refs: make([]int, len(r.words))}
	for k, f := range r.below {
		moved := r.moveFrame(&m, f)
		r.below[k] = moved
	}
	moved := r.moveFrame(&m, r.top)
	r.top = moved
	m.moveFields()
	r.words = m.to
}

// moveFrame moves what a frame refers to. The stack of a frame that waits lacks its Call's arguments; those were on top, so below them the instruction's types hold.
func (r *run) moveFrame(m *moving, f frame) frame {
	fun := funcAt(r.prog.Funcs, f.fun)
	p := spotAt(r.spots, f.fun, f.at)
	locals := m.moveList(f.locals, fun.Locals)
	stack := m.moveList(f.stack, p.stack)
	return frame{fun: f.fun, at: f.at, locals: locals, stack: stack}
}

// moveList moves what the values of a list refer to, and answers the list with the new references; kinds are the types of its values.
func (m *moving) moveList(values []int, kinds []int) []int {
	var list []int
	for k, v := range values {
		if entry(kinds, k) != number {
			v = m.move(v)
		}
		list = append(list, v)
	}
	return list
}

// moveFields moves what the records in the new memory refer to. Those come to lie behind them, and are looked at in their turn; it ends because each record is moved once.
func (m *moving) moveFields() {
	var kinds []int
	left := 0
	for k := 0; k < len(m.to); k++ {
		v := m.to[k]
		if left == 0 {
			kinds = fieldsOf(m.types, v)
			left = len(kinds)
			continue
		}
		kind := entry(kinds, len(kinds)-left)
		left--
		if kind != number {
			ref := m.move(v)
			m.to[k] = ref
		}
	}
}

// move moves a record, unless it has been moved, and answers its new reference.
func (m *moving) move(ref int) int {
	at := ref - 1
	if at < 0 || at >= len(m.from) {
		return nothing
	}
	if m.refs[at] != nothing {
		return m.refs[at]
	}
	end := at + 1 + len(fieldsOf(m.types, m.from[at]))
	if end > len(m.from) {
		return nothing
	}
	m.refs[at] = referenceTo(len(m.to))
	m.to = append(m.to, m.from[at:end]...)
	return m.refs[at]
}
