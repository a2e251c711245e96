package table

// The heap: each entry goes ahead of the two below it, at twice its place and one, and two, more. So the first to go is at 0.

// goesAhead tells which of two goes first: the one that ends first, of two that end at once the older.
func (t *Table[K, V]) goesAhead(a, b int) bool {
	x, y := t.heap[a], t.heap[b]
	if x.value.End() != y.value.End() {
		return x.value.End() < y.value.End()
	}
	return x.birth < y.birth
}

func (t *Table[K, V]) swap(a, b int) {
	t.heap[a], t.heap[b] = t.heap[b], t.heap[a]
	t.places[t.heap[a].key] = a
	t.places[t.heap[b].key] = b
}

func (t *Table[K, V]) add(e entry[K, V]) {
	at := len(t.heap)
	t.heap = append(t.heap, e)
	t.places[e.key] = at
	t.rise(at)
}

// dropFirst needs a table that is not empty.
func (t *Table[K, V]) dropFirst() {
	last := len(t.heap) - 1
	t.swap(0, last)
	delete(t.places, t.heap[last].key)
	t.heap = t.heap[:last]
	t.sink(0)
}

// settle mends the heap where a value has changed. At most one of the two moves: what a rise leaves at the place goes ahead of all below it.
func (t *Table[K, V]) settle(at int) {
	t.rise(at)
	t.sink(at)
}

func (t *Table[K, V]) rise(at int) {
	for at > 0 {
		parent := (at - 1) / 2
		if !t.goesAhead(at, parent) {
			return
		}
		t.swap(at, parent)
		at = parent
	}
}

func (t *Table[K, V]) sink(at int) {
	for {
		first := at
		for child := 2*at + 1; child <= 2*at+2 && child < len(t.heap); child++ {
			if t.goesAhead(child, first) {
				first = child
			}
		}
		if first == at {
			return
		}
		t.swap(at, first)
		at = first
	}
}
