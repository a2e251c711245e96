// Package table holds things that end, each at a time of its own, in a room that is not greater than told; the flows of a gate lie in it (P12, P13).
package table

import (
	"cmp"
	"slices"
)

// Ending is what a table holds.
type Ending interface {
	End() uint64
}

// Table finds its entries by key, knows which of them ends first, and tells them by age.
type Table[K comparable, V Ending] struct {
	room   int
	births uint64    // how many entries there ever were: by it the next one's age is told
	places map[K]int // where in the heap a key's entry stands
	heap   []entry[K, V]
}

type entry[K comparable, V Ending] struct {
	key   K
	value V
	birth uint64
}

// Make gives an empty table; room is 1 or more.
func Make[K comparable, V Ending](room int) *Table[K, V] {
	return &Table[K, V]{room: room, places: make(map[K]int)}
}

// Find gives the value at key, if there is one.
func (t *Table[K, V]) Find(key K) (V, bool) {
	at, ok := t.places[key]
	if !ok {
		var none V
		return none, false
	}
	return t.heap[at].value, true
}

// Put lays value at key, and tells whether another entry had to go for it: a key that is there already keeps its age, and none goes.
func (t *Table[K, V]) Put(key K, value V) bool {
	if at, ok := t.places[key]; ok {
		t.heap[at].value = value
		t.settle(at)
		return false
	}
	full := len(t.heap) == t.room
	if full {
		t.dropFirst()
	}
	t.add(entry[K, V]{key: key, value: value, birth: t.births})
	t.births++
	return full
}

// EndBy drops what ends at this time or ahead of it.
func (t *Table[K, V]) EndBy(time uint64) {
	for len(t.heap) > 0 && t.heap[0].value.End() <= time {
		t.dropFirst()
	}
}

// All goes over the values that are there when it is ranged over, the oldest first.
func (t *Table[K, V]) All() func(yield func(V) bool) {
	return func(yield func(V) bool) {
		for _, e := range t.byAge() {
			if !yield(e.value) {
				return
			}
		}
	}
}

func (t *Table[K, V]) byAge() []entry[K, V] {
	list := slices.Clone(t.heap)
	slices.SortFunc(list, func(a, b entry[K, V]) int { return cmp.Compare(a.birth, b.birth) })
	return list
}
