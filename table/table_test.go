package table

import (
	"math"
	"math/rand"
	"slices"
	"testing"
)

type place struct{ row, column int }

type thing struct {
	name int
	end  uint64
}

func (t thing) End() uint64 { return t.end }

func at(name int) place { return place{name / 10, name % 10} }

func put(t *Table[place, thing], name int, end uint64) bool {
	return t.Put(at(name), thing{name, end})
}

func all(t *Table[place, thing]) []thing {
	var list []thing
	for v := range t.All() {
		list = append(list, v)
	}
	return list
}

func namesOf(list []thing) []int {
	var names []int
	for _, v := range list {
		names = append(names, v.name)
	}
	return names
}

func wantNames(t *testing.T, table *Table[place, thing], want ...int) {
	t.Helper()
	if got := namesOf(all(table)); !slices.Equal(got, want) {
		t.Errorf("P12, P13: there are %v, want %v", got, want)
	}
	wantHeap(t, table)
}

// wantHeap looks at what the table keeps for itself: the heap's order, and a place for each entry and for no other.
func wantHeap(t *testing.T, table *Table[place, thing]) {
	t.Helper()
	for i := 1; i < len(table.heap); i++ {
		if table.goesAhead(i, (i-1)/2) {
			t.Fatalf("P12: the entry at %d goes ahead of the one above it: %+v", i, table.heap)
		}
	}
	if len(table.places) != len(table.heap) {
		t.Fatalf("P13: %d keys, %d entries", len(table.places), len(table.heap))
	}
	for i, e := range table.heap {
		if table.places[e.key] != i {
			t.Fatalf("P12: the key of %+v leads to %d, not to %d", e, table.places[e.key], i)
		}
	}
}

func TestFind(t *testing.T) {
	table := Make[place, thing](3)
	if v, ok := table.Find(at(1)); v != (thing{}) || ok {
		t.Errorf("an empty table has %+v, %v", v, ok)
	}
	put(table, 1, 5)
	put(table, 2, 4)
	if v, ok := table.Find(at(1)); v != (thing{1, 5}) || !ok {
		t.Errorf("found %+v, %v", v, ok)
	}
	put(table, 1, 3)
	if v, ok := table.Find(at(1)); v != (thing{1, 3}) || !ok {
		t.Errorf("behind another Put: found %+v, %v", v, ok)
	}
	table.EndBy(3)
	if v, ok := table.Find(at(1)); v != (thing{}) || ok {
		t.Errorf("behind its end: found %+v, %v", v, ok)
	}
}

func TestTheFirstToEndGoes(t *testing.T) {
	table := Make[place, thing](3)
	for name, end := range []uint64{30, 10, 20} {
		if put(table, name, end) {
			t.Errorf("P12: one went though there was room for %d", name)
		}
	}
	if !put(table, 3, 1) {
		t.Error("P12: none went of a full table")
	}
	wantNames(t, table, 0, 2, 3)
	put(table, 4, 40)
	wantNames(t, table, 0, 2, 4)
	if put(table, 0, 50) {
		t.Error("P12: one went for a key that was there")
	}
	wantNames(t, table, 0, 2, 4)
	put(table, 5, 60)
	put(table, 6, 60)
	wantNames(t, table, 0, 5, 6)
	put(table, 6, 2)
	put(table, 7, 70)
	wantNames(t, table, 0, 5, 7)
}

func TestOfSeveralTheOldestGoes(t *testing.T) {
	table := Make[place, thing](4)
	for name := range 4 {
		put(table, name, uint64(40-name))
	}
	for _, name := range []int{2, 0, 3, 1} {
		put(table, name, 50)
	}
	wantNames(t, table, 0, 1, 2, 3)
	for name := 4; name < 12; name++ {
		if !put(table, name, 50) {
			t.Errorf("P12: none went for %d", name)
		}
		wantNames(t, table, name-3, name-2, name-1, name)
	}
}

func TestRoomForOne(t *testing.T) {
	table := Make[place, thing](1)
	if put(table, 0, 9) || put(table, 0, 1) {
		t.Error("P12: one went of a table that was empty, or for its own key")
	}
	for name := 1; name < 4; name++ {
		if !put(table, name, uint64(name)) {
			t.Errorf("P12: none went for %d", name)
		}
		wantNames(t, table, name)
	}
}

func TestEndBy(t *testing.T) {
	table := Make[place, thing](8)
	for name, end := range []uint64{7, 5, 7, 0, 6, math.MaxUint64, 7, 8} {
		put(table, name, end)
	}
	for _, step := range []struct {
		time uint64
		want []int
	}{
		{0, []int{0, 1, 2, 4, 5, 6, 7}},
		{4, []int{0, 1, 2, 4, 5, 6, 7}},
		{5, []int{0, 2, 4, 5, 6, 7}},
		{7, []int{5, 7}},
		{math.MaxUint64 - 1, []int{5}},
		{math.MaxUint64, nil},
		{math.MaxUint64, nil},
	} {
		table.EndBy(step.time)
		wantNames(t, table, step.want...)
	}
	if put(table, 9, 1) {
		t.Error("P13: what has ended takes room")
	}
}

func TestAllTellsWhatIsThereWhenItIsRangedOver(t *testing.T) {
	table := Make[place, thing](3)
	seq := table.All()
	for name := range 3 {
		put(table, name, 9)
		count := 0
		for range seq {
			count++
		}
		if count != name+1 {
			t.Errorf("P13: a sequence that was asked for early tells %d of %d", count, name+1)
		}
	}
}

func TestAllEndsAtOnce(t *testing.T) {
	table := Make[place, thing](5)
	for name := range 5 {
		put(table, name, uint64(9-name))
	}
	for most := 1; most <= 5; most++ {
		calls := 0
		table.All()(func(v thing) bool {
			if v.name != calls {
				t.Errorf("P13: %d stands at %d", v.name, calls)
			}
			calls++
			return calls < most
		})
		if calls != most {
			t.Errorf("P13: yield was called %d times, want %d", calls, most)
		}
	}
	for outer := range table.All() {
		for inner := range table.All() {
			if inner.name > outer.name {
				break
			}
		}
	}
	wantNames(t, table, 0, 1, 2, 3, 4)
}

// model is a table without a heap: a list by age that is searched from end to end.
type model struct {
	room int
	list []thing
}

func (m *model) put(v thing) bool {
	for i := range m.list {
		if m.list[i].name == v.name {
			m.list[i] = v
			return false
		}
	}
	full := len(m.list) == m.room
	if full {
		first := 0
		for i := range m.list {
			if m.list[i].end < m.list[first].end {
				first = i
			}
		}
		m.list = slices.Delete(m.list, first, first+1)
	}
	m.list = append(m.list, v)
	return full
}

func TestTableAgainstAList(t *testing.T) {
	for seed := range int64(300) {
		random := rand.New(rand.NewSource(seed))
		m := model{room: 1 + random.Intn(20)}
		table := Make[place, thing](m.room)
		time := uint64(0)
		for range 300 {
			v := thing{random.Intn(30), time + uint64(random.Intn(40))}
			if got, want := table.Put(at(v.name), v), m.put(v); got != want {
				t.Fatalf("P12: Put(%+v): one had to go: %v, want %v", v, got, want)
			}
			if random.Intn(6) == 0 {
				time += uint64(random.Intn(10))
				table.EndBy(time)
				m.list = slices.DeleteFunc(m.list, func(v thing) bool { return v.end <= time })
			}
			if got := all(table); !slices.Equal(got, m.list) {
				t.Fatalf("P12, P13: there are %v, want %v", got, m.list)
			}
			wantHeap(t, table)
		}
	}
}
