package flow

import (
	"math"

	"firewall/api"
	"firewall/table"
)

// Keeper keeps the flows of one gate, and its time.
type Keeper struct {
	now   uint64
	flows *table.Table[key, flow]
}

// Make gives a keeper of so many flows at most, 1 or more.
func Make(capacity int) *Keeper {
	return &Keeper{flows: table.Make[key, flow](capacity)}
}

// Look tells a frame's state, and whether it finds a flow.
func (k *Keeper) Look(h api.Header) (api.State, bool) {
	f, known := k.flows.Find(keyOf(h))
	if known {
		return f.state(h), true
	}
	return firstState(h), false
}

// Keep takes in a frame that was accepted, and tells whether a flow had to go for it.
func (k *Keeper) Keep(h api.Header) bool {
	ends := keyOf(h)
	f, known := k.flows.Find(ends)
	switch {
	case known:
		f = f.heard(h)
	case firstState(h) == api.New:
		f = begin(h)
	default:
		return false
	}
	f.Until = later(k.now, f.span())
	return k.flows.Put(ends, f)
}

// Tick lets time pass.
func (k *Keeper) Tick(n uint64) {
	k.now = later(k.now, n)
	k.flows.EndBy(k.now)
}

// Now tells the time.
func (k *Keeper) Now() uint64 { return k.now }

// All goes over the flows that are there when it is ranged over, the one that is there longest first.
func (k *Keeper) All() func(yield func(api.Flow) bool) {
	return func(yield func(api.Flow) bool) {
		for f := range k.flows.All() {
			if !yield(api.Flow(f)) {
				return
			}
		}
	}
}

// later stops at the greatest number: time does not go round.
func later(now, n uint64) uint64 {
	if n > math.MaxUint64-now {
		return math.MaxUint64
	}
	return now + n
}
