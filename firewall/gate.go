package firewall

import (
	"firewall/api"
	"firewall/flow"
	"firewall/frame"
	"firewall/machine"
	"firewall/rules"
)

// Gate is a firewall at work.
type Gate struct {
	code   []byte // of the rules; nil ahead of the first Load
	flows  *flow.Keeper
	counts api.Counts
	log    func(api.Event)
}

// New makes one (P11).
func New(capacity int, log func(api.Event)) (*Gate, error) {
	if capacity < 1 || capacity > api.MaxFlows {
		return nil, api.ErrArg
	}
	return &Gate{flows: flow.Make(capacity), log: log}, nil
}

// Load takes rules (P11).
func (g *Gate) Load(text string) error {
	code, err := rules.Compile(text)
	if err != nil {
		return err
	}
	g.code = code
	return nil
}

// Frame judges a frame (P12). The log comes last: it may ask the gate.
func (g *Gate) Frame(iface uint8, data []byte) api.Verdict {
	e := g.judge(iface, data)
	g.count(e)
	g.tell(e)
	return e.Verdict
}

// judge also keeps what an accepted frame leaves behind.
func (g *Gate) judge(iface uint8, data []byte) api.Event {
	h, class := frame.Parse(data)
	if class != api.Fine {
		return api.Event{Class: class, Verdict: api.Drop}
	}
	state, known := g.flows.Look(h)
	e := api.Event{Class: class, State: state, Verdict: g.verdict(iface, data, state), Known: known}
	if e.Verdict == api.Accept {
		e.Evicted = g.flows.Keep(h)
	}
	return e
}

// verdict needs a frame that is Fine; a code that Compile made ends without an error then.
func (g *Gate) verdict(iface uint8, data []byte, state api.State) api.Verdict {
	if g.code == nil {
		return api.Drop
	}
	v, _, _ := machine.Exec(g.code, data, [api.Metas]uint32{uint32(iface), uint32(state)})
	return v
}

func (g *Gate) count(e api.Event) {
	switch {
	case e.Class != api.Fine:
		g.counts.Malformed++
	case e.Verdict == api.Accept:
		g.counts.Accepted++
	case e.Verdict == api.Reject:
		g.counts.Rejected++
	default:
		g.counts.Dropped++
	}
}

// tell keeps a log's panic from those who asked about a frame: the verdict does not hang on the log.
func (g *Gate) tell(e api.Event) {
	if g.log == nil {
		return
	}
	defer func() { _ = recover() }()
	g.log(e)
}

// Tick lets time pass (P13).
func (g *Gate) Tick(n uint64) { g.flows.Tick(n) }

// Now tells the time (P13).
func (g *Gate) Now() uint64 { return g.flows.Now() }

// Flows goes over the flows (P13).
func (g *Gate) Flows() func(yield func(api.Flow) bool) { return g.flows.All() }

// List gives the flows (P13).
func (g *Gate) List() []api.Flow {
	var list []api.Flow
	for f := range g.Flows() {
		list = append(list, f)
	}
	return list
}

// Counts tells how many frames there were (P13).
func (g *Gate) Counts() api.Counts { return g.counts }
