package firewall_test

import (
	"math/bits"
	"math/rand"
	"slices"
	"testing"

	"firewall/api"
	"firewall/firewall"
)

const topTime = 1<<64 - 1

func tcpOf(src, dst uint32, sport, dport uint16, flags uint8) api.Header {
	return api.Header{Src: src, Dst: dst, Proto: api.TCP, Sport: sport, Dport: dport, Flags: flags}
}

func udpOf(src, dst uint32, sport, dport uint16) api.Header {
	return api.Header{Src: src, Dst: dst, Proto: api.UDP, Sport: sport, Dport: dport}
}

// turned is a frame the other way round.
func turned(h api.Header) api.Header {
	h.Src, h.Dst, h.Sport, h.Dport = h.Dst, h.Src, h.Dport, h.Sport
	return h
}

// watched is a gate, and what its log was told.
type watched struct {
	*firewall.Gate
	t      *testing.T
	events []api.Event
}

func watch(t *testing.T, capacity int, text string) *watched {
	t.Helper()
	w := &watched{t: t}
	g, err := firewall.New(capacity, func(e api.Event) { w.events = append(w.events, e) })
	if g == nil || err != nil {
		t.Fatalf("P11: New(%d) = %v, %v", capacity, g, err)
	}
	w.Gate = g
	if text != "" {
		w.load(text)
	}
	return w
}

func (w *watched) load(text string) {
	w.t.Helper()
	if err := w.Load(text); err != nil {
		w.t.Fatalf("P11: Load(%q): %v", text, err)
	}
}

// send judges a frame; the log must have been told of it once.
func (w *watched) send(iface uint8, data []byte) api.Event {
	w.t.Helper()
	was := len(w.events)
	v := w.Frame(iface, data)
	if len(w.events) != was+1 || w.events[was].Verdict != v {
		w.t.Fatalf("P12: the verdict is %d, the log was told %+v", v, w.events[was:])
	}
	return w.events[was]
}

// sendAll sends frames that are built.
func (w *watched) sendAll(list ...api.Header) {
	w.t.Helper()
	for _, h := range list {
		w.send(0, build(w.t, h, nil))
	}
}

func (w *watched) wantEvent(h api.Header, want api.Event) {
	w.t.Helper()
	if got := w.send(0, build(w.t, h, nil)); got != want {
		w.t.Errorf("P12: at %d: of %+v became %+v, want %+v", w.Now(), h, got, want)
	}
}

func (w *watched) wantFlows(want ...api.Flow) {
	w.t.Helper()
	if got := w.List(); !slices.Equal(got, want) {
		w.t.Errorf("P12, P13: at %d: List = %+v, want %+v", w.Now(), got, want)
	}
	if got := slices.Collect(w.Flows()); !slices.Equal(got, want) {
		w.t.Errorf("P13: at %d: Flows = %+v, want %+v", w.Now(), got, want)
	}
}

func (w *watched) wantCounts(want api.Counts) {
	w.t.Helper()
	if got := w.Counts(); got != want {
		w.t.Errorf("P12, P13: Counts = %+v, want %+v", got, want)
	}
}

// flowOf is a flow as its first frame had it.
func flowOf(h api.Header, until uint64) api.Flow {
	return api.Flow{Src: h.Src, Dst: h.Dst, Proto: h.Proto, Sport: h.Sport, Dport: h.Dport, Until: until}
}

func replied(f api.Flow) api.Flow {
	f.Replied = true
	return f
}

func closing(f api.Flow) api.Flow {
	f.Closing = true
	return f
}

// toldGate is P11 to P13 word for word, with a plain list of the flows, those that are there longest first.
type toldGate struct {
	capacity int
	text     string
	now      uint64
	flows    []api.Flow
	counts   api.Counts
}

func toldSum(a, b uint64) uint64 {
	sum, over := bits.Add64(a, b, 0)
	if over == 1 {
		return topTime
	}
	return sum
}

func (g *toldGate) tick(n uint64) {
	g.now = toldSum(g.now, n)
	g.flows = slices.DeleteFunc(g.flows, func(f api.Flow) bool { return f.Until <= g.now })
}

func (g *toldGate) load(text string) error {
	_, err := firewall.Compile(text)
	if err == nil {
		g.text = text
	}
	return err
}

// find tells the place of the flow, or -1.
func (g *toldGate) find(h api.Header) int {
	return slices.IndexFunc(g.flows, func(f api.Flow) bool {
		so := f.Src == h.Src && f.Sport == h.Sport && f.Dst == h.Dst && f.Dport == h.Dport
		orSo := f.Src == h.Dst && f.Sport == h.Dport && f.Dst == h.Src && f.Dport == h.Sport
		return f.Proto == h.Proto && (so || orSo)
	})
}

func toldBack(f api.Flow, h api.Header) bool {
	return h.Src == f.Dst && h.Sport == f.Dport && !(h.Src == f.Src && h.Sport == f.Sport)
}

func (g *toldGate) state(h api.Header, at int) api.State {
	switch {
	case at >= 0 && (g.flows[at].Replied || toldBack(g.flows[at], h)):
		return api.Established
	case at < 0 && h.Proto == 6 && !slices.Contains([]uint8{2, 2 + 8, 2 + 32, 2 + 8 + 32}, h.Flags):
		return api.Invalid
	}
	return api.New
}

func (g *toldGate) verdict(iface uint8, data []byte, state api.State) api.Verdict {
	if g.text == "" {
		return api.Drop
	}
	code, _ := firewall.Compile(g.text)
	v, _, _ := firewall.Exec(code, data, [api.Metas]uint32{uint32(iface), uint32(state)})
	return v
}

func (g *toldGate) frame(iface uint8, data []byte) api.Event {
	h, class := firewall.Parse(data)
	if class != api.Fine {
		g.counts.Malformed++
		return api.Event{Class: class}
	}
	at := g.find(h)
	e := api.Event{State: g.state(h, at), Known: at >= 0}
	e.Verdict = g.verdict(iface, data, e.State)
	switch e.Verdict {
	case api.Drop:
		g.counts.Dropped++
	case api.Reject:
		g.counts.Rejected++
	case api.Accept:
		g.counts.Accepted++
		e.Evicted = g.keep(h, at, e.State)
	}
	return e
}

func (g *toldGate) keep(h api.Header, at int, state api.State) bool {
	if at >= 0 {
		f := &g.flows[at]
		f.Replied = f.Replied || toldBack(*f, h)
		f.Closing = f.Closing || h.Proto == 6 && (h.Flags%2 == 1 || h.Flags/4%2 == 1)
		f.Until = toldSum(g.now, toldSpan(*f))
		return false
	}
	if state != api.New {
		return false
	}
	full := len(g.flows) == g.capacity
	if full {
		least := slices.MinFunc(g.flows, func(a, b api.Flow) int { // the first of those that are least
			switch {
			case a.Until < b.Until:
				return -1
			case a.Until > b.Until:
				return 1
			}
			return 0
		})
		at := slices.Index(g.flows, least)
		g.flows = slices.Delete(g.flows, at, at+1)
	}
	f := flowOf(h, 0)
	f.Until = toldSum(g.now, toldSpan(f))
	g.flows = append(g.flows, f)
	return full
}

func toldSpan(f api.Flow) uint64 {
	switch {
	case f.Proto == 6 && f.Closing:
		return 10
	case f.Proto == 6 && f.Replied:
		return 300
	case f.Proto == 6:
		return 30
	case f.Proto == 17 && f.Replied:
		return 120
	case f.Proto == 1:
		return 20
	}
	return 60
}

// someHeader is one of few ends, so that frames meet in flows.
func someHeader(random *rand.Rand) api.Header {
	h := api.Header{Src: uint32(random.Intn(3)), Dst: uint32(random.Intn(3)), Proto: []uint8{1, 6, 6, 17, 89}[random.Intn(5)]}
	switch h.Proto {
	case 6:
		h.Sport, h.Dport = uint16(random.Intn(3)), uint16(random.Intn(3))
		h.Flags = []uint8{2, 2, 18, 16, 1, 4, 17, uint8(random.Intn(64))}[random.Intn(8)]
	case 17:
		h.Sport, h.Dport = uint16(random.Intn(3)), uint16(random.Intn(3))
	case 1:
		h.Flags = []uint8{8, 0, 3, 5}[random.Intn(4)]
		if h.Flags == 8 || h.Flags == 0 {
			h.Sport = uint16(random.Intn(3))
			h.Dport = h.Sport
		}
	}
	return h
}
