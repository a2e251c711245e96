package firewall_test

import (
	"errors"
	"slices"
	"testing"

	"firewall/api"
	"firewall/firewall"
	"firewall/plain"
)

func TestTheLogIsToldOfEachFrameOnce(t *testing.T) {
	w := watch(t, 1, "policy reject\naccept proto udp\ndrop proto tcp")
	w.sendAll(udpOf(hostA, hostB, 1, 2), udpOf(hostA, hostB, 3, 4), tcpOf(hostA, hostB, 1, 2, 0), api.Header{Proto: 89}, udpOf(hostB, hostA, 4, 3))
	w.send(0, make([]byte, 20))
	want := []api.Event{
		{Verdict: api.Accept},
		{Verdict: api.Accept, Evicted: true},
		{State: api.Invalid},
		{Verdict: api.Reject},
		{State: api.Established, Verdict: api.Accept, Known: true},
		{Class: api.Alien},
	}
	if !slices.Equal(w.events, want) {
		t.Errorf("P12: the log was told %+v, want %+v", w.events, want)
	}
	w.wantCounts(api.Counts{Accepted: 3, Dropped: 1, Rejected: 1, Malformed: 1})
	w.Tick(5)
	w.Load("foo")
	w.Load(acceptAll)
	w.List()
	if len(w.events) != len(want) {
		t.Errorf("P12: the log was told of what is no frame: %+v", w.events)
	}
}

func TestAGateWithoutALog(t *testing.T) {
	g, kind := plain.New(1)
	if g == nil || kind != 0 {
		t.Fatalf("P11: plain.New(1) = %v, %d", g, kind)
	}
	if kind, line := plain.Load(g, acceptAll); kind != 0 || line != 0 {
		t.Fatalf("P11: plain.Load = %d, %d", kind, line)
	}
	if v := g.Frame(0, build(t, udpOf(hostA, hostB, 1, 2), nil)); v != api.Accept || len(g.List()) != 1 {
		t.Errorf("P12: without a log: %d, %+v", v, g.List())
	}
}

func TestTheLogSeesTheGateAsItWillBe(t *testing.T) {
	type sight struct {
		now    uint64
		counts api.Counts
		flows  []api.Flow
	}
	var g *firewall.Gate
	var seen sight
	g, err := firewall.New(2, func(api.Event) {
		seen = sight{g.Now(), g.Counts(), g.List()}
		if !slices.Equal(slices.Collect(g.Flows()), seen.flows) {
			t.Error("P12: in a log Flows and List differ")
		}
	})
	if err != nil {
		t.Fatal(err)
	}
	g.Load("policy accept\nreject proto icmp")
	u := udpOf(hostA, hostB, 1, 2)
	for i, h := range []api.Header{u, turned(u), udpOf(hostA, hostB, 3, 2), udpOf(hostA, hostB, 4, 2), {Proto: api.ICMP}, tcpOf(hostA, hostB, 1, 2, 0)} {
		g.Tick(1)
		g.Frame(0, build(t, h, nil))
		if seen.now != uint64(i+1) || seen.counts != g.Counts() || !slices.Equal(seen.flows, g.List()) {
			t.Errorf("P12: frame %d: the log saw %+v, and then there are %+v, %+v", i, seen, g.Counts(), g.List())
		}
	}
	g.Frame(0, nil)
	if seen.counts.Malformed != 1 || seen.counts != g.Counts() {
		t.Errorf("P12: the log saw %+v, and then there are %+v", seen.counts, g.Counts())
	}
}

func TestALogThatPanics(t *testing.T) {
	h := udpOf(hostA, hostB, 1, 2)
	for name, fail := range map[string]func(g *firewall.Gate){
		"a text":   func(*firewall.Gate) { panic("a log that panics") },
		"an error": func(*firewall.Gate) { panic(errors.New("a log that panics")) },
		"nil":      func(*firewall.Gate) { panic(nil) },
		"a list":   func(g *firewall.Gate) { _ = g.List()[100] },
		"a map":    func(*firewall.Gate) { var m map[int]int; m[0] = 1 },
		"a loop": func(g *firewall.Gate) {
			for range g.Flows() {
				panic("in a loop over the flows")
			}
		},
		"twice": func(*firewall.Gate) {
			defer func() { panic("again") }()
			panic("once")
		},
	} {
		calls := 0
		var g *firewall.Gate
		g, err := firewall.New(2, func(api.Event) {
			calls++
			fail(g)
		})
		if err != nil {
			t.Fatal(err)
		}
		g.Load("policy reject\naccept proto udp")
		quiet := watch(t, 2, "policy reject\naccept proto udp")
		for i, f := range [][]byte{build(t, h, nil), nil, build(t, turned(h), nil), build(t, tcpOf(1, 2, 3, 4, 0), nil), build(t, udpOf(1, 2, 3, 4), nil), build(t, udpOf(1, 2, 5, 4), nil)} {
			g.Tick(1)
			quiet.Tick(1)
			if got, want := g.Frame(0, f), quiet.Frame(0, f); got != want || calls != i+1 {
				t.Errorf("P12: a log that panics (%s): frame %d: %d, %d calls, want %d", name, i, got, calls, want)
			}
			if g.Counts() != quiet.Counts() || !slices.Equal(g.List(), quiet.List()) {
				t.Errorf("P12: a log that panics (%s): frame %d: %+v, %+v", name, i, g.Counts(), g.List())
			}
		}
	}
}

func TestTheBookOfAGate(t *testing.T) {
	for _, odd := range []bool{false, true} {
		g, book, kind := plain.Open(2, odd)
		if g == nil || kind != 0 {
			t.Fatalf("P11: plain.Open = %v, %d", g, kind)
		}
		plain.Load(g, acceptAll)
		for n := range uint16(4) {
			if v := g.Frame(0, build(t, udpOf(hostA, hostB, n, 9), nil)); v != api.Accept {
				t.Errorf("P12: frame %d: %d", n, v)
			}
		}
		if len(book.Events) != 4 || !slices.Equal(book.Flows, []int{1, 2, 2, 2}) || book.Counts[3] != (api.Counts{Accepted: 4}) {
			t.Errorf("P12: the book is %+v", book)
		}
		for _, first := range []bool{false, true} {
			for most, want := range map[int]int{-1: 2, 1: 1, 2: 2, 3: 2} {
				if l, more := book.Take(most, first); more || !slices.Equal(l, g.List()[:want]) {
					t.Errorf("P13: Take(%d, %v) = %+v, %v", most, first, l, more)
				}
			}
		}
	}
	if g, _, kind := plain.Open(0, false); g != nil || kind != api.ErrArg {
		t.Errorf("P11: plain.Open(0) = %v, %d", g, kind)
	}
}

func TestFlowsAreTheOldestFirst(t *testing.T) {
	w := watch(t, 4, acceptAll)
	ports := []uint16{40, 10, 30, 20}
	var want []api.Flow
	for _, n := range ports {
		w.sendAll(udpOf(hostA, hostB, n, 9))
		want = append(want, flowOf(udpOf(hostA, hostB, n, 9), 60))
	}
	w.wantFlows(want...)
	w.Tick(1)
	for _, i := range []int{2, 0, 3} {
		w.sendAll(udpOf(hostA, hostB, ports[i], 9))
		want[i].Until = 61
		w.wantFlows(want...)
	}
}

func TestASequenceTellsTheFlowsAsTheyAre(t *testing.T) {
	w := watch(t, 2, acceptAll)
	seq := w.Flows()
	count := func() int { return len(slices.Collect(seq)) }
	if count() != 0 {
		t.Errorf("P13: a new gate has %d flows", count())
	}
	h := udpOf(hostA, hostB, 1, 2)
	w.sendAll(h)
	if count() != 1 {
		t.Errorf("P13: a sequence that was asked for early tells %d flows, want 1", count())
	}
	w.sendAll(turned(h))
	for f := range seq {
		if f != replied(flowOf(h, 120)) {
			t.Errorf("P13: a sequence that was asked for early tells %+v", f)
		}
	}
	w.sendAll(udpOf(hostA, hostB, 3, 4), udpOf(hostA, hostB, 5, 6))
	if got := slices.Collect(seq); !slices.Equal(got, w.List()) || len(got) != 2 {
		t.Errorf("P13: it tells %+v, want %+v", got, w.List())
	}
	w.Tick(1000)
	if count() != 0 {
		t.Errorf("P13: %d flows are told that are gone", count())
	}
}

func TestASequenceThatIsLeftEarly(t *testing.T) {
	w := watch(t, 5, acceptAll)
	for n := range uint16(5) {
		w.sendAll(udpOf(hostA, hostB, n, 9))
	}
	list := w.List()
	for most := 1; most <= 5; most++ {
		var got []api.Flow
		w.Flows()(func(f api.Flow) bool {
			got = append(got, f)
			return len(got) < most
		})
		if !slices.Equal(got, list[:most]) {
			t.Errorf("P13: yield was told %+v, want %+v", got, list[:most])
		}
	}
	for range w.Flows() {
		break
	}
	w.wantFlows(list...)
}

func TestALoopMayAskTheGate(t *testing.T) {
	w := watch(t, 3, acceptAll)
	for n := range uint16(3) {
		w.sendAll(udpOf(hostA, hostB, n, 9))
	}
	seq := w.Flows()
	pairs := 0
	for outer := range seq {
		for inner := range seq {
			if inner.Sport > outer.Sport {
				break
			}
			pairs++
		}
		if w.Now() != 0 || w.Counts().Accepted != 3 || len(w.List()) != 3 || len(slices.Collect(w.Flows())) != 3 {
			t.Errorf("P13: within a loop: %d, %+v, %+v", w.Now(), w.Counts(), w.List())
		}
	}
	if pairs != 6 {
		t.Errorf("P13: loops within a loop: %d pairs, want 6", pairs)
	}
}

func TestListsOfFlowsAreFresh(t *testing.T) {
	w := watch(t, 3, acceptAll)
	for n := range uint16(3) {
		w.sendAll(udpOf(hostA, hostB, n, 9))
	}
	want := slices.Clone(w.List())
	first := w.List()
	room := first[:cap(first)]
	for i := range room {
		room[i] = api.Flow{Src: 99, Until: 99}
	}
	w.wantFlows(want...)
	kept := w.List()
	w.Tick(7)
	w.sendAll(udpOf(hostB, hostA, 9, 0), udpOf(hostA, hostB, 77, 9))
	w.Tick(1000)
	if !slices.Equal(kept, want) {
		t.Errorf("P2: a list that came out became %+v", kept)
	}
	if l := w.List(); len(l) != 0 {
		t.Errorf("P13: List of no flows = %+v", l)
	}
}
