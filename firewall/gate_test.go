package firewall_test

import (
	"bytes"
	"errors"
	"math"
	"math/rand"
	"slices"
	"testing"

	"firewall/api"
	"firewall/firewall"
	"firewall/plain"
)

const (
	hostA = uint32(0x0a000001)
	hostB = uint32(0x0a000002)
	hostC = uint32(0x0a000003)
)

const acceptAll = "policy accept"

func TestNewTakesCapacities(t *testing.T) {
	for _, n := range []int{0, -1, api.MaxFlows + 1, math.MinInt, math.MaxInt, 1 << 32, 1<<32 + 1, -64} {
		if g, err := firewall.New(n, nil); g != nil || err != error(api.ErrArg) {
			t.Errorf("P11: New(%d) = %v, %v, want nil and ErrArg as the kind itself", n, g, err)
		}
		if g, err := firewall.New(n, func(api.Event) {}); g != nil || err != error(api.ErrArg) {
			t.Errorf("P11: New(%d) with a log = %v, %v", n, g, err)
		}
		if g, kind := plain.New(n); g != nil || kind != api.ErrArg {
			t.Errorf("P11: plain.New(%d) = %v, %d", n, g, kind)
		}
	}
	for n := 1; n <= api.MaxFlows; n++ {
		w := watch(t, n, acceptAll)
		for port := range n + 2 {
			e := w.send(0, build(t, udpOf(hostA, hostB, uint16(port), 1), nil))
			if e.Evicted != (port >= n) || len(w.List()) != min(port+1, n) {
				t.Fatalf("P11, P12: capacity %d, flow %d: %+v, %d flows", n, port, e, len(w.List()))
			}
		}
	}
}

func TestANewGateIsEmpty(t *testing.T) {
	w := watch(t, 3, "")
	w.wantFlows()
	w.wantCounts(api.Counts{})
	if w.Now() != 0 {
		t.Errorf("P13: a gate begins with now %d", w.Now())
	}
}

func TestAheadOfTheFirstLoad(t *testing.T) {
	w := watch(t, 3, "")
	for range 2 {
		w.wantEvent(udpOf(hostA, hostB, 1, 2), api.Event{State: api.New})
		w.wantEvent(udpOf(hostB, hostA, 2, 1), api.Event{State: api.New})
		w.wantEvent(tcpOf(hostA, hostB, 1, 2, api.Syn), api.Event{State: api.New})
		w.wantEvent(tcpOf(hostA, hostB, 1, 2, api.Ack), api.Event{State: api.Invalid})
		if e := w.send(0, nil); e != (api.Event{Class: api.Short}) {
			t.Errorf("P11: of no bytes became %+v", e)
		}
		if err := w.Load("policy accept\naccept in 256"); !errors.Is(err, api.ErrRange) {
			t.Errorf("P11: Load: %v", err)
		}
	}
	w.wantFlows()
	w.wantCounts(api.Counts{Dropped: 8, Malformed: 2})
}

func TestLoadTellsCompilesError(t *testing.T) {
	for _, text := range []string{"", "foo", "policy accept\n\naccept in 1 in 2", "policy drop\naccept sport 1", string(make([]byte, api.MaxText+1))} {
		w := watch(t, 2, "")
		_, want := firewall.Compile(text)
		got := w.Load(text)
		var e *api.RuleError
		if !errors.As(got, &e) || got.Error() != want.Error() {
			t.Errorf("P11: Load(%q) = %v, want %v", text, got, want)
		}
		wantKind, wantLine := api.Told(want)
		if kind, line := plain.Load(w.Gate, text); kind != wantKind || line != wantLine {
			t.Errorf("P11: plain.Load(%q) = %d, %d", text, kind, line)
		}
	}
}

func TestLoadKeepsFlowsAndCounts(t *testing.T) {
	h := udpOf(hostA, hostB, 1, 2)
	w := watch(t, 2, acceptAll)
	w.Tick(7)
	w.sendAll(h)
	for _, step := range []struct {
		text    string
		refused bool
		verdict api.Verdict
	}{
		{"policy reject\nfoo", true, api.Accept},
		{"policy reject", false, api.Reject},
		{"", true, api.Reject},
		{"policy drop\naccept state established", false, api.Drop},
		{"policy accept\n" + string(make([]byte, api.MaxText)), true, api.Drop},
		{"policy drop\naccept state new", false, api.Accept},
	} {
		counts := w.Counts()
		if err := w.Load(step.text); (err != nil) != step.refused {
			t.Errorf("P11: Load(%q): %v", step.text, err)
		}
		w.wantCounts(counts)
		w.wantFlows(flowOf(h, 67))
		if w.Now() != 7 {
			t.Errorf("P11: now is %d behind Load", w.Now())
		}
		w.wantEvent(h, api.Event{State: api.New, Verdict: step.verdict, Known: true})
	}
	w.wantCounts(api.Counts{Accepted: 3, Dropped: 2, Rejected: 2})
}

func TestTheExampleOfGates(t *testing.T) {
	w := watch(t, 8, "policy drop\naccept proto tcp dport 80\naccept state established")
	h := tcpOf(hostA, hostB, 1024, 80, api.Syn)
	answer := tcpOf(hostB, hostA, 80, 1024, api.Syn|api.Ack)
	w.wantEvent(h, api.Event{State: api.New, Verdict: api.Accept})
	w.wantFlows(flowOf(h, 30))
	w.wantEvent(answer, api.Event{State: api.Established, Verdict: api.Accept, Known: true})
	w.wantFlows(replied(flowOf(h, 300)))
	w.Tick(299)
	w.wantFlows(replied(flowOf(h, 300)))
	w.Tick(1)
	w.wantFlows()
	w.wantEvent(answer, api.Event{State: api.Invalid})
}

// malformed is, by its class, a frame of the flow of h with one thing wrong.
func malformed(t *testing.T, h api.Header) map[api.Class][]byte {
	spoil := func(change func(f []byte) []byte) []byte { return change(build(t, h, []byte("abc"))) }
	set := func(at int, b byte) func([]byte) []byte {
		return func(f []byte) []byte {
			f[at] = b
			return f
		}
	}
	return map[api.Class][]byte{
		api.Short:    spoil(func(f []byte) []byte { return f[:13] }),
		api.Alien:    spoil(set(12, 9)),
		api.Cut:      spoil(func(f []byte) []byte { return f[:33] }),
		api.Version:  spoil(set(14, 0x65)),
		api.Options:  spoil(set(14, 0x46)),
		api.Length:   spoil(func(f []byte) []byte { return f[:len(f)-1] }),
		api.Sum:      spoil(set(25, build(t, h, []byte("abc"))[25]^1)),
		api.Fragment: spoil(func(f []byte) []byte { return resummed(set(21, 1)(f)) }),
		api.Inner:    spoil(set(39, 7)),
	}
}

// resummed mends the sum by trying all.
func resummed(f []byte) []byte {
	for n := range 1 << 16 {
		f[24], f[25] = byte(n>>8), byte(n)
		if _, class := firewall.Parse(f); class != api.Sum {
			return f
		}
	}
	return nil
}

func TestFramesThatAreNotFine(t *testing.T) {
	h := udpOf(hostA, hostB, 1, 2)
	w := watch(t, 1, acceptAll)
	w.sendAll(h)
	w.Tick(5)
	count := uint64(0)
	for class, data := range malformed(t, h) {
		if e := w.send(3, data); e != (api.Event{Class: class}) {
			t.Errorf("P12: of a frame of class %d became %+v", class, e)
		}
		count++
		w.wantFlows(flowOf(h, 60))
		w.wantCounts(api.Counts{Accepted: 1, Malformed: count})
	}
	if count != 9 {
		t.Errorf("P12: %d classes were tried", count)
	}
}

func TestWhichFramesFindAFlow(t *testing.T) {
	first := udpOf(hostA, hostB, 5, 6)
	known := func(h api.Header) bool {
		w := watch(t, 2, acceptAll)
		w.sendAll(first)
		return w.send(0, build(t, h, nil)).Known
	}
	for _, h := range []api.Header{first, turned(first)} {
		if !known(h) {
			t.Errorf("P12: %+v does not find the flow", h)
		}
	}
	for _, h := range []api.Header{
		udpOf(hostA, hostB, 6, 5), udpOf(hostB, hostA, 5, 6), udpOf(hostA, hostC, 5, 6), udpOf(hostC, hostB, 5, 6), udpOf(hostA, hostB, 5, 7),
		udpOf(hostA, hostB, 4, 6), udpOf(hostA, hostA, 5, 6), udpOf(hostA, hostA, 5, 5), udpOf(hostB, hostB, 6, 6), tcpOf(hostA, hostB, 5, 6, api.Syn),
		{Src: hostA, Dst: hostB, Proto: 89}, {Src: hostA, Dst: hostB, Proto: api.ICMP, Flags: 3},
	} {
		if known(h) {
			t.Errorf("P12: %+v finds the flow", h)
		}
	}
}

func TestGoingBack(t *testing.T) {
	for _, c := range []struct {
		first, then api.Header
		back        bool
	}{
		{udpOf(hostA, hostB, 5, 6), udpOf(hostB, hostA, 6, 5), true},
		{udpOf(hostA, hostB, 5, 6), udpOf(hostA, hostB, 5, 6), false},
		{udpOf(hostB, hostA, 6, 5), udpOf(hostA, hostB, 5, 6), true},
		{udpOf(hostA, hostB, 5, 5), udpOf(hostB, hostA, 5, 5), true},
		{udpOf(hostA, hostA, 5, 6), udpOf(hostA, hostA, 6, 5), true},
		{udpOf(hostA, hostA, 5, 6), udpOf(hostA, hostA, 5, 6), false},
		{udpOf(hostA, hostA, 5, 5), udpOf(hostA, hostA, 5, 5), false},
		{api.Header{Src: hostA, Dst: hostB, Proto: api.ICMP, Flags: 8, Sport: 4, Dport: 4}, api.Header{Src: hostB, Dst: hostA, Proto: api.ICMP, Flags: 0, Sport: 4, Dport: 4}, true},
		{api.Header{Src: hostA, Dst: hostB, Proto: api.ICMP, Flags: 3}, api.Header{Src: hostB, Dst: hostA, Proto: api.ICMP, Flags: 11}, true},
		{api.Header{Src: hostA, Dst: hostB, Proto: 89}, api.Header{Src: hostB, Dst: hostA, Proto: 89}, true},
		{api.Header{Src: hostA, Dst: hostA, Proto: 89}, api.Header{Src: hostA, Dst: hostA, Proto: 89}, false},
	} {
		w := watch(t, 2, acceptAll)
		w.sendAll(c.first)
		state := api.New
		if c.back {
			state = api.Established
		}
		w.wantEvent(c.then, api.Event{State: state, Verdict: api.Accept, Known: true})
		if l := w.List(); len(l) != 1 || l[0].Replied != c.back || l[0].Src != c.first.Src || l[0].Sport != c.first.Sport {
			t.Errorf("P12: %+v behind %+v: %+v", c.then, c.first, l)
		}
		w.wantEvent(c.first, api.Event{State: state, Verdict: api.Accept, Known: true})
	}
}

func TestStatesOfFirstFrames(t *testing.T) {
	for flags := range uint8(64) {
		w := watch(t, 1, acceptAll)
		h := tcpOf(hostA, hostB, 1, 2, flags)
		if flags&^(8+32) == api.Syn {
			w.wantEvent(h, api.Event{State: api.New, Verdict: api.Accept})
			w.wantFlows(flowOf(h, 30))
		} else {
			w.wantEvent(h, api.Event{State: api.Invalid, Verdict: api.Accept})
			w.wantFlows()
		}
	}
	for _, h := range []api.Header{
		udpOf(hostA, hostB, 1, 2), {Src: hostA, Dst: hostB, Proto: 89}, {Src: hostA, Dst: hostB},
		{Src: hostA, Dst: hostB, Proto: api.ICMP, Flags: 5}, {Src: hostA, Dst: hostB, Proto: api.ICMP, Flags: 0, Sport: 1, Dport: 1},
	} {
		watch(t, 1, acceptAll).wantEvent(h, api.Event{State: api.New, Verdict: api.Accept})
	}
}

func TestTheRulesKnowInterfaceAndState(t *testing.T) {
	w := watch(t, 4, "policy drop\nreject in 255\naccept in 7 state new\nreject state established\naccept in 9 state invalid\naccept in 8")
	h := udpOf(hostA, hostB, 1, 2)
	for _, c := range []struct {
		iface uint8
		h     api.Header
		want  api.Event
	}{
		{255, h, api.Event{Verdict: api.Reject}},
		{0, h, api.Event{}},
		{7, h, api.Event{Verdict: api.Accept}},
		{7, turned(h), api.Event{State: api.Established, Verdict: api.Reject, Known: true}},
		{8, h, api.Event{Verdict: api.Accept, Known: true}},
		{9, h, api.Event{Known: true}},
		{9, tcpOf(hostA, hostB, 1, 2, api.Ack), api.Event{State: api.Invalid, Verdict: api.Accept}},
		{7, tcpOf(hostA, hostB, 1, 2, api.Ack), api.Event{State: api.Invalid}},
	} {
		if got := w.send(c.iface, build(t, c.h, nil)); got != c.want {
			t.Errorf("P12: interface %d, %+v: %+v, want %+v", c.iface, c.h, got, c.want)
		}
	}
	w.wantCounts(api.Counts{Accepted: 3, Dropped: 3, Rejected: 2})
}

func TestOnlyAcceptedFramesAreKept(t *testing.T) {
	h := tcpOf(hostA, hostB, 1, 2, api.Syn)
	fin, answer := h, turned(h)
	fin.Flags, answer.Flags = api.Fin, api.Syn|api.Ack
	for _, text := range []string{"policy drop", "policy reject"} {
		w := watch(t, 1, text)
		w.sendAll(h, udpOf(hostA, hostB, 1, 2))
		w.wantFlows()
		w.load(acceptAll)
		w.sendAll(h)
		w.load(text)
		w.Tick(3)
		w.sendAll(h, answer, fin, udpOf(hostA, hostB, 1, 2))
		w.wantFlows(flowOf(h, 30))
		if e := w.events[len(w.events)-1]; e.Evicted {
			t.Errorf("P12: with %q: %+v", text, e)
		}
		w.wantEvent(h, api.Event{State: api.New, Verdict: w.events[0].Verdict, Known: true})
	}
}

func TestHowLongFlowsLast(t *testing.T) {
	h := tcpOf(hostA, hostB, 1, 2, api.Syn)
	with := func(h api.Header, flags uint8) api.Header {
		h.Flags = flags
		return h
	}
	u, echo, other := udpOf(hostA, hostB, 1, 2), api.Header{Src: hostA, Dst: hostB, Proto: api.ICMP, Flags: 8}, api.Header{Src: hostA, Dst: hostB, Proto: 2}
	for _, c := range []struct {
		list []api.Header
		want api.Flow
	}{
		{[]api.Header{h}, flowOf(h, 30)},
		{[]api.Header{h, h}, flowOf(h, 31)},
		{[]api.Header{h, turned(h)}, replied(flowOf(h, 301))},
		{[]api.Header{h, turned(h), with(h, api.Ack)}, replied(flowOf(h, 302))},
		{[]api.Header{h, with(h, api.Fin)}, closing(flowOf(h, 11))},
		{[]api.Header{h, with(h, api.Rst)}, closing(flowOf(h, 11))},
		{[]api.Header{h, with(h, 63)}, closing(flowOf(h, 11))},
		{[]api.Header{h, with(h, 63-api.Fin-api.Rst)}, flowOf(h, 31)},
		{[]api.Header{h, with(h, api.Fin), h}, closing(flowOf(h, 12))},
		{[]api.Header{h, with(turned(h), api.Rst)}, closing(replied(flowOf(h, 11)))},
		{[]api.Header{h, turned(h), with(h, api.Fin), with(h, api.Ack)}, closing(replied(flowOf(h, 13)))},
		{[]api.Header{u}, flowOf(u, 60)},
		{[]api.Header{u, u}, flowOf(u, 61)},
		{[]api.Header{u, turned(u)}, replied(flowOf(u, 121))},
		{[]api.Header{u, turned(u), u}, replied(flowOf(u, 122))},
		{[]api.Header{echo}, flowOf(echo, 20)},
		{[]api.Header{echo, with(turned(echo), 0)}, replied(flowOf(echo, 21))},
		{[]api.Header{with(echo, 5), with(echo, 5)}, flowOf(echo, 21)},
		{[]api.Header{other}, flowOf(other, 60)},
		{[]api.Header{other, turned(other)}, replied(flowOf(other, 61))},
	} {
		w := watch(t, 1, acceptAll)
		for i, h := range c.list {
			w.Tick(uint64(min(i, 1)))
			w.sendAll(h)
		}
		w.wantFlows(c.want)
		w.Tick(c.want.Until - 1 - w.Now())
		w.wantFlows(c.want)
		w.Tick(1)
		w.wantFlows()
	}
}

func TestWhoHasToGo(t *testing.T) {
	port := func(n uint16) api.Header { return udpOf(hostA, hostB, n, 9) }
	known := func(evicted bool) api.Event { return api.Event{Verdict: api.Accept, Known: true, Evicted: evicted} }
	fresh := func(evicted bool) api.Event { return api.Event{Verdict: api.Accept, Evicted: evicted} }
	w := watch(t, 3, acceptAll)
	for n := range uint16(3) {
		w.wantEvent(port(n), fresh(false))
	}
	w.wantEvent(port(3), fresh(true)) // all end at the same time: the one that is there longest
	w.wantFlows(flowOf(port(1), 60), flowOf(port(2), 60), flowOf(port(3), 60))
	w.Tick(1)
	w.wantEvent(port(1), known(false)) // it lasts anew, and is no younger
	w.wantFlows(flowOf(port(1), 61), flowOf(port(2), 60), flowOf(port(3), 60))
	w.wantEvent(port(4), fresh(true))
	w.wantFlows(flowOf(port(1), 61), flowOf(port(3), 60), flowOf(port(4), 61))
	w.wantEvent(port(5), fresh(true))
	w.wantEvent(port(6), fresh(true)) // all end at 61 now
	w.wantFlows(flowOf(port(4), 61), flowOf(port(5), 61), flowOf(port(6), 61))
	syn, fin := tcpOf(hostA, hostB, 1, 2, api.Syn), tcpOf(hostA, hostB, 1, 2, api.Fin)
	w.wantEvent(syn, fresh(true))
	w.sendAll(turned(syn)) // lasts till 301, and with Fin till 11: it goes first after all
	w.wantFlows(flowOf(port(5), 61), flowOf(port(6), 61), replied(flowOf(syn, 301)))
	w.sendAll(fin)
	w.wantEvent(port(7), fresh(true))
	w.wantFlows(flowOf(port(5), 61), flowOf(port(6), 61), flowOf(port(7), 61))
	w.Tick(60)
	w.wantEvent(port(8), fresh(false)) // what has ended takes no room
	w.wantFlows(flowOf(port(8), 121))
}

func TestTheGreatestTime(t *testing.T) {
	h := udpOf(hostA, hostB, 1, 2)
	w := watch(t, 2, acceptAll)
	w.Tick(topTime - 60)
	w.sendAll(h)
	w.wantFlows(flowOf(h, topTime))
	w.Tick(59)
	w.wantFlows(flowOf(h, topTime))
	w.sendAll(h, turned(h))
	w.wantFlows(replied(flowOf(h, topTime)))
	w.Tick(1)
	w.wantFlows()
	for _, n := range []uint64{0, 1, topTime} {
		w.sendAll(h) // it lasts till now: it is there till the next Tick
		w.wantFlows(flowOf(h, topTime))
		w.wantEvent(h, api.Event{Verdict: api.Accept, Known: true})
		w.Tick(n)
		w.wantFlows()
		if w.Now() != topTime {
			t.Errorf("P13: now is %d behind the greatest time", w.Now())
		}
	}
}

func TestTickStopsAtTheGreatestTime(t *testing.T) {
	for _, c := range []struct{ first, second, want uint64 }{
		{0, 0, 0}, {3, 4, 7}, {topTime, 1, topTime}, {1, topTime, topTime}, {topTime - 1, 1, topTime}, {topTime - 2, 1, topTime - 1},
		{1 << 63, 1 << 63, topTime}, {1 << 63, 1<<63 - 1, topTime}, {1<<32 - 1, 1, 1 << 32}, {topTime, topTime, topTime},
	} {
		w := watch(t, 1, "")
		w.Tick(c.first)
		w.Tick(c.second)
		if w.Now() != c.want {
			t.Errorf("P13: Tick(%d), Tick(%d): now %d, want %d", c.first, c.second, w.Now(), c.want)
		}
	}
}

func TestFlowsThatEndAtTheSameTime(t *testing.T) {
	w := watch(t, 8, acceptAll)
	for n := range uint16(3) {
		w.sendAll(udpOf(hostA, hostB, n, 9))
	}
	w.Tick(30)
	w.sendAll(tcpOf(hostA, hostB, 1, 2, api.Syn), udpOf(hostA, hostB, 1, 9))
	w.Tick(30)
	w.wantFlows(flowOf(udpOf(hostA, hostB, 1, 9), 90))
	w.Tick(30)
	w.wantFlows()
}

func TestGatesAgainstTheirWords(t *testing.T) {
	texts := []string{
		acceptAll, "policy drop", "policy reject\naccept state established", "policy drop\naccept proto tcp dport 1\naccept proto udp\nreject in 1\naccept state established,invalid",
		"policy accept\ndrop proto icmp\nreject state invalid", "foo", "policy accept\ndrop in 256", "policy accept\nreject in 0 from 0.0.0.1/32\ndrop in 1 to 0.0.0.2/31",
	}
	for seed := range int64(200) {
		random := rand.New(rand.NewSource(seed))
		told := toldGate{capacity: 1 + random.Intn(12)}
		w := watch(t, told.capacity, "")
		for range 400 {
			switch n := random.Intn(40); {
			case n == 0:
				text := texts[random.Intn(len(texts))]
				if got, want := w.Load(text), told.load(text); (got == nil) != (want == nil) {
					t.Fatalf("P11: Load(%q) = %v", text, got)
				}
			case n < 10:
				d := []uint64{0, 1, 2, 5, 10, 20, 30, 60, 100}[random.Intn(9)]
				if random.Intn(200) == 0 {
					d = topTime - uint64(random.Intn(400)) - w.Now()/2
				}
				w.Tick(d)
				told.tick(d)
			default:
				f := build(t, someHeader(random), []byte("abc"))
				f = f[:len(f)-max(0, random.Intn(20)-18)]
				iface := uint8(random.Intn(3))
				if got, want := w.send(iface, f), told.frame(iface, f); got != want {
					t.Fatalf("P12: seed %d: of %x became %+v, want %+v", seed, f, got, want)
				}
			}
			if w.Now() != told.now || w.Counts() != told.counts || !slices.Equal(w.List(), told.flows) {
				t.Fatalf("P12, P13: seed %d: now %d, %+v, %+v, want %+v", seed, w.Now(), w.Counts(), w.List(), told)
			}
		}
	}
}

func TestFramesAreOnlyReadAndNotKept(t *testing.T) {
	h := udpOf(hostA, hostB, 1, 2)
	f := build(t, h, []byte("abc"))
	w := watch(t, 2, acceptAll)
	for n := range len(f) + 1 {
		data := roomy(f[:n])
		if e := w.send(0, data); (e.Class == api.Fine) != (n == len(f)) {
			t.Errorf("P2: the room behind a frame of %d bytes is taken for it: %+v", n, e)
		}
		if !untouched(data, f[:n]) {
			t.Errorf("P2: Frame wrote into the first %d bytes of %x or behind them", n, f)
		}
		clear(data)
	}
	w.wantFlows(flowOf(h, 60))
	w.wantEvent(h, api.Event{Verdict: api.Accept, Known: true})
	if !bytes.Equal(f, build(t, h, []byte("abc"))) {
		t.Error("P2: Frame wrote into a frame")
	}
}

func TestNoGateHangsOnAnother(t *testing.T) {
	x, y := watch(t, 2, acceptAll), watch(t, 1, "policy reject")
	h := udpOf(hostA, hostB, 1, 2)
	x.sendAll(h, udpOf(hostA, hostB, 3, 4))
	x.Tick(5)
	y.wantFlows()
	y.wantCounts(api.Counts{})
	if y.Now() != 0 || len(y.events) != 0 {
		t.Errorf("P2: another gate is at %d and was told %+v", y.Now(), y.events)
	}
	y.wantEvent(turned(h), api.Event{Verdict: api.Reject})
	y.Tick(1000)
	x.wantFlows(flowOf(h, 60), flowOf(udpOf(hostA, hostB, 3, 4), 60))
	x.wantCounts(api.Counts{Accepted: 2})
}
