package flow

import (
	"math"
	"slices"
	"testing"

	"firewall/api"
)

const top = math.MaxUint64

func udp(sport uint16) api.Header {
	return api.Header{Src: 1, Dst: 2, Proto: api.UDP, Sport: sport, Dport: 9}
}

func back(h api.Header) api.Header {
	h.Src, h.Dst, h.Sport, h.Dport = h.Dst, h.Src, h.Dport, h.Sport
	return h
}

func wantFlows(t *testing.T, k *Keeper, want ...api.Flow) {
	t.Helper()
	if got := slices.Collect(k.All()); !slices.Equal(got, want) {
		t.Errorf("P12, P13: at %d there are %+v, want %+v", k.Now(), got, want)
	}
}

func TestLater(t *testing.T) {
	for _, c := range [][3]uint64{
		{0, 0, 0}, {3, 4, 7}, {0, top, top}, {top, 0, top}, {top, 1, top}, {1, top, top}, {top, top, top},
		{top - 5, 5, top}, {top - 5, 4, top - 1}, {top - 5, 6, top}, {1 << 63, 1 << 63, top}, {1 << 63, 1<<63 - 1, top}, {1 << 32, 1 << 32, 1 << 33},
	} {
		if got := later(c[0], c[1]); got != c[2] {
			t.Errorf("P12, P13: %d and %d: %d, want %d", c[0], c[1], got, c[2])
		}
	}
}

func TestLookKeepsNothing(t *testing.T) {
	k := Make(1)
	for _, h := range []api.Header{udp(1), back(udp(1)), {Proto: api.TCP}, {Proto: api.TCP, Flags: api.Syn}} {
		if _, known := k.Look(h); known {
			t.Errorf("P12: a keeper that kept nothing knows %+v", h)
		}
	}
	wantFlows(t, k)
	k.Keep(udp(1))
	k.Tick(5)
	k.Look(back(udp(1)))
	wantFlows(t, k, api.Flow{Src: 1, Dst: 2, Proto: api.UDP, Sport: 1, Dport: 9, Until: 60})
}

func TestKeep(t *testing.T) {
	k := Make(2)
	first := api.Flow{Src: 1, Dst: 2, Proto: api.UDP, Sport: 1, Dport: 9, Until: 60}
	second := api.Flow{Src: 2, Dst: 1, Proto: api.UDP, Sport: 9, Dport: 2, Until: 61}
	third := api.Flow{Src: 1, Dst: 2, Proto: api.UDP, Sport: 3, Dport: 9, Until: 62}
	if k.Keep(udp(1)) {
		t.Error("P12: a flow had to go of none")
	}
	k.Tick(1)
	if k.Keep(back(udp(2))) {
		t.Error("P12: a flow had to go though there was room")
	}
	wantFlows(t, k, first, second)
	k.Tick(1)
	if k.Keep(api.Header{Src: 1, Dst: 2, Proto: api.TCP, Flags: api.Ack}) {
		t.Error("P12: a flow had to go for a frame of which nothing is kept")
	}
	wantFlows(t, k, first, second)
	if k.Keep(back(udp(1))) {
		t.Error("P12: a flow had to go for one that was there")
	}
	first.Replied, first.Until = true, 122
	wantFlows(t, k, first, second)
	if !k.Keep(udp(3)) {
		t.Error("P12: no flow had to go though there was no room")
	}
	wantFlows(t, k, first, third)
}

func TestAFlowStaysAsItsFirstFrameHadIt(t *testing.T) {
	k := Make(1)
	k.Keep(back(udp(1)))
	k.Keep(udp(1))
	k.Keep(udp(1))
	wantFlows(t, k, api.Flow{Src: 2, Dst: 1, Proto: api.UDP, Sport: 9, Dport: 1, Replied: true, Until: 120})
}

func TestTick(t *testing.T) {
	k := Make(3)
	if k.Now() != 0 {
		t.Errorf("P13: it begins at %d", k.Now())
	}
	k.Keep(udp(1))
	k.Keep(udp(2))
	k.Tick(59)
	k.Keep(udp(3))
	if k.Now() != 59 || len(slices.Collect(k.All())) != 3 {
		t.Errorf("P13: at %d there are %v", k.Now(), slices.Collect(k.All()))
	}
	k.Tick(1)
	wantFlows(t, k, api.Flow{Src: 1, Dst: 2, Proto: api.UDP, Sport: 3, Dport: 9, Until: 119})
	if state, known := k.Look(back(udp(1))); state != api.New || known {
		t.Errorf("P13: a flow that is gone is found: %d, %v", state, known)
	}
	k.Tick(top - 61)
	wantFlows(t, k)
	k.Keep(udp(4))
	atTop := api.Flow{Src: 1, Dst: 2, Proto: api.UDP, Sport: 4, Dport: 9, Until: top}
	wantFlows(t, k, atTop)
	k.Tick(0)
	wantFlows(t, k, atTop)
	k.Tick(5)
	wantFlows(t, k)
	if k.Now() != top {
		t.Errorf("P13: now is %d", k.Now())
	}
}
