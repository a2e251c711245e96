package flow

import (
	"math"
	"testing"

	"firewall/api"
)

// someHeaders are those of one protocol between ends that are nearly the same.
func someHeaders(proto uint8) []api.Header {
	var list []api.Header
	for _, src := range []uint32{0, 1, math.MaxUint32} {
		for _, dst := range []uint32{0, 1, math.MaxUint32} {
			for _, sport := range []uint16{0, 1, math.MaxUint16} {
				for _, dport := range []uint16{0, 1, math.MaxUint16} {
					list = append(list, api.Header{Src: src, Dst: dst, Proto: proto, Sport: sport, Dport: dport})
				}
			}
		}
	}
	return list
}

func TestBothDirectionsFindAFlow(t *testing.T) {
	for _, x := range someHeaders(api.UDP) {
		for _, y := range someHeaders(api.UDP) {
			same := x.Src == y.Src && x.Sport == y.Sport && x.Dst == y.Dst && x.Dport == y.Dport
			turned := x.Src == y.Dst && x.Sport == y.Dport && x.Dst == y.Src && x.Dport == y.Sport
			if (keyOf(x) == keyOf(y)) != (same || turned) {
				t.Errorf("P12: of one flow are %+v and %+v: %v", x, y, keyOf(x) == keyOf(y))
			}
			if !same && !turned {
				continue
			}
			if back := turned && (x.Src != y.Src || x.Sport != y.Sport); begin(x).isBack(y) != back {
				t.Errorf("P12: %+v goes back in the flow of %+v: %v", y, x, !back)
			}
		}
	}
}

func TestAProtocolHasFlowsOfItsOwn(t *testing.T) {
	for p := range 256 {
		for q := range 256 {
			x, y := api.Header{Src: 1, Dst: 2, Proto: uint8(p)}, api.Header{Src: 2, Dst: 1, Proto: uint8(q)}
			if (keyOf(x) == keyOf(y)) != (p == q) {
				t.Errorf("P12: protocols %d and %d share a flow: %v", p, q, p != q)
			}
		}
	}
}

func TestFlagsAreNoPartOfAFlow(t *testing.T) {
	x := api.Header{Src: 1, Dst: 2, Proto: api.ICMP, Sport: 7, Dport: 7, Flags: 8}
	y := api.Header{Src: 2, Dst: 1, Proto: api.ICMP, Sport: 7, Dport: 7, Flags: 0}
	if keyOf(x) != keyOf(y) || !begin(x).isBack(y) {
		t.Error("P12: an answer does not find what asked for it")
	}
}

func TestFirstState(t *testing.T) {
	for proto := range 256 {
		for flags := range 256 {
			want := api.New
			fin, syn, rst, ack := flags%2, flags/2%2, flags/4%2, flags/16%2
			if proto == 6 && (fin != 0 || syn != 1 || rst != 0 || ack != 0) {
				want = api.Invalid
			}
			if got := firstState(api.Header{Proto: uint8(proto), Flags: uint8(flags)}); got != want {
				t.Errorf("P12: protocol %d, flags %d: state %d, want %d", proto, flags, got, want)
			}
		}
	}
}

func TestStateInAFlow(t *testing.T) {
	there := api.Header{Src: 1, Dst: 2, Proto: api.TCP, Sport: 3, Dport: 4, Flags: api.Ack}
	back := api.Header{Src: 2, Dst: 1, Proto: api.TCP, Sport: 4, Dport: 3, Flags: api.Rst}
	self := api.Header{Src: 1, Dst: 1, Proto: api.UDP, Sport: 3, Dport: 3}
	f := begin(there)
	if f.state(there) != api.New || f.state(back) != api.Established {
		t.Errorf("P12: ahead of an answer: %d, %d", f.state(there), f.state(back))
	}
	f.Replied = true
	if f.state(there) != api.Established || f.state(back) != api.Established {
		t.Errorf("P12: behind an answer: %d, %d", f.state(there), f.state(back))
	}
	if begin(self).state(self) != api.New {
		t.Error("P12: a frame from an end to itself goes back")
	}
}

func TestHeard(t *testing.T) {
	for proto := range 256 {
		for flags := range 256 {
			there := api.Header{Src: 1, Dst: 2, Proto: uint8(proto), Flags: uint8(flags)}
			back := api.Header{Src: 2, Dst: 1, Proto: uint8(proto), Flags: uint8(flags)}
			closing := proto == 6 && (flags%2 == 1 || flags/4%2 == 1)
			want := api.Flow{Src: 1, Dst: 2, Proto: uint8(proto), Closing: closing}
			if got := begin(there).heard(there); api.Flow(got) != want {
				t.Errorf("P12: behind %+v: %+v, want %+v", there, got, want)
			}
			want.Replied = true
			if got := begin(there).heard(back); api.Flow(got) != want {
				t.Errorf("P12: behind %+v: %+v, want %+v", back, got, want)
			}
			was := flow{Src: 1, Dst: 2, Proto: uint8(proto), Replied: true, Closing: true}
			if got := was.heard(there); got != was {
				t.Errorf("P12: a flow that was Replied and Closing is %+v", got)
			}
		}
	}
}

func TestSpan(t *testing.T) {
	for proto := range 256 {
		want := [4]uint64{60, 60, 60, 60} // new, replied, closing, both
		switch proto {
		case 1:
			want = [4]uint64{20, 20, 20, 20}
		case 6:
			want = [4]uint64{30, 300, 10, 10}
		case 17:
			want = [4]uint64{60, 120, 60, 120}
		}
		for n, span := range want {
			f := flow{Proto: uint8(proto), Replied: n%2 == 1, Closing: n/2 == 1}
			if f.span() != span {
				t.Errorf("P12: %+v lasts %d, want %d", f, f.span(), span)
			}
		}
	}
}
