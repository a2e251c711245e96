// Package flow keeps flows: who has spoken to whom, and for how long that counts (P12, P13).
package flow

import "firewall/api"

// For how long flows last.
const (
	tcpClosing = 10
	tcpReplied = 300
	tcpNew     = 30
	udpReplied = 120
	udpNew     = 60
	icmpAny    = 20
	otherAny   = 60
)

// end is where one of the two that speak is to be found.
type end struct {
	address uint32
	port    uint16
}

func (e end) less(other end) bool {
	if e.address != other.address {
		return e.address < other.address
	}
	return e.port < other.port
}

// key is the same for both directions, so that a flow is found by either: the lesser end stands first.
type key struct {
	low, high end
	proto     uint8
}

func keyOf(h api.Header) key {
	low, high := end{h.Src, h.Sport}, end{h.Dst, h.Dport}
	if high.less(low) {
		low, high = high, low
	}
	return key{low, high, h.Proto}
}

// flow is one that a table can hold.
type flow api.Flow

// End tells the time at which it is gone.
func (f flow) End() uint64 { return f.Until }

func begin(h api.Header) flow {
	return flow{Src: h.Src, Dst: h.Dst, Proto: h.Proto, Sport: h.Sport, Dport: h.Dport}
}

// isBack needs a frame that finds the flow. Of a flow whose two ends are the same no frame goes back.
func (f flow) isBack(h api.Header) bool {
	from, src, dst := end{h.Src, h.Sport}, end{f.Src, f.Sport}, end{f.Dst, f.Dport}
	return from == dst && from != src
}

// state is that of a frame that finds the flow.
func (f flow) state(h api.Header) api.State {
	if f.Replied || f.isBack(h) {
		return api.Established
	}
	return api.New
}

// firstState is that of a frame that finds no flow: TCP's first frame has a mark of its own.
func firstState(h api.Header) api.State {
	const marks = api.Fin | api.Syn | api.Rst | api.Ack
	if h.Proto == api.TCP && h.Flags&marks != api.Syn {
		return api.Invalid
	}
	return api.New
}

// heard is the flow behind a frame that found it.
func (f flow) heard(h api.Header) flow {
	if f.isBack(h) {
		f.Replied = true
	}
	if h.Proto == api.TCP && h.Flags&(api.Fin|api.Rst) != 0 {
		f.Closing = true
	}
	return f
}

func (f flow) span() uint64 {
	switch {
	case f.Proto == api.TCP && f.Closing:
		return tcpClosing
	case f.Proto == api.TCP && f.Replied:
		return tcpReplied
	case f.Proto == api.TCP:
		return tcpNew
	case f.Proto == api.UDP && f.Replied:
		return udpReplied
	case f.Proto == api.UDP:
		return udpNew
	case f.Proto == api.ICMP:
		return icmpAny
	}
	return otherAny
}
