package frame

import "firewall/api"

// Parse tells a frame's class and, if it is Fine, its header (P3).
func Parse(data []byte) (api.Header, api.Class) {
	class := classOf(data)
	if class != api.Fine {
		return api.Header{}, class
	}
	return headerOf(data), api.Fine
}

// classOf keeps the document's order: each case may read what the cases ahead of it have shown to be there.
func classOf(data []byte) api.Class {
	switch {
	case len(data) < linkSize:
		return api.Short
	case half(data, atType) != typeIPv4:
		return api.Alien
	case len(data) < AtInner:
		return api.Cut
	case data[atVersion]>>4 != version:
		return api.Version
	case data[atVersion]&0x0f != headWords:
		return api.Options
	case !totalFits(data):
		return api.Length
	case headSum(data) != fullSum:
		return api.Sum
	case half(data, atFragment)&fragmentBits != 0:
		return api.Fragment
	case !innerFits(data):
		return api.Inner
	}
	return api.Fine
}

func totalFits(data []byte) bool {
	total := int(half(data, atTotal))
	return total >= headSize && total <= len(data)-linkSize
}

// innerFits leaves out padding: it counts by the total, not by the frame's bytes.
func innerFits(data []byte) bool {
	size := int(half(data, atTotal)) - headSize
	switch data[AtProto] {
	case api.TCP:
		return tcpFits(data, size)
	case api.UDP:
		return udpFits(data, size)
	case api.ICMP:
		return size >= icmpSize
	}
	return true
}

func tcpFits(data []byte, size int) bool {
	if size < tcpSize {
		return false
	}
	head := 4 * int(data[atOffset]>>4)
	return head >= tcpSize && head <= size
}

func udpFits(data []byte, size int) bool {
	if size < udpSize {
		return false
	}
	told := int(half(data, atUDPSize))
	return told >= udpSize && told <= size
}

// headerOf needs a frame that is Fine.
func headerOf(data []byte) api.Header {
	h := api.Header{
		Src:   word(data, AtSrc),
		Dst:   word(data, AtDst),
		Proto: data[AtProto],
	}
	switch h.Proto {
	case api.TCP:
		h.Sport, h.Dport = half(data, AtSport), half(data, AtDport)
		h.Flags = data[AtFlags] & flagBits
	case api.UDP:
		h.Sport, h.Dport = half(data, AtSport), half(data, AtDport)
	case api.ICMP:
		h.Flags = data[atICMPType]
		if isEcho(h.Flags) {
			id := half(data, atICMPID)
			h.Sport, h.Dport = id, id
		}
	}
	return h
}
