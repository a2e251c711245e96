package frame

import "firewall/api"

// Build makes the frame that Parse takes apart into h, with pay at its end (P4).
func Build(h api.Header, pay []byte) ([]byte, error) {
	if len(pay) > api.MaxPay || !canBe(h) {
		return nil, api.ErrArg
	}
	payAt := AtInner + innerSize(h.Proto)
	data := make([]byte, payAt+len(pay))
	putInner(data, h, len(pay))
	copy(data[payAt:], pay)
	putHead(data, h)
	return data, nil
}

// canBe tells whether h is a header that Parse can give.
func canBe(h api.Header) bool {
	switch h.Proto {
	case api.TCP:
		return h.Flags <= flagBits
	case api.UDP:
		return h.Flags == 0
	case api.ICMP:
		return h.Sport == h.Dport && (isEcho(h.Flags) || h.Sport == 0)
	}
	return h.Sport == 0 && h.Dport == 0 && h.Flags == 0
}

func innerSize(proto uint8) int {
	switch proto {
	case api.TCP:
		return tcpSize
	case api.UDP:
		return udpSize
	case api.ICMP:
		return icmpSize
	}
	return 0
}

func putInner(data []byte, h api.Header, paySize int) {
	switch h.Proto {
	case api.TCP:
		putHalf(data, AtSport, h.Sport)
		putHalf(data, AtDport, h.Dport)
		data[atOffset] = (tcpSize / 4) << 4
		data[AtFlags] = h.Flags
	case api.UDP:
		putHalf(data, AtSport, h.Sport)
		putHalf(data, AtDport, h.Dport)
		putHalf(data, atUDPSize, uint16(udpSize+paySize))
	case api.ICMP:
		data[atICMPType] = h.Flags
		putHalf(data, atICMPID, h.Sport)
	}
}

// putHead writes the sum last: it is made of all the head's other bytes.
func putHead(data []byte, h api.Header) {
	putHalf(data, atType, typeIPv4)
	data[atVersion] = version<<4 | headWords
	putHalf(data, atTotal, uint16(len(data)-linkSize))
	data[atLife] = life
	data[AtProto] = h.Proto
	putWord(data, AtSrc, h.Src)
	putWord(data, AtDst, h.Dst)
	putHalf(data, atSum, ^headSum(data))
}
