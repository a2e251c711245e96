// Package frame takes frames of a network apart and builds them (P3, P4).
package frame

// Where the parts of a frame stand, by the number of their first byte.
const (
	atType     = 12
	atVersion  = 14 // the total counts from here on
	atTotal    = 16
	atFragment = 20
	atLife     = 22
	AtProto    = 23
	atSum      = 24
	AtSrc      = 26
	AtDst      = 30
	AtInner    = 34

	AtSport    = AtInner
	AtDport    = AtInner + 2
	atOffset   = AtInner + 12
	AtFlags    = AtInner + 13
	atUDPSize  = AtInner + 4
	atICMPType = AtInner
	atICMPID   = AtInner + 4
)

// How many bytes the heads have.
const (
	linkSize = atVersion
	headSize = AtInner - atVersion
	tcpSize  = 20
	udpSize  = 8
	icmpSize = 8
)

const (
	typeIPv4     = 0x0800
	version      = 4
	headWords    = 5
	fragmentBits = 0x3fff
	flagBits     = 0x3f
	fullSum      = 0xffff
	life         = 64
)

// The types of ICMP that carry a number by which question and answer are told to belong together.
const (
	echoReply   = 0
	echoRequest = 8
)

func isEcho(icmpType uint8) bool {
	return icmpType == echoRequest || icmpType == echoReply
}

func half(data []byte, at int) uint16 {
	return uint16(data[at])<<8 | uint16(data[at+1])
}

func word(data []byte, at int) uint32 {
	return uint32(half(data, at))<<16 | uint32(half(data, at+2))
}

func putHalf(data []byte, at int, n uint16) {
	data[at] = byte(n >> 8)
	data[at+1] = byte(n)
}

func putWord(data []byte, at int, n uint32) {
	putHalf(data, at, uint16(n>>16))
	putHalf(data, at+2, uint16(n))
}

// headSum needs a frame that is not Cut.
func headSum(data []byte) uint16 {
	var sum uint32
	for at := atVersion; at < AtInner; at += 2 {
		sum += uint32(half(data, at))
	}
	for sum > fullSum {
		sum = sum&fullSum + sum>>16
	}
	return uint16(sum)
}
