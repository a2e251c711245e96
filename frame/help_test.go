package frame

import (
	"bytes"
	"encoding/hex"
	"strings"
	"testing"

	"firewall/api"
)

const link = "000000000000 000000000000 0800 "

const (
	addrA = 0x0a000001
	addrB = 0x0a000002
)

func unhex(t *testing.T, s string) []byte {
	t.Helper()
	b, err := hex.DecodeString(strings.ReplaceAll(s, " ", ""))
	if err != nil {
		t.Fatal(err)
	}
	return b
}

func tcpFrame(t *testing.T) []byte {
	return unhex(t, link+"4500 0029 0000 0000 4006 66cd 0a000001 0a000002 0050 0400 00000000 00000000 5012 0000 0000 0000 78")
}

func udpFrame(t *testing.T) []byte {
	return unhex(t, link+"4500 001f 0000 0000 4011 66cc 0a000001 0a000002 ffff 1234 000b 0000 686579")
}

func icmpFrame(t *testing.T) []byte {
	return unhex(t, link+"4500 001c 0000 0000 4001 66df 0a000002 0a000001 0800 0000 0107 0000")
}

func otherFrame(t *testing.T) []byte {
	return unhex(t, link+"4500 0017 0000 0000 4059 7a8f 00000000 ffffffff 616263")
}

// put writes pairs of place and byte into a copy.
func put(b []byte, pairs ...int) []byte {
	b = bytes.Clone(b)
	for i := 0; i < len(pairs); i += 2 {
		b[pairs[i]] = byte(pairs[i+1])
	}
	return b
}

// summed makes bytes 24 and 25 fit the rest, by division: a way that the program does not take.
func summed(b []byte) []byte {
	rest := 0
	for i := 14; i < 34; i += 2 {
		if i != 24 {
			rest += int(b[i])*256 + int(b[i+1])
		}
	}
	// A number that is not 0 and that 65535 divides folds to 65535.
	need := (65535 - rest%65535) % 65535
	b[24], b[25] = byte(need/256), byte(need%256)
	return b
}

// told is P3 word for word, to hold Parse against.
func told(b []byte) (api.Header, api.Class) {
	var none api.Header
	num := func(from, to int) int {
		n := 0
		for i := from; i <= to; i++ {
			n = n*256 + int(b[i])
		}
		return n
	}
	if len(b) < 14 {
		return none, api.Short
	}
	if b[12] != 8 || b[13] != 0 {
		return none, api.Alien
	}
	if len(b) < 34 {
		return none, api.Cut
	}
	if b[14]/16 != 4 {
		return none, api.Version
	}
	if b[14]%16 != 5 {
		return none, api.Options
	}
	total := num(16, 17)
	if total < 20 || total > len(b[14:]) {
		return none, api.Length
	}
	sum := 0
	for i := 14; i <= 32; i += 2 {
		sum += num(i, i+1)
	}
	if sum%65535 != 0 {
		return none, api.Sum
	}
	if num(20, 21)%16384 != 0 {
		return none, api.Fragment
	}
	proto := int(b[23])
	h := api.Header{Proto: b[23], Src: uint32(num(26, 29)), Dst: uint32(num(30, 33))}
	if proto == 6 {
		if total < 40 || b[46]/16 < 5 || 4*int(b[46]/16) > total-20 {
			return none, api.Inner
		}
		h.Flags = b[47] % 64
	}
	if proto == 17 && (total < 28 || num(38, 39) < 8 || num(38, 39) > total-20) {
		return none, api.Inner
	}
	if proto == 6 || proto == 17 {
		h.Sport, h.Dport = uint16(num(34, 35)), uint16(num(36, 37))
	}
	if proto == 1 {
		if total < 28 {
			return none, api.Inner
		}
		h.Flags = b[34]
		if h.Flags == 8 || h.Flags == 0 {
			h.Sport, h.Dport = uint16(num(38, 39)), uint16(num(38, 39))
		}
	}
	return h, api.Fine
}
