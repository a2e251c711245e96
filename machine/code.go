// Package machine shows that a code is safe ahead of running it, and runs it over a frame (P5 to P7).
package machine

import "firewall/api"

// The ops. The one that the document names len is size here: len stays the language's.
const (
	ret  = 0
	ldb  = 1
	ldh  = 2
	ldw  = 3
	ldm  = 4
	size = 5
	and  = 6
	shr  = 7
	jeq  = 8
	jge  = 9
	jset = 10
	jmp  = 11
)

const (
	insSize = 8
	regBits = 32
)

// instruction is one that was taken out of a code; it is none (P5) unless it fits.
type instruction struct {
	op, r, t, f uint8
	k           uint32
}

// read takes a code apart; its error is a *api.CodeError with ErrCode.
func read(code []byte) ([]instruction, error) {
	count := len(code) / insSize
	if len(code)%insSize != 0 || count == 0 || count > api.MaxCode {
		return nil, &api.CodeError{At: 0, Kind: api.ErrCode}
	}
	list := make([]instruction, count)
	for at := range list {
		list[at] = readOne(code[at*insSize:])
		if !list[at].fits() {
			return nil, &api.CodeError{At: at, Kind: api.ErrCode}
		}
	}
	return list, nil
}

func readOne(b []byte) instruction {
	return instruction{op: b[0], r: b[1], t: b[2], f: b[3], k: number(b[4:insSize])}
}

// number goes round above four bytes; none of its callers has more.
func number(b []byte) uint32 {
	var n uint32
	for _, x := range b {
		n = n<<8 | uint32(x)
	}
	return n
}

func (in instruction) fits() bool {
	if in.r >= api.Regs || !in.isBranch() && (in.t != 0 || in.f != 0) {
		return false
	}
	switch in.op {
	case ret:
		return in.r == 0 && in.k <= uint32(api.Reject)
	case ldm:
		return in.k < api.Metas
	case size:
		return in.k == 0
	case shr:
		return in.k < regBits
	case jmp:
		return in.r == 0
	}
	return in.op < jmp
}

func (in instruction) isBranch() bool {
	return in.op == jeq || in.op == jge || in.op == jset
}

func (in instruction) isLoad() bool {
	return in.op == ldb || in.op == ldh || in.op == ldw
}

// usesRegister tells whether what register r held ahead matters.
func (in instruction) usesRegister() bool {
	return in.op == and || in.op == shr || in.isBranch()
}

// loadEnd has 64 bits, for a load may begin at the greatest number of 32.
func (in instruction) loadEnd() uint64 {
	end := uint64(in.k)
	switch in.op {
	case ldb:
		end += 1
	case ldh:
		end += 2
	case ldw:
		end += 4
	}
	return end
}
