// Package machine shows that a code is safe ahead of running it, and runs it over a frame (P5 to P7); codes are written by it, too.
package machine

import "firewall/api"

// The ops.
const (
	Ret  = 0
	Ldb  = 1
	Ldh  = 2
	Ldw  = 3
	Ldm  = 4
	Len  = 5
	And  = 6
	Shr  = 7
	Jeq  = 8
	Jge  = 9
	Jset = 10
	Jmp  = 11
)

const (
	insSize = 8
	regBits = 32
)

// Instruction is one of a code; it is none (P5) unless it fits.
type Instruction struct {
	Op, R, T, F uint8
	K           uint32
}

// Write is the other way round of read: it gives the code that these instructions are.
func Write(list []Instruction) []byte {
	code := make([]byte, 0, len(list)*insSize)
	for _, in := range list {
		code = append(code, in.Op, in.R, in.T, in.F)
		code = append(code, byte(in.K>>24), byte(in.K>>16), byte(in.K>>8), byte(in.K))
	}
	return code
}

// read takes a code apart; its error is a *api.CodeError with ErrCode.
func read(code []byte) ([]Instruction, error) {
	count := len(code) / insSize
	if len(code)%insSize != 0 || count == 0 || count > api.MaxCode {
		return nil, &api.CodeError{At: 0, Kind: api.ErrCode}
	}
	list := make([]Instruction, count)
	for at := range list {
		list[at] = readOne(code[at*insSize:])
		if !list[at].fits() {
			return nil, &api.CodeError{At: at, Kind: api.ErrCode}
		}
	}
	return list, nil
}

func readOne(b []byte) Instruction {
	return Instruction{Op: b[0], R: b[1], T: b[2], F: b[3], K: number(b[4:insSize])}
}

// number goes round above four bytes; none of its callers has more.
func number(b []byte) uint32 {
	var n uint32
	for _, x := range b {
		n = n<<8 | uint32(x)
	}
	return n
}

func (in Instruction) fits() bool {
	if in.R >= api.Regs || !in.isBranch() && (in.T != 0 || in.F != 0) {
		return false
	}
	switch in.Op {
	case Ret:
		return in.R == 0 && in.K <= uint32(api.Reject)
	case Ldm:
		return in.K < api.Metas
	case Len:
		return in.K == 0
	case Shr:
		return in.K < regBits
	case Jmp:
		return in.R == 0
	}
	return in.Op < Jmp
}

func (in Instruction) isBranch() bool {
	return in.Op == Jeq || in.Op == Jge || in.Op == Jset
}

func (in Instruction) isLoad() bool {
	return in.Op == Ldb || in.Op == Ldh || in.Op == Ldw
}

// usesRegister tells whether what register r held ahead matters.
func (in Instruction) usesRegister() bool {
	return in.Op == And || in.Op == Shr || in.isBranch()
}

// LoadEnd tells how many bytes a load asks for. It has 64 bits, for a load may begin at the greatest number of 32.
func (in Instruction) LoadEnd() uint64 {
	end := uint64(in.K)
	switch in.Op {
	case Ldb:
		end += 1
	case Ldh:
		end += 2
	case Ldw:
		end += 4
	}
	return end
}
