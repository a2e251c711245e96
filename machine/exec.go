package machine

import (
	"errors"

	"firewall/api"
)

// Exec runs a code, that Check need not have taken, over a frame: the verdict, how many instructions were done, and ErrCode or a trap (P7). It ends, for no instruction leads back.
func Exec(code []byte, data []byte, meta [api.Metas]uint32) (api.Verdict, int, error) {
	list, err := read(code)
	var fault *api.CodeError
	if errors.As(err, &fault) {
		return api.Drop, 0, fault.Kind
	}
	m := machine{data: data, meta: meta}
	done := 0
	for at := uint64(0); at < uint64(len(list)); {
		in := list[at]
		done++
		if in.Op == Ret {
			return api.Verdict(in.K), done, nil
		}
		if trap := m.trap(in); trap != nil {
			return api.Drop, done, trap
		}
		at += 1 + uint64(m.do(in))
	}
	return api.Drop, done, api.TrapEnd
}

// machine is one at work.
type machine struct {
	data []byte
	meta [api.Metas]uint32
	reg  [api.Regs]uint32
	set  [api.Regs]bool
}

// trap is nil where in can be done.
func (m *machine) trap(in Instruction) error {
	switch {
	case in.usesRegister() && !m.set[in.R]:
		return api.TrapUnset
	case in.isLoad() && in.LoadEnd() > uint64(len(m.data)):
		return api.TrapLoad
	}
	return nil
}

// do needs an instruction that does not trap and is not ret; it tells how many are passed over.
func (m *machine) do(in Instruction) uint32 {
	switch in.Op {
	case Ldb, Ldh, Ldw:
		m.put(in.R, number(m.data[in.K:in.LoadEnd()]))
	case Ldm:
		m.put(in.R, m.meta[in.K])
	case Len:
		m.put(in.R, uint32(len(m.data)))
	case And:
		m.reg[in.R] &= in.K
	case Shr:
		m.reg[in.R] >>= in.K
	case Jeq:
		return in.branch(m.reg[in.R] == in.K)
	case Jge:
		return in.branch(m.reg[in.R] >= in.K)
	case Jset:
		return in.branch(m.reg[in.R]&in.K != 0)
	case Jmp:
		return in.K
	}
	return 0
}

func (m *machine) put(r uint8, n uint32) {
	m.reg[r] = n
	m.set[r] = true
}

func (in Instruction) branch(holds bool) uint32 {
	if holds {
		return uint32(in.T)
	}
	return uint32(in.F)
}
