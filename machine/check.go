package machine

import "firewall/api"

// Check tells whether a code is safe: nil, or a *api.CodeError (P6).
func Check(code []byte) error {
	list, err := read(code)
	if err != nil {
		return err
	}
	if err := checkJumps(list); err != nil {
		return err
	}
	return checkUses(list)
}

// exits tells how many instructions each way out passes over; of a branch the way t comes first.
func (in Instruction) exits() []uint32 {
	switch {
	case in.Op == Ret:
		return nil
	case in.Op == Jmp:
		return []uint32{in.K}
	case in.isBranch():
		return []uint32{uint32(in.T), uint32(in.F)}
	}
	return []uint32{0}
}

func checkJumps(list []Instruction) error {
	for at, in := range list {
		left := len(list) - at - 1
		for _, over := range in.exits() {
			if uint64(over) >= uint64(left) {
				return &api.CodeError{At: at, Kind: api.ErrJump}
			}
		}
	}
	return nil
}

// checkUses needs a list in which no jump leads beyond the end. One walk will do, for all ways lead forward: what is sure ahead of an instruction is whole when the walk comes to it.
func checkUses(list []Instruction) error {
	ahead := make([]facts, len(list))
	ahead[0].come = true
	for at, in := range list {
		known := ahead[at]
		if !known.come {
			continue
		}
		if kind := known.fault(in); kind != 0 {
			return &api.CodeError{At: at, Kind: kind}
		}
		for way, over := range in.exits() {
			to := &ahead[at+1+int(over)]
			*to = to.meet(known.behind(in, way))
		}
	}
	return nil
}

// facts is what is surely so ahead of an instruction. Where come does not hold no way leads there, and nothing else counts.
type facts struct {
	come      bool
	set       [api.Regs]bool
	hasLength [api.Regs]bool
	there     uint32
}

// fault is 0 where there is none.
func (known facts) fault(in Instruction) api.Kind {
	switch {
	case in.usesRegister() && !known.set[in.R]:
		return api.ErrUnset
	case in.isLoad() && in.LoadEnd() > uint64(known.there):
		return api.ErrLoad
	}
	return 0
}

// behind tells what is sure along the way out of in that exits tells at that place.
func (known facts) behind(in Instruction, way int) facts {
	switch in.Op {
	case Ldb, Ldh, Ldw, Ldm:
		known.set[in.R] = true
		known.hasLength[in.R] = false
	case Len:
		known.set[in.R] = true
		known.hasLength[in.R] = true
	case And, Shr:
		known.hasLength[in.R] = false
	case Jeq, Jge:
		if way == 0 && known.hasLength[in.R] {
			known.there = max(known.there, in.K)
		}
	}
	return known
}

// meet keeps what is so by both.
func (known facts) meet(other facts) facts {
	if !known.come {
		return other
	}
	for r := range api.Regs {
		known.set[r] = known.set[r] && other.set[r]
		known.hasLength[r] = known.hasLength[r] && other.hasLength[r]
	}
	known.there = min(known.there, other.there)
	return known
}
