package machine

import (
	"math/rand"

	"firewall/api"
)

const top = 1<<32 - 1

// asm writes instructions (op, r, t, f, k) down by division: a way that the program does not take.
func asm(list ...[5]int) []byte {
	var code []byte
	for _, in := range list {
		k := in[4]
		code = append(code, byte(in[0]), byte(in[1]), byte(in[2]), byte(in[3]))
		code = append(code, byte(k/16777216), byte(k/65536%256), byte(k/256%256), byte(k%256))
	}
	return code
}

func retI(k int) [5]int           { return [5]int{0, 0, 0, 0, k} }
func ldbI(r, k int) [5]int        { return [5]int{1, r, 0, 0, k} }
func ldhI(r, k int) [5]int        { return [5]int{2, r, 0, 0, k} }
func ldwI(r, k int) [5]int        { return [5]int{3, r, 0, 0, k} }
func ldmI(r, k int) [5]int        { return [5]int{4, r, 0, 0, k} }
func lenI(r int) [5]int           { return [5]int{5, r, 0, 0, 0} }
func andI(r, k int) [5]int        { return [5]int{6, r, 0, 0, k} }
func shrI(r, k int) [5]int        { return [5]int{7, r, 0, 0, k} }
func jeqI(r, t, f, k int) [5]int  { return [5]int{8, r, t, f, k} }
func jgeI(r, t, f, k int) [5]int  { return [5]int{9, r, t, f, k} }
func jsetI(r, t, f, k int) [5]int { return [5]int{10, r, t, f, k} }
func jmpI(k int) [5]int           { return [5]int{11, 0, 0, 0, k} }

// toldOne is P5 word for word: whether these eight bytes are an instruction.
func toldOne(b []byte) bool {
	op, r, t, f := int(b[0]), int(b[1]), int(b[2]), int(b[3])
	k := toldK(b)
	if op > 11 || r > 3 {
		return false
	}
	if (op == 0 || op == 11) && r != 0 {
		return false
	}
	if op != 8 && op != 9 && op != 10 && (t != 0 || f != 0) {
		return false
	}
	return !(op == 5 && k != 0 || op == 0 && k > 2 || op == 4 && k >= 2 || op == 7 && k > 31)
}

func toldK(b []byte) int {
	return ((int(b[4])*256+int(b[5]))*256+int(b[6]))*256 + int(b[7])
}

// toldWays tells where the ways out of the instruction at this place lead.
func toldWays(code []byte, at int) []int {
	b := code[8*at:]
	switch b[0] {
	case 0:
		return nil
	case 8, 9, 10:
		return []int{at + 1 + int(b[2]), at + 1 + int(b[3])}
	case 11:
		return []int{at + 1 + toldK(b)}
	}
	return []int{at + 1}
}

type sure struct {
	set, length map[int]bool
	bytes       int
}

// toldSure looks back from an instruction, the other way round than the program; ok: it can be come to.
func toldSure(code []byte, at int, memo map[int]*sure) (*sure, bool) {
	if s, found := memo[at]; found {
		return s, s != nil
	}
	if at == 0 {
		return &sure{}, true
	}
	var all *sure
	for from := range at {
		for way, to := range toldWays(code, from) {
			if to != at {
				continue
			}
			before, ok := toldSure(code, from, memo)
			if !ok {
				continue
			}
			along := toldAlong(code[8*from:], before, way)
			if all == nil {
				all = along
				continue
			}
			for r := range 4 {
				all.set[r] = all.set[r] && along.set[r]
				all.length[r] = all.length[r] && along.length[r]
			}
			all.bytes = min(all.bytes, along.bytes)
		}
	}
	memo[at] = all
	return all, all != nil
}

func toldAlong(b []byte, before *sure, way int) *sure {
	s := &sure{map[int]bool{}, map[int]bool{}, before.bytes}
	for r := range 4 {
		s.set[r], s.length[r] = before.set[r], before.length[r]
	}
	op, r, k := b[0], int(b[1]), toldK(b)
	if op >= 1 && op <= 5 {
		s.set[r] = true
	}
	if op >= 1 && op <= 7 {
		s.length[r] = op == 5
	}
	if (op == 8 || op == 9) && way == 0 && before.length[r] && k > s.bytes {
		s.bytes = k
	}
	return s
}

// toldCheck is P6 word for word, to hold Check against.
func toldCheck(code []byte) (api.Kind, int) {
	n := len(code) / 8
	if 8*n != len(code) || n < 1 || n > 4096 {
		return api.ErrCode, 0
	}
	for at := range n {
		if !toldOne(code[8*at : 8*at+8]) {
			return api.ErrCode, at
		}
	}
	for at := range n {
		for _, to := range toldWays(code, at) {
			if to >= n {
				return api.ErrJump, at
			}
		}
	}
	memo := map[int]*sure{}
	for at := range n {
		s, ok := toldSure(code, at, memo)
		if !ok {
			continue
		}
		b := code[8*at:]
		op, r := int(b[0]), int(b[1])
		if op >= 6 && op <= 10 && !s.set[r] {
			return api.ErrUnset, at
		}
		if op >= 1 && op <= 3 && toldK(b)+[]int{0, 1, 2, 4}[op] > s.bytes {
			return api.ErrLoad, at
		}
	}
	return 0, 0
}

// toldExec is P7 word for word, to hold Exec against; registers are numbers that are made smaller than 2^32 by hand.
func toldExec(code, data []byte, meta [2]uint32) (verdict, done int, kind api.Kind) {
	if k, _ := toldCheck(code); k == api.ErrCode {
		return 0, 0, api.ErrCode
	}
	regs := map[int]int{}
	at := 0
	for 8*at < len(code) {
		b := code[8*at:]
		op, r, k := int(b[0]), int(b[1]), toldK(b)
		done++
		old, isSet := regs[r]
		if op >= 6 && op <= 10 && !isSet {
			return 0, done, api.TrapUnset
		}
		way := 0
		switch op {
		case 0:
			return k, done, 0
		case 1, 2, 3:
			n := 0
			for i := k; i < k+[]int{0, 1, 2, 4}[op]; i++ {
				if i >= len(data) {
					return 0, done, api.TrapLoad
				}
				n = n*256 + int(data[i])
			}
			regs[r] = n
		case 4:
			regs[r] = int(meta[k])
		case 5:
			regs[r] = len(data)
		case 6:
			regs[r] = old & k
		case 7:
			for range k {
				old /= 2
			}
			regs[r] = old
		case 8:
			way = not(old == k)
		case 9:
			way = not(old >= k)
		case 10:
			way = not(old&k != 0)
		}
		at = toldWays(code, at)[way]
	}
	return 0, done, api.TrapEnd
}

func not(holds bool) int {
	if holds {
		return 0
	}
	return 1
}

// someIns is mostly an instruction, and mostly one that lets a code go on; left: how many stand behind it.
func someIns(rnd *rand.Rand, left int) [5]int {
	r := rnd.Intn(2)
	if rnd.Intn(20) == 0 {
		r = rnd.Intn(4)
	}
	near := func() int {
		if rnd.Intn(200) == 0 || left < 1 {
			return rnd.Intn(left + 2)
		}
		return rnd.Intn(min(left, 4))
	}
	k := []int{0, 1, 2, 3, 4, 8, 12, 14, 16, 20}[rnd.Intn(10)]
	switch rnd.Intn(16) {
	case 0, 1, 2, 3:
		return lenI(r)
	case 4:
		return ldbI(r, k)
	case 5:
		return ldhI(r, k)
	case 6:
		return ldwI(r, k)
	case 7, 8:
		return ldmI(r, rnd.Intn(2))
	case 9:
		return andI(r, k)
	case 10:
		return shrI(r, k)
	case 11:
		return jeqI(r, near(), near(), k)
	case 12, 13, 14:
		return jgeI(r, near(), near(), k)
	}
	if rnd.Intn(2) == 0 {
		return jmpI(near())
	}
	return jsetI(r, near(), near(), k)
}

// someCode begins by setting the registers that it mostly uses, and ends with ret but for a few times.
func someCode(rnd *rand.Rand) []byte {
	n := 1 + rnd.Intn(14)
	var list [][5]int
	if rnd.Intn(4) != 0 {
		list = append(list, lenI(0), ldmI(1, 0))
	}
	if rnd.Intn(2) == 0 {
		list = append(list, jgeI(0, 0, n-1, 8))
	}
	for i := range n {
		list = append(list, someIns(rnd, n-1-i))
	}
	if rnd.Intn(30) != 0 {
		list[len(list)-1] = retI(rnd.Intn(3))
	}
	return asm(list...)
}

// spoilt writes another byte into a few of the codes.
func spoilt(rnd *rand.Rand, code []byte) []byte {
	if rnd.Intn(20) == 0 {
		code[rnd.Intn(len(code))] = byte(rnd.Intn(12))
	}
	return code
}
