package rules

import (
	"firewall/api"
	"firewall/frame"
	"firewall/machine"
)

// The registers: what a condition tests, and the frame's length, which stays there all along.
const (
	tested = 0
	length = 1
)

// Compile makes a code of a text of rules (P10).
func Compile(text string) ([]byte, error) {
	b, err := read(text)
	if err != nil {
		return nil, err
	}
	var c coder
	c.begin()
	for _, r := range b.rules {
		c.rule(r)
	}
	c.ret(b.policy)
	return machine.Write(c.list), nil
}

// coder makes a code, rule by rule: where a condition does not hold, a branch leads behind the rule's end. A rule has some thirty instructions at most, so each branch is short enough.
type coder struct {
	list     []machine.Instruction
	outByT   []int  // the places of this rule's branches that leave it by the way t
	outByF   []int  // the same by the way f
	sureSize uint64 // how many bytes Check will know to be there
}

// begin drops frames that are too short to be Fine; so Check knows of the others that a head is there.
func (c *coder) begin() {
	c.add(machine.Instruction{Op: machine.Len, R: length})
	c.add(machine.Instruction{Op: machine.Jge, R: length, T: 1, K: frame.AtInner})
	c.ret(api.Drop)
}

// rule begins with the head alone: ways that know of no more lead to it from the rules ahead.
func (c *coder) rule(r rule) {
	c.sureSize = frame.AtInner
	for _, cond := range r.conditions {
		if cond != nil {
			cond.test(c)
		}
	}
	c.ret(r.verdict)
	c.joinBranches()
}

func (c *coder) joinBranches() {
	for _, at := range c.outByT {
		c.list[at].T = c.over(at)
	}
	for _, at := range c.outByF {
		c.list[at].F = c.over(at)
	}
	c.outByT, c.outByF = nil, nil
}

// over tells how many instructions stand between a place and the end.
func (c *coder) over(at int) uint8 { return uint8(len(c.list) - at - 1) }

func (c *coder) add(in machine.Instruction) { c.list = append(c.list, in) }

func (c *coder) ret(v api.Verdict) {
	c.add(machine.Instruction{Op: machine.Ret, K: uint32(v)})
}

func (c *coder) ask(meta uint32) {
	c.add(machine.Instruction{Op: machine.Ldm, R: tested, K: meta})
}

// load leaves the rule where the bytes are not there: a Fine frame of the protocol that the rule names has them.
func (c *coder) load(op uint8, at uint32) {
	in := machine.Instruction{Op: op, R: tested, K: at}
	if end := in.LoadEnd(); end > c.sureSize {
		c.addLeaving(machine.Instruction{Op: machine.Jge, R: length, K: uint32(end)})
		c.sureSize = end
	}
	c.add(in)
}

func (c *coder) keep(mask uint32) {
	c.add(machine.Instruction{Op: machine.And, R: tested, K: mask})
}

// must goes on if the branch holds.
func (c *coder) must(op uint8, k uint32) {
	c.addLeaving(machine.Instruction{Op: op, R: tested, K: k})
}

// mustNot goes on unless the branch holds.
func (c *coder) mustNot(op uint8, k uint32) {
	c.outByT = append(c.outByT, len(c.list))
	c.add(machine.Instruction{Op: op, R: tested, K: k})
}

func (c *coder) addLeaving(in machine.Instruction) {
	c.outByF = append(c.outByF, len(c.list))
	c.add(in)
}
