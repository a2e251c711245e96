package rules

import (
	"strconv"
	"strings"

	"firewall/api"
	"firewall/frame"
	"firewall/machine"
)

// condition is one of a rule's; there is a type for each kind.
type condition interface {
	// value is the piece behind the condition's name, in the one way in which it is printed.
	value() string
	// test adds instructions that go on where the condition holds, and leave the rule where it does not.
	test(c *coder)
}

// Where a code finds what stands beside the frame.
const (
	metaIface = 0
	metaState = 1
)

// ifaceIs is the condition in.
type ifaceIs struct{ number uint8 }

func (i ifaceIs) value() string { return decimal(uint32(i.number)) }

func (i ifaceIs) test(c *coder) {
	c.ask(metaIface)
	c.must(machine.Jeq, uint32(i.number))
}

// net is all addresses that have the first so many bits of one.
type net struct {
	address uint32
	bits    uint32
}

// mask goes round to 0 where a net has no bits.
func (n net) mask() uint32 { return ^uint32(0) << (32 - n.bits) }

func (n net) value() string {
	var bytes []string
	for shift := 24; shift >= 0; shift -= 8 {
		bytes = append(bytes, decimal(n.address>>shift&0xff))
	}
	return strings.Join(bytes, ".") + "/" + decimal(n.bits)
}

func (n net) testAt(c *coder, at uint32) {
	c.load(machine.Ldw, at)
	c.keep(n.mask())
	c.must(machine.Jeq, n.address)
}

// srcIn is the condition from.
type srcIn struct{ net }

func (s srcIn) test(c *coder) { s.testAt(c, frame.AtSrc) }

// dstIn is the condition to.
type dstIn struct{ net }

func (d dstIn) test(c *coder) { d.testAt(c, frame.AtDst) }

// protoIs is the condition proto.
type protoIs struct {
	word   string
	number uint8
}

func (p protoIs) value() string { return p.word }

func (p protoIs) test(c *coder) {
	c.load(machine.Ldb, frame.AtProto)
	c.must(machine.Jeq, uint32(p.number))
}

// ports is a range, both ends are in it.
type ports struct{ first, last uint16 }

func (p ports) value() string {
	if p.first == p.last {
		return decimal(uint32(p.first))
	}
	return decimal(uint32(p.first)) + "-" + decimal(uint32(p.last))
}

func (p ports) testAt(c *coder, at uint32) {
	c.load(machine.Ldh, at)
	c.must(machine.Jge, uint32(p.first))
	c.mustNot(machine.Jge, uint32(p.last)+1)
}

// sportIn is the condition sport.
type sportIn struct{ ports }

func (s sportIn) test(c *coder) { s.testAt(c, frame.AtSport) }

// dportIn is the condition dport.
type dportIn struct{ ports }

func (d dportIn) test(c *coder) { d.testAt(c, frame.AtDport) }

// flagsAre is the condition flags: of the bits in mask those in set.
type flagsAre struct{ mask, set uint8 }

func (f flagsAre) value() string {
	return decimal(uint32(f.mask)) + "/" + decimal(uint32(f.set))
}

func (f flagsAre) test(c *coder) {
	c.load(machine.Ldb, frame.AtFlags)
	c.keep(uint32(f.mask))
	c.must(machine.Jeq, uint32(f.set))
}

const stateCount = int(api.Invalid) + 1

// stateWords stand at the numbers of their states.
func stateWords() []string { return []string{"new", "established", "invalid"} }

// stateIs is the condition state: by a state's number, whether it is one of them.
type stateIs struct{ among [stateCount]bool }

func (s stateIs) value() string {
	var words []string
	for state, word := range stateWords() {
		if s.among[state] {
			words = append(words, word)
		}
	}
	return strings.Join(words, ",")
}

// test asks for the states that must not be: so each branch has but two ways, on or out of the rule.
func (s stateIs) test(c *coder) {
	c.ask(metaState)
	c.mustNot(machine.Jge, uint32(stateCount))
	for state, among := range s.among {
		if !among {
			c.mustNot(machine.Jeq, uint32(state))
		}
	}
}

func decimal(n uint32) string { return strconv.FormatUint(uint64(n), 10) }
