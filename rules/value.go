package rules

import (
	"slices"
	"strings"

	"firewall/api"
)

// The names of the conditions.
const (
	nameIn    = "in"
	nameFrom  = "from"
	nameTo    = "to"
	nameProto = "proto"
	nameSport = "sport"
	nameDport = "dport"
	nameFlags = "flags"
	nameState = "state"

	nameCount = 8
)

// names are in the order in which conditions are printed.
func names() []string {
	return []string{nameIn, nameFrom, nameTo, nameProto, nameSport, nameDport, nameFlags, nameState}
}

// The greatest numbers.
const (
	topByte  = 255
	topBits  = 32
	topPort  = 65535
	topFlags = 63

	beyond = topPort + 1
)

// readCondition takes the piece behind a condition's name: ErrSyntax, if it has not the form, goes ahead of ErrRange.
func readCondition(name, piece string) (condition, error) {
	switch name {
	case nameIn:
		return readIface(piece)
	case nameFrom:
		n, err := readNet(piece)
		return srcIn{n}, err
	case nameTo:
		n, err := readNet(piece)
		return dstIn{n}, err
	case nameProto:
		return readProto(piece)
	case nameSport:
		p, err := readPorts(piece)
		return sportIn{p}, err
	case nameDport:
		p, err := readPorts(piece)
		return dportIn{p}, err
	case nameFlags:
		return readFlags(piece)
	case nameState:
		return readStates(piece)
	}
	return nil, api.ErrSyntax
}

func readIface(piece string) (condition, error) {
	n, err := readNumber(piece)
	if err != nil {
		return nil, err
	}
	if n > topByte {
		return nil, api.ErrRange
	}
	return ifaceIs{uint8(n)}, nil
}

func readNet(piece string) (net, error) {
	address, bits, _ := strings.Cut(piece, "/")
	bytes := strings.Split(address, ".")
	if len(bytes) != 4 {
		return net{}, api.ErrSyntax
	}
	numbers, err := readNumbers(append(bytes, bits)...)
	if err != nil {
		return net{}, err
	}
	n := net{bits: numbers[4]}
	for _, b := range numbers[:4] {
		if b > topByte {
			return net{}, api.ErrRange
		}
		n.address = n.address<<8 | b
	}
	if n.bits > topBits || n.address&^n.mask() != 0 {
		return net{}, api.ErrRange
	}
	return n, nil
}

func readProto(piece string) (condition, error) {
	switch piece {
	case "tcp":
		return protoIs{"tcp", api.TCP}, nil
	case "udp":
		return protoIs{"udp", api.UDP}, nil
	case "icmp":
		return protoIs{"icmp", api.ICMP}, nil
	}
	return nil, api.ErrSyntax
}

func readPorts(piece string) (ports, error) {
	first, last, isRange := strings.Cut(piece, "-")
	if !isRange {
		last = first
	}
	numbers, err := readNumbers(first, last)
	if err != nil {
		return ports{}, err
	}
	if numbers[1] > topPort || numbers[0] > numbers[1] {
		return ports{}, api.ErrRange
	}
	return ports{uint16(numbers[0]), uint16(numbers[1])}, nil
}

func readFlags(piece string) (condition, error) {
	mask, set, _ := strings.Cut(piece, "/")
	numbers, err := readNumbers(mask, set)
	if err != nil {
		return nil, err
	}
	if numbers[0] > topFlags || numbers[1]&^numbers[0] != 0 {
		return nil, api.ErrRange
	}
	return flagsAre{uint8(numbers[0]), uint8(numbers[1])}, nil
}

// readStates looks at all words ahead of telling that one stands twice.
func readStates(piece string) (condition, error) {
	var s stateIs
	twice := false
	for _, word := range strings.Split(piece, ",") {
		state := slices.Index(stateWords(), word)
		if state < 0 {
			return nil, api.ErrSyntax
		}
		twice = twice || s.among[state]
		s.among[state] = true
	}
	if twice {
		return nil, api.ErrRange
	}
	return s, nil
}

func readNumbers(pieces ...string) ([]uint32, error) {
	var numbers []uint32
	for _, piece := range pieces {
		n, err := readNumber(piece)
		if err != nil {
			return nil, err
		}
		numbers = append(numbers, n)
	}
	return numbers, nil
}

// readNumber stops at beyond, which is out of every range: a number may have more digits than a width holds.
func readNumber(piece string) (uint32, error) {
	if piece == "" {
		return 0, api.ErrSyntax
	}
	var n uint32
	for i := range len(piece) {
		digit := piece[i]
		if digit < '0' || digit > '9' {
			return 0, api.ErrSyntax
		}
		n = min(10*n+uint32(digit-'0'), beyond)
	}
	return n, nil
}
