package rules

import (
	"fmt"
	"math/big"
	"math/rand"
	"net/netip"
	"regexp"
	"slices"
	"strings"

	"firewall/api"
)

// toldRule is a rule as its pieces say it: by a condition's name what stands behind it.
type toldRule struct {
	verdict string
	values  map[string]string
}

var toldOrder = []string{"in", "from", "to", "proto", "sport", "dport", "flags", "state"}

var toldForms = map[string]*regexp.Regexp{
	"in":    regexp.MustCompile(`^([0-9]+)$`),
	"from":  regexp.MustCompile(`^([0-9]+)\.([0-9]+)\.([0-9]+)\.([0-9]+)/([0-9]+)$`),
	"to":    regexp.MustCompile(`^([0-9]+)\.([0-9]+)\.([0-9]+)\.([0-9]+)/([0-9]+)$`),
	"proto": regexp.MustCompile(`^(?:tcp|udp|icmp)$`),
	"sport": regexp.MustCompile(`^([0-9]+)(?:-([0-9]+))?$`),
	"dport": regexp.MustCompile(`^([0-9]+)(?:-([0-9]+))?$`),
	"flags": regexp.MustCompile(`^([0-9]+)/([0-9]+)$`),
	"state": regexp.MustCompile(`^(?:new|established|invalid)(?:,(?:new|established|invalid))*$`),
}

var toldTops = map[string][]int64{
	"in":    {255},
	"from":  {255, 255, 255, 255, 32},
	"to":    {255, 255, 255, 255, 32},
	"sport": {65535, 65535},
	"dport": {65535, 65535},
	"flags": {63, 63},
}

var (
	toldPieces  = regexp.MustCompile(`[^ ]+`)
	toldVerdict = regexp.MustCompile(`^(?:drop|accept|reject)$`)
)

// told is P8 word for word, by other means than the program's: regular expressions and numbers of any size.
func told(text string) (policy string, list []toldRule, kind api.Kind, line int) {
	if len(text) > 2000 {
		return "", nil, api.ErrLong, 0
	}
	for i, l := range strings.Split(text, "\n") {
		pieces := toldPieces.FindAllString(l, -1)
		switch {
		case len(pieces) == 0:
		case policy == "":
			if len(pieces) != 2 || pieces[0] != "policy" || !toldVerdict.MatchString(pieces[1]) {
				return "", nil, api.ErrSyntax, i + 1
			}
			policy = pieces[1]
		case !toldVerdict.MatchString(pieces[0]):
			return "", nil, api.ErrSyntax, i + 1
		case len(list)+1 > 48:
			return "", nil, api.ErrMany, i + 1
		default:
			r, k := toldLine(pieces)
			if k != 0 {
				return "", nil, k, i + 1
			}
			list = append(list, r)
		}
	}
	if policy == "" {
		return "", nil, api.ErrSyntax, 0
	}
	return policy, list, 0, 0
}

func toldLine(pieces []string) (toldRule, api.Kind) {
	r := toldRule{pieces[0], map[string]string{}}
	for i := 1; i < len(pieces); i += 2 {
		name := pieces[i]
		if toldForms[name] == nil || i+1 >= len(pieces) {
			return r, api.ErrSyntax
		}
		if _, stood := r.values[name]; stood {
			return r, api.ErrTwice
		}
		if !toldForms[name].MatchString(pieces[i+1]) {
			return r, api.ErrSyntax
		}
		if toldOut(name, pieces[i+1]) {
			return r, api.ErrRange
		}
		r.values[name] = pieces[i+1]
	}
	_, sport := r.values["sport"]
	_, dport := r.values["dport"]
	_, flags := r.values["flags"]
	proto := r.values["proto"]
	if (sport || dport) && proto != "tcp" && proto != "udp" || flags && proto != "tcp" {
		return r, api.ErrMissing
	}
	return r, 0
}

// toldNumbers needs a value of its form.
func toldNumbers(name, value string) []*big.Int {
	var list []*big.Int
	for _, digits := range toldForms[name].FindStringSubmatch(value)[1:] {
		if digits != "" {
			n, _ := new(big.Int).SetString(digits, 10)
			list = append(list, n)
		}
	}
	return list
}

// toldOut tells whether a value that has its form is out of range.
func toldOut(name, value string) bool {
	if name == "state" {
		words := strings.Split(value, ",")
		slices.Sort(words)
		return len(slices.Compact(words)) != strings.Count(value, ",")+1
	}
	ns := toldNumbers(name, value)
	for i, n := range ns {
		if n.Cmp(big.NewInt(toldTops[name][i])) > 0 {
			return true
		}
	}
	switch name {
	case "from", "to":
		return toldNet(name, value) != toldNet(name, value).Masked()
	case "sport", "dport":
		return ns[0].Cmp(ns[len(ns)-1]) > 0
	case "flags":
		return new(big.Int).AndNot(ns[1], ns[0]).Sign() != 0
	}
	return false
}

// toldNet needs a value whose numbers are in range.
func toldNet(name, value string) netip.Prefix {
	var parts []any
	for _, n := range toldNumbers(name, value) {
		parts = append(parts, n)
	}
	return netip.MustParsePrefix(fmt.Sprintf("%d.%d.%d.%d/%d", parts...))
}

// toldPrint is P9 word for word.
func toldPrint(policy string, list []toldRule) string {
	text := "policy " + policy + "\n"
	for _, r := range list {
		text += r.verdict
		for _, name := range toldOrder {
			if value, stood := r.values[name]; stood {
				text += " " + name + " " + toldValue(name, value)
			}
		}
		text += "\n"
	}
	return text
}

func toldValue(name, value string) string {
	switch name {
	case "proto":
		return value
	case "state":
		var words []string
		for _, word := range []string{"new", "established", "invalid"} {
			if slices.Contains(strings.Split(value, ","), word) {
				words = append(words, word)
			}
		}
		return strings.Join(words, ",")
	case "from", "to":
		return toldNet(name, value).String()
	}
	ns := toldNumbers(name, value)
	switch {
	case name == "flags":
		return fmt.Sprintf("%d/%d", ns[0], ns[1])
	case len(ns) == 1 || ns[0].Cmp(ns[1]) == 0:
		return ns[0].String()
	}
	return fmt.Sprintf("%d-%d", ns[0], ns[1])
}

// toldJudge is P10 word for word.
func toldJudge(policy string, list []toldRule, h api.Header, iface uint8, state api.State) api.Verdict {
	word := policy
	for i := len(list) - 1; i >= 0; i-- {
		all := true
		for name, value := range list[i].values {
			all = all && toldHolds(name, value, h, iface, state)
		}
		if all {
			word = list[i].verdict
		}
	}
	return map[string]api.Verdict{"drop": 0, "accept": 1, "reject": 2}[word]
}

func toldHolds(name, value string, h api.Header, iface uint8, state api.State) bool {
	within := func(n uint16) bool {
		ns := toldNumbers(name, value)
		return int64(n) >= ns[0].Int64() && int64(n) <= ns[len(ns)-1].Int64()
	}
	address := func(n uint32) netip.Addr {
		return netip.AddrFrom4([4]byte{byte(n >> 24), byte(n >> 16), byte(n >> 8), byte(n)})
	}
	switch name {
	case "in":
		return toldNumbers(name, value)[0].Int64() == int64(iface)
	case "from":
		return toldNet(name, value).Contains(address(h.Src))
	case "to":
		return toldNet(name, value).Contains(address(h.Dst))
	case "proto":
		return map[string]uint8{"tcp": 6, "udp": 17, "icmp": 1}[value] == h.Proto
	case "sport":
		return within(h.Sport)
	case "dport":
		return within(h.Dport)
	case "flags":
		ns := toldNumbers(name, value)
		return int64(h.Flags)&ns[0].Int64() == ns[1].Int64()
	}
	return slices.Contains(strings.Split(value, ","), []string{"new", "established", "invalid"}[state])
}

func one(rnd *rand.Rand, list ...string) string { return list[rnd.Intn(len(list))] }

// someNumber is mostly within 0 to top, now and then just out of it or with noughts ahead.
func someNumber(rnd *rand.Rand, top int) string {
	n := rnd.Intn(top + 1)
	switch rnd.Intn(40) {
	case 0:
		return one(rnd, "", "x", "-1", "+1", "1_0", "0x1", "٣")
	case 1:
		n = top + 1
	case 2:
		return one(rnd, "0", "") + "18446744073709551616"
	case 3, 4:
		return strings.Repeat("0", rnd.Intn(30)) + fmt.Sprint(n)
	case 5, 6:
		n = top
	case 7, 8:
		n = 0
	}
	return fmt.Sprint(n)
}

// someNet draws from few addresses, so that rules and frames meet.
func someNet(rnd *rand.Rand) string {
	bits := rnd.Intn(33)
	address := someAddress(rnd)
	if rnd.Intn(20) != 0 {
		address = address >> (32 - bits) << (32 - bits)
	}
	text := fmt.Sprintf("%d.%d.%d.%d/%d", address>>24, address>>16&255, address>>8&255, address&255, bits)
	if rnd.Intn(12) == 0 {
		text = someNumber(rnd, 255) + "." + someNumber(rnd, 255) + "." + someNumber(rnd, 255) + "." + someNumber(rnd, 255) + "/32"
	}
	return text
}

func someAddress(rnd *rand.Rand) uint32 {
	address := []uint32{0, 0x0a000001, 0x0a800000, 0xc0a80102, 0xffffffff}[rnd.Intn(5)]
	if rnd.Intn(2) == 0 {
		address ^= 1 << rnd.Intn(32)
	}
	return address
}

func someRange(rnd *rand.Rand) string {
	a, b := 50+rnd.Intn(8), 50+rnd.Intn(8)
	switch rnd.Intn(6) {
	case 0:
		return someNumber(rnd, 65535) + "-" + someNumber(rnd, 65535)
	case 1:
		return someNumber(rnd, 65535)
	case 2:
		return fmt.Sprint(a)
	case 3:
		return fmt.Sprintf("%d-%d", a, b)
	}
	return fmt.Sprintf("%d-%d", min(a, b), max(a, b))
}

func someFlags(rnd *rand.Rand) string {
	mask := rnd.Intn(64)
	if rnd.Intn(12) == 0 {
		return someNumber(rnd, 63) + "/" + someNumber(rnd, 63)
	}
	return fmt.Sprintf("%d/%d", mask, mask&rnd.Intn(64))
}

func someStates(rnd *rand.Rand) string {
	words := []string{"new", "established", "invalid"}
	if rnd.Intn(15) == 0 {
		words = append(words, one(rnd, "new", "", "old", "New"))
	}
	rnd.Shuffle(len(words), func(i, j int) { words[i], words[j] = words[j], words[i] })
	return strings.Join(words[:1+rnd.Intn(len(words))], ",")
}

func someCondition(rnd *rand.Rand, name string) string {
	switch name {
	case "in":
		return someNumber(rnd, []int{2, 255}[rnd.Intn(2)])
	case "from", "to":
		return someNet(rnd)
	case "proto":
		return one(rnd, "tcp", "tcp", "tcp", "udp", "icmp")
	case "sport", "dport":
		return someRange(rnd)
	case "flags":
		return someFlags(rnd)
	}
	return someStates(rnd)
}

// someLine has mostly what its conditions need.
func someLine(rnd *rand.Rand) string {
	left := slices.Clone(toldOrder)
	rnd.Shuffle(len(left), func(i, j int) { left[i], left[j] = left[j], left[i] })
	left = left[:rnd.Intn(5)]
	asks := slices.ContainsFunc(left, func(s string) bool { return s == "sport" || s == "dport" || s == "flags" })
	if asks && !slices.Contains(left, "proto") && rnd.Intn(15) != 0 {
		left = append(left, "proto")
	}
	if len(left) > 0 && rnd.Intn(40) == 0 {
		left = append(left, one(rnd, left...))
	}
	line := one(rnd, "drop", "accept", "reject")
	for _, name := range left {
		line += strings.Repeat(" ", 1+rnd.Intn(6)/5) + name + " " + someCondition(rnd, name)
	}
	return line
}

// someText is mostly one that has no fault.
func someText(rnd *rand.Rand) string {
	lines := []string{"policy " + one(rnd, "drop", "accept", "reject")}
	for range rnd.Intn(6) {
		lines = append(lines, someLine(rnd))
		if rnd.Intn(10) == 0 {
			lines = append(lines, one(rnd, "", "  ", " drop "))
		}
	}
	text := []byte(strings.Join(lines, "\n"))
	for rnd.Intn(8) == 0 {
		text[rnd.Intn(len(text))] = one(rnd, " ", "\n", "0", "/", "-", ",", ".", "\t", "\r", "x", "\x00", "\xff", "p")[0]
	}
	return string(text)
}
