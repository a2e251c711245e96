package rules

import (
	"errors"
	"math/rand"
	"strings"
	"testing"

	"firewall/api"
)

type faultCase struct {
	text string
	kind api.Kind
	line int
}

// runFaults asks Print and Compile, for the faults are the same.
func runFaults(t *testing.T, cases []faultCase) {
	t.Helper()
	for _, c := range cases {
		printed, printErr := Print(c.text)
		code, codeErr := Compile(c.text)
		if (printed == "") != (c.kind != 0) || (code == nil) != (c.kind != 0) {
			t.Errorf("P1: %q: Print gives %q, Compile %x, want the kind %d", c.text, printed, code, c.kind)
		}
		for _, err := range []error{printErr, codeErr} {
			if c.kind == 0 {
				if err != nil {
					t.Errorf("P8: %q: %v, want nil", c.text, err)
				}
				continue
			}
			var e *api.RuleError
			if !errors.As(err, &e) || *e != (api.RuleError{Line: c.line, Kind: c.kind}) || !errors.Is(err, c.kind) {
				t.Errorf("P8: %q: %v, want %d in line %d", c.text, err, c.kind, c.line)
			}
		}
		if _, _, kind, line := told(c.text); kind != c.kind || line != c.line {
			t.Errorf("%q: the test's own reading tells %d in line %d, want %d in line %d", c.text, kind, line, c.kind, c.line)
		}
	}
}

// behind puts a rule into line 2.
func behind(rule string, kind api.Kind) faultCase {
	if kind == 0 {
		return faultCase{"policy drop\n" + rule, 0, 0}
	}
	return faultCase{"policy drop\n" + rule, kind, 2}
}

func TestLines(t *testing.T) {
	const p = "policy drop\n"
	runFaults(t, []faultCase{
		{"policy drop", 0, 0},
		{"policy accept\n", 0, 0},
		{"policy reject\n\n\n", 0, 0},
		{"\n\n   \n  policy   drop  \n  \n accept  ", 0, 0},
		{"", api.ErrSyntax, 0},
		{" ", api.ErrSyntax, 0},
		{"\n", api.ErrSyntax, 0},
		{" \n  \n\n ", api.ErrSyntax, 0},
		{"policy", api.ErrSyntax, 1},
		{"\n\npolicy", api.ErrSyntax, 3},
		{"policy drop accept", api.ErrSyntax, 1},
		{"policy policy", api.ErrSyntax, 1},
		{"policy Drop", api.ErrSyntax, 1},
		{"POLICY drop", api.ErrSyntax, 1},
		{"policy drop,", api.ErrSyntax, 1},
		{"policy new", api.ErrSyntax, 1},
		{"polic drop", api.ErrSyntax, 1},
		{"drop policy", api.ErrSyntax, 1},
		{"drop drop", api.ErrSyntax, 1},
		{"accept\npolicy drop", api.ErrSyntax, 1},
		{"policydrop", api.ErrSyntax, 1},
		{"policy\ndrop", api.ErrSyntax, 1},
		{"policy\tdrop", api.ErrSyntax, 1},
		{"policy drop\t", api.ErrSyntax, 1},
		{"policy drop\r\naccept", api.ErrSyntax, 1},
		{"\t\npolicy drop", api.ErrSyntax, 1},
		{"policy drop\x00", api.ErrSyntax, 1},
		{"\xffpolicy drop", api.ErrSyntax, 1},
		{"policy\u00a0drop", api.ErrSyntax, 1},
		{p + "policy drop", api.ErrSyntax, 2},
		{p + "\n\npolicy", api.ErrSyntax, 4},
		{p + "Accept", api.ErrSyntax, 2},
		{p + "acceptin 1", api.ErrSyntax, 2},
		{p + "in 1", api.ErrSyntax, 2},
		{p + "\v", api.ErrSyntax, 2},
		{p + "accept\u2003in 1", api.ErrSyntax, 2},
		{p + "accept\u2028in 1", api.ErrSyntax, 2},
		{p + "accept\ndrop\nfoo\naccept in 256", api.ErrSyntax, 4},
		{p + "accept\ndrop in 256\nfoo", api.ErrRange, 3},
	})
}

func TestSizes(t *testing.T) {
	many := func(n int) string { return "policy drop\n" + strings.Repeat("drop\n", n) }
	runFaults(t, []faultCase{
		{"policy drop" + strings.Repeat(" ", 1989), 0, 0},
		{"policy drop" + strings.Repeat(" ", 1990), api.ErrLong, 0},
		{"policy drop" + strings.Repeat("\n", 1990), api.ErrLong, 0},
		{strings.Repeat("\n", 2000), api.ErrSyntax, 0},
		{strings.Repeat("\n", 2001), api.ErrLong, 0},
		{strings.Repeat("\n", 1989) + "policy dro?", api.ErrSyntax, 1990},
		{strings.Repeat("\xff", 2000), api.ErrSyntax, 1},
		{strings.Repeat("é", 1001), api.ErrLong, 0},
		{strings.Repeat("x", 1<<20), api.ErrLong, 0},
		{many(api.MaxRules), 0, 0},
		{many(api.MaxRules) + "\n  \n", 0, 0},
		{many(api.MaxRules + 1), api.ErrMany, 50},
		{many(api.MaxRules) + "\n\naccept in 256", api.ErrMany, 52},
		{many(api.MaxRules) + "accept in", api.ErrMany, 50},
		{many(api.MaxRules) + "in 1", api.ErrSyntax, 50},
		{many(api.MaxRules) + "policy drop", api.ErrSyntax, 50},
		{many(api.MaxRules-1) + "drop in 256\ndrop", api.ErrRange, 49},
		{many(api.MaxRules-1) + "drop in 1\ndrop", api.ErrMany, 50},
	})
}

func TestConditionsOneByOne(t *testing.T) {
	runFaults(t, []faultCase{
		behind("accept in", api.ErrSyntax),
		behind("accept in 1 from", api.ErrSyntax),
		behind("accept drop", api.ErrSyntax),
		behind("accept drop 1", api.ErrSyntax),
		behind("accept policy drop", api.ErrSyntax),
		behind("accept 1", api.ErrSyntax),
		behind("accept In 1", api.ErrSyntax),
		behind("accept in\t1", api.ErrSyntax),
		behind("accept in=1", api.ErrSyntax),
		behind("accept in 1 2", api.ErrSyntax),
		behind("accept in 1 in 1", api.ErrTwice),
		behind("accept in 1 in 2", api.ErrTwice),
		behind("accept in 1 in x", api.ErrTwice),
		behind("accept in 1 in 256", api.ErrTwice),
		behind("accept in 1 in", api.ErrSyntax),
		behind("accept in 1 state new in 1", api.ErrTwice),
		behind("accept in 256 in 1", api.ErrRange),
		behind("accept in x in 1", api.ErrSyntax),
		behind("accept in 256 foo", api.ErrRange),
		behind("accept foo in 256", api.ErrSyntax),
		behind("accept in 256 in", api.ErrRange),
		behind("accept in in", api.ErrSyntax),
		behind("accept from to", api.ErrSyntax),
		behind("accept from 0.0.0.0/0 to 0.0.0.0/0", 0),
		behind("accept sport 1 dport 1 proto tcp", 0),
		behind("accept from 0.0.0.0/0 from 0.0.0.0/0", api.ErrTwice),
		behind("accept to 0.0.0.0/0 to 0.0.0.0/0", api.ErrTwice),
		behind("accept proto tcp proto udp", api.ErrTwice),
		behind("accept proto tcp sport 1 sport 1", api.ErrTwice),
		behind("accept proto tcp dport 1 dport 1", api.ErrTwice),
		behind("accept dport 1 dport 1", api.ErrTwice),
		behind("accept flags 0/0 flags 0/0", api.ErrTwice),
		behind("accept state new state invalid", api.ErrTwice),
		behind("accept state invalid flags 63/1 dport 0-9 sport 5 proto tcp to 1.2.3.4/32 from 0.0.0.0/0 in 0", 0),
	})
}

func TestNumbers(t *testing.T) {
	runFaults(t, []faultCase{
		behind("accept in 0", 0),
		behind("accept in 255", 0),
		behind("accept in 256", api.ErrRange),
		behind("accept in 000", 0),
		behind("accept in 0000000000000000000000000000255", 0),
		behind("accept in 0000000000000000000000000000256", api.ErrRange),
		behind("accept in 257", api.ErrRange),
		behind("accept in 65536", api.ErrRange),
		behind("accept in 4294967296", api.ErrRange),
		behind("accept in 4294967297", api.ErrRange),
		behind("accept in 18446744073709551616", api.ErrRange),
		behind("accept in 18446744073709551617", api.ErrRange),
		behind("accept in "+strings.Repeat("9", 1900), api.ErrRange),
		behind("accept in "+strings.Repeat("9", 1900)+"x", api.ErrSyntax),
		behind("accept in "+strings.Repeat("0", 1900)+"7", 0),
		behind("accept in -0", api.ErrSyntax),
		behind("accept in +0", api.ErrSyntax),
		behind("accept in 1.0", api.ErrSyntax),
		behind("accept in 0x1", api.ErrSyntax),
		behind("accept in 1_0", api.ErrSyntax),
		behind("accept in 1e1", api.ErrSyntax),
		behind("accept in a", api.ErrSyntax),
		behind("accept in 300x", api.ErrSyntax),
		behind("accept in x300", api.ErrSyntax),
		behind("accept in 1/", api.ErrSyntax),
		behind("accept in 1:", api.ErrSyntax),
		behind("accept in ٣", api.ErrSyntax),
		behind("accept in 1\x00", api.ErrSyntax),
	})
}

func TestNets(t *testing.T) {
	for _, name := range []string{"from ", "to "} {
		rule := "accept " + name
		runFaults(t, []faultCase{
			behind(rule+"0.0.0.0/0", 0),
			behind(rule+"255.255.255.255/32", 0),
			behind(rule+"010.0.0.0/08", 0),
			behind(rule+"10.0.0.0/7", 0),
			behind(rule+"11.0.0.0/7", api.ErrRange),
			behind(rule+"128.0.0.0/1", 0),
			behind(rule+"128.0.0.0/0", api.ErrRange),
			behind(rule+"64.0.0.0/1", api.ErrRange),
			behind(rule+"0.0.0.1/31", api.ErrRange),
			behind(rule+"0.0.0.1/32", 0),
			behind(rule+"0.0.0.1/0", api.ErrRange),
			behind(rule+"10.0.0.1/8", api.ErrRange),
			behind(rule+"0.0.0.0/33", api.ErrRange),
			behind(rule+"0.0.0.0/032", 0),
			behind(rule+"0.0.0.0/64", api.ErrRange),
			behind(rule+"0.0.0.0/4294967296", api.ErrRange),
			behind(rule+"256.0.0.0/32", api.ErrRange),
			behind(rule+"0.256.0.0/32", api.ErrRange),
			behind(rule+"0.0.256.0/32", api.ErrRange),
			behind(rule+"0.0.0.256/32", api.ErrRange),
			behind(rule+"0.0.0.65536/32", api.ErrRange),
			behind(rule+"256.0.0.0/8", api.ErrRange),
			behind(rule+"0.0.0.0", api.ErrSyntax),
			behind(rule+"0.0.0.0/", api.ErrSyntax),
			behind(rule+"/0", api.ErrSyntax),
			behind(rule+"/", api.ErrSyntax),
			behind(rule+"0/0", api.ErrSyntax),
			behind(rule+"0.0.0/0", api.ErrSyntax),
			behind(rule+"0.0.0.0.0/0", api.ErrSyntax),
			behind(rule+"0.0.0.0./0", api.ErrSyntax),
			behind(rule+".0.0.0/0", api.ErrSyntax),
			behind(rule+"0..0.0/0", api.ErrSyntax),
			behind(rule+"0.0.0.0/0/0", api.ErrSyntax),
			behind(rule+"0.0.0.0//0", api.ErrSyntax),
			behind(rule+"0.0.0.0/0.0", api.ErrSyntax),
			behind(rule+"0,0,0,0/0", api.ErrSyntax),
			behind(rule+"a.0.0.0/0", api.ErrSyntax),
			behind(rule+"0.0.0.0/-1", api.ErrSyntax),
			behind(rule+"0.0.0.-1/0", api.ErrSyntax),
			behind(rule+"256.0.0.0/x", api.ErrSyntax),
			behind(rule+"256.0.0.x/0", api.ErrSyntax),
			behind(rule+"256.0.0/0", api.ErrSyntax),
			behind(rule+"0.0.0.0 /0", api.ErrSyntax),
			behind(rule+"::/0", api.ErrSyntax),
		})
	}
}

func TestPorts(t *testing.T) {
	for _, name := range []string{"sport ", "dport "} {
		for _, proto := range []string{"accept proto tcp ", "accept proto udp "} {
			rule := proto + name
			runFaults(t, []faultCase{
				behind(rule+"0", 0),
				behind(rule+"65535", 0),
				behind(rule+"65536", api.ErrRange),
				behind(rule+"00065535", 0),
				behind(rule+"0-0", 0),
				behind(rule+"0-65535", 0),
				behind(rule+"0-65536", api.ErrRange),
				behind(rule+"65536-0", api.ErrRange),
				behind(rule+"65536-65536", api.ErrRange),
				behind(rule+"65537-65536", api.ErrRange),
				behind(rule+"65536-65537", api.ErrRange),
				behind(rule+"5-4", api.ErrRange),
				behind(rule+"05-4", api.ErrRange),
				behind(rule+"4-05", 0),
				behind(rule+"9-10", 0),
				behind(rule+"10000080", api.ErrRange),
				behind(rule+"4294967296", api.ErrRange),
				behind(rule+"-", api.ErrSyntax),
				behind(rule+"1-", api.ErrSyntax),
				behind(rule+"-1", api.ErrSyntax),
				behind(rule+"1--2", api.ErrSyntax),
				behind(rule+"1-2-3", api.ErrSyntax),
				behind(rule+"1,2", api.ErrSyntax),
				behind(rule+"1:2", api.ErrSyntax),
				behind(rule+"x", api.ErrSyntax),
				behind(rule+"x-1", api.ErrSyntax),
				behind(rule+"70000-x", api.ErrSyntax),
				behind(rule+"5-4x", api.ErrSyntax),
				behind(rule+"1 -2", api.ErrSyntax),
			})
		}
	}
}

func TestProtosFlagsStates(t *testing.T) {
	tcp := "accept proto tcp flags "
	runFaults(t, []faultCase{
		behind("accept proto tcp", 0),
		behind("accept proto udp", 0),
		behind("accept proto icmp", 0),
		behind("accept proto TCP", api.ErrSyntax),
		behind("accept proto 6", api.ErrSyntax),
		behind("accept proto tcp,udp", api.ErrSyntax),
		behind("accept proto igmp", api.ErrSyntax),
		behind("accept proto tc", api.ErrSyntax),
		behind(tcp+"0/0", 0),
		behind(tcp+"63/63", 0),
		behind(tcp+"063/001", 0),
		behind(tcp+"64/0", api.ErrRange),
		behind(tcp+"64/64", api.ErrRange),
		behind(tcp+"63/64", api.ErrRange),
		behind(tcp+"127/1", api.ErrRange),
		behind(tcp+"256/0", api.ErrRange),
		behind(tcp+"63/256", api.ErrRange),
		behind(tcp+"63/65536", api.ErrRange),
		behind(tcp+"0/1", api.ErrRange),
		behind(tcp+"2/3", api.ErrRange),
		behind(tcp+"3/2", 0),
		behind(tcp+"4294967296/0", api.ErrRange),
		behind(tcp+"1", api.ErrSyntax),
		behind(tcp+"1/", api.ErrSyntax),
		behind(tcp+"/1", api.ErrSyntax),
		behind(tcp+"1/1/1", api.ErrSyntax),
		behind(tcp+"64/x", api.ErrSyntax),
		behind(tcp+"x/64", api.ErrSyntax),
		behind(tcp+"syn/ack", api.ErrSyntax),
		behind("accept state new", 0),
		behind("accept state established", 0),
		behind("accept state invalid", 0),
		behind("accept state invalid,established,new", 0),
		behind("accept state new,new", api.ErrRange),
		behind("accept state new,invalid,new", api.ErrRange),
		behind("accept state invalid,invalid", api.ErrRange),
		behind("accept state established,established", api.ErrRange),
		behind("accept state new,new,old", api.ErrSyntax),
		behind("accept state old,new,new", api.ErrSyntax),
		behind("accept state new,", api.ErrSyntax),
		behind("accept state ,new", api.ErrSyntax),
		behind("accept state ,", api.ErrSyntax),
		behind("accept state new,,invalid", api.ErrSyntax),
		behind("accept state new, invalid", api.ErrSyntax),
		behind("accept state New", api.ErrSyntax),
		behind("accept state 0", api.ErrSyntax),
		behind("accept state new;invalid", api.ErrSyntax),
	})
}

func TestMissing(t *testing.T) {
	var cases []faultCase
	for _, proto := range []string{"", "proto tcp ", "proto udp ", "proto icmp "} {
		ports, flags := api.ErrMissing, api.ErrMissing
		if proto == "proto tcp " || proto == "proto udp " {
			ports = 0
		}
		if proto == "proto tcp " {
			flags = 0
		}
		for _, c := range []struct {
			rest string
			kind api.Kind
		}{
			{"sport 5 ", ports}, {"dport 5 ", ports}, {"sport 5 dport 0-65535 ", ports}, {"flags 0/0 ", flags}, {"flags 2/2 dport 1 ", flags}, {"state new in 1 ", 0}, {"from 0.0.0.0/0 to 0.0.0.0/0 ", 0},
		} {
			cases = append(cases, behind("accept "+proto+c.rest, c.kind), behind("accept "+c.rest+proto, c.kind))
		}
	}
	runFaults(t, cases)
	runFaults(t, []faultCase{
		behind("accept sport 5 in 256", api.ErrRange),
		behind("accept sport 5 foo", api.ErrSyntax),
		behind("accept sport 5 sport 5", api.ErrTwice),
		behind("accept sport 5 proto foo", api.ErrSyntax),
		behind("accept sport 5\nfoo", api.ErrMissing),
		behind("accept sport 5\naccept proto tcp", api.ErrMissing),
		{"policy drop\naccept proto tcp\naccept sport 5", api.ErrMissing, 3},
	})
}

func TestTextsAgainstTheDocumentsWords(t *testing.T) {
	rnd := rand.New(rand.NewSource(3))
	seen := map[api.Kind]int{}
	for range 60000 {
		text := someText(rnd)
		policy, list, kind, line := told(text)
		seen[kind]++
		want := ""
		if kind == 0 {
			want = toldPrint(policy, list)
		}
		got, err := Print(text)
		gotKind, gotLine := api.Told(err)
		if got != want || gotKind != kind || gotLine != line {
			t.Fatalf("P8, P9: Print(%q) = %q, %v, want %q, %d in line %d", text, got, err, want, kind, line)
		}
		_, err = Compile(text)
		if gotKind, gotLine := api.Told(err); gotKind != kind || gotLine != line {
			t.Fatalf("P8: Compile(%q): %v, want %d in line %d", text, err, kind, line)
		}
	}
	for _, kind := range []api.Kind{0, api.ErrSyntax, api.ErrRange, api.ErrTwice, api.ErrMissing} {
		if seen[kind] < 1000 {
			t.Errorf("only %d texts were of kind %d", seen[kind], kind)
		}
	}
}
