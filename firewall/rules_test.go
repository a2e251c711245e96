package firewall_test

import (
	"bytes"
	"errors"
	"strings"
	"testing"

	"firewall/api"
	"firewall/firewall"
	"firewall/plain"
)

func TestTheExamplesOfRules(t *testing.T) {
	text := "policy drop\naccept dport 22-22 proto tcp from 10.0.0.0/8 state established,new"
	want := "policy drop\naccept from 10.0.0.0/8 proto tcp dport 22 state new,established\n"
	if got, err := firewall.Print(text); got != want || err != nil {
		t.Errorf("P9: Print(%q) = %q, %v, want %q", text, got, err, want)
	}
	if got, kind, line := plain.Print(text); got != want || kind != 0 || line != 0 {
		t.Errorf("P9: plain.Print(%q) = %q, %d, %d, want %q", text, got, kind, line, want)
	}
	for rule, kind := range map[string]api.Kind{
		"accept in 256":               api.ErrRange,
		"accept from 10.0.0.1/8":      api.ErrRange,
		"accept in 1 in 2":            api.ErrTwice,
		"accept sport 5":              api.ErrMissing,
		"accept in":                   api.ErrSyntax,
		"accept flags 2/3 proto tcp":  api.ErrRange,
		"policy drop":                 api.ErrSyntax,
		strings.Repeat("drop\n", 400): api.ErrLong,
	} {
		text := "policy drop\n\n" + rule
		line := 3
		if kind == api.ErrLong {
			line = 0
		}
		printed, printErr := firewall.Print(text)
		code, codeErr := firewall.Compile(text)
		if printed != "" || code != nil {
			t.Errorf("P1: beside the error of %q: %q, %x", rule, printed, code)
		}
		for _, err := range []error{printErr, codeErr} {
			var e *api.RuleError
			if !errors.As(err, &e) || *e != (api.RuleError{Line: line, Kind: kind}) || !errors.Is(err, kind) {
				t.Errorf("P8: %q: %v, want %d in line %d", rule, err, kind, line)
			}
		}
		if got, k, l := plain.Print(text); got != "" || k != kind || l != line {
			t.Errorf("P8: plain.Print: %q: %q, %d in line %d", rule, got, k, l)
		}
		if got, k, l := plain.Compile(text); got != nil || k != kind || l != line {
			t.Errorf("P8: plain.Compile: %q: %x, %d in line %d", rule, got, k, l)
		}
	}
}

func TestRulesJudgeFrames(t *testing.T) {
	code, err := firewall.Compile("policy drop\naccept proto tcp dport 80\nreject in 3\naccept state established")
	if err != nil || firewall.Check(code) != nil || len(code) > 8*api.MaxCode {
		t.Fatalf("P10: Compile: %x, %v, Check %v", code, err, firewall.Check(code))
	}
	for _, c := range []struct {
		h     api.Header
		iface uint32
		state api.State
		want  api.Verdict
	}{
		{api.Header{Proto: api.TCP, Dport: 80}, 0, api.New, api.Accept},
		{api.Header{Proto: api.TCP, Dport: 80}, 3, api.Invalid, api.Accept},
		{api.Header{Proto: api.TCP, Dport: 81}, 0, api.New, api.Drop},
		{api.Header{Proto: api.TCP, Sport: 80}, 3, api.New, api.Reject},
		{api.Header{Proto: api.TCP, Sport: 80}, 2, api.Established, api.Accept},
		{api.Header{Proto: api.UDP, Dport: 80}, 0, api.New, api.Drop},
		{api.Header{Proto: api.UDP, Dport: 80}, 0, api.Established, api.Accept},
		{api.Header{Proto: api.ICMP, Flags: 8, Sport: 80, Dport: 80}, 0, api.Invalid, api.Drop},
		{api.Header{Proto: 89}, 3, api.Established, api.Reject},
	} {
		v, _, err := firewall.Exec(code, build(t, c.h, nil), [api.Metas]uint32{c.iface, uint32(c.state)})
		if v != c.want || err != nil {
			t.Errorf("P10: %+v, interface %d, state %d: %d, %v, want %d", c.h, c.iface, c.state, v, err, c.want)
		}
	}
}

func TestCodesAreFresh(t *testing.T) {
	for _, text := range []string{"policy drop", "policy accept\ndrop in 1\nreject proto tcp dport 80 flags 2/2"} {
		first, err := firewall.Compile(text)
		if err != nil {
			t.Fatalf("P10: Compile(%q): %v", text, err)
		}
		was := bytes.Clone(first)
		room := first[:cap(first)]
		for i := range room {
			room[i] = 0xee
		}
		if again, err := firewall.Compile(text); !bytes.Equal(again, was) || err != nil {
			t.Errorf("P2: Compile(%q) = %x, %v behind what the caller wrote, want %x", text, again, err, was)
		}
	}
}

func TestNoTextHangsOnTextsAhead(t *testing.T) {
	texts := []string{
		"policy drop\naccept in 1", "policy accept\nreject proto udp sport 1-2\ndrop", "policy reject", "", "policy drop\naccept sport 1",
		"policy drop\naccept in 1 in 1", "policy drop\n" + strings.Repeat("drop\n", 48), "policy drop\n" + strings.Repeat("drop\n", 49),
	}
	type answer struct {
		printed, code string
		kind          api.Kind
		line          int
	}
	ask := func(text string) answer {
		printed, err := firewall.Print(text)
		kind, line := api.Told(err)
		code, _ := firewall.Compile(text)
		return answer{printed, string(code), kind, line}
	}
	for _, text := range texts {
		want := ask(text)
		for _, other := range texts {
			ask(other)
			if got := ask(text); got != want {
				t.Errorf("P2: %q behind %q: %v, want %v", text, other, got, want)
			}
		}
	}
	_, first := firewall.Print("foo")
	_, second := firewall.Print("foo")
	var e *api.RuleError
	if errors.As(first, &e) {
		e.Line, e.Kind = 99, api.ErrArg
	}
	if kind, line := api.Told(second); kind != api.ErrSyntax || line != 1 {
		t.Errorf("P2: what the caller writes into an error stands in another: %d in line %d", kind, line)
	}
}
