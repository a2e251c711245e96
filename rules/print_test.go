package rules

import (
	"errors"
	"strings"
	"testing"

	"firewall/api"
)

func TestPrint(t *testing.T) {
	for _, c := range []struct{ text, want string }{
		{"policy drop", "policy drop\n"},
		{"policy accept\n\n", "policy accept\n"},
		{"\n   policy    reject  ", "policy reject\n"},
		{"policy drop\n\n accept \n\n drop\nreject", "policy drop\naccept\ndrop\nreject\n"},
		{"policy drop\naccept in 000", "policy drop\naccept in 0\n"},
		{"policy drop\naccept in 0255", "policy drop\naccept in 255\n"},
		{"policy drop\naccept from 000.000.000.000/00", "policy drop\naccept from 0.0.0.0/0\n"},
		{"policy drop\naccept to 010.020.030.040/032", "policy drop\naccept to 10.20.30.40/32\n"},
		{"policy drop\naccept to 255.255.255.254/31", "policy drop\naccept to 255.255.255.254/31\n"},
		{"policy drop\naccept dport 0-0 proto udp sport 65535-65535", "policy drop\naccept proto udp sport 65535 dport 0\n"},
		{"policy drop\naccept dport 007-0008 proto udp", "policy drop\naccept proto udp dport 7-8\n"},
		{"policy drop\naccept dport 7-007 proto udp", "policy drop\naccept proto udp dport 7\n"},
		{"policy drop\naccept dport 0-65535 proto udp", "policy drop\naccept proto udp dport 0-65535\n"},
		{"policy drop\naccept flags 00/0 proto tcp", "policy drop\naccept proto tcp flags 0/0\n"},
		{"policy drop\naccept state invalid,new", "policy drop\naccept state new,invalid\n"},
		{"policy drop\naccept state invalid,established", "policy drop\naccept state established,invalid\n"},
		{"policy drop\naccept state invalid,established,new", "policy drop\naccept state new,established,invalid\n"},
		{
			"policy drop\nreject state new flags 63/1 dport 3 sport 2 proto tcp to 2.0.0.0/8 from 1.0.0.0/8 in 1",
			"policy drop\nreject in 1 from 1.0.0.0/8 to 2.0.0.0/8 proto tcp sport 2 dport 3 flags 63/1 state new\n",
		},
		{
			"policy drop\naccept   dport 22-22 proto tcp from 10.0.0.0/8 state established,new",
			"policy drop\naccept from 10.0.0.0/8 proto tcp dport 22 state new,established\n",
		},
	} {
		if got, err := Print(c.text); got != c.want || err != nil {
			t.Errorf("P9: Print(%q) = %q, %v, want %q", c.text, got, err, c.want)
		}
		if got, err := Print(c.want); got != c.want || err != nil {
			t.Errorf("P9: Print of what is printed, %q: %q, %v", c.want, got, err)
		}
	}
}

// TestPrintMayOutgrowAText: each line ends with a line break, the last one of a text that has no room for it too.
func TestPrintMayOutgrowAText(t *testing.T) {
	lines := strings.Repeat("drop in 1 from 100.100.100.100/32 state new\n", 39) + strings.Repeat("drop from 100.100.100.100/32 state new\n", 7)
	want := "policy drop\n" + lines
	text := strings.TrimSuffix(want, "\n")
	if len(text) != api.MaxText {
		t.Fatalf("the text has %d bytes", len(text))
	}
	if got, err := Print(text); got != want || err != nil {
		t.Errorf("P9: Print of a text of MaxText bytes: %q, %v", got, err)
	}
	if got, err := Print(want); got != "" || !errors.Is(err, api.ErrLong) {
		t.Errorf("P8: Print of a text of one byte more than MaxText: %q, %v", got, err)
	}
}
