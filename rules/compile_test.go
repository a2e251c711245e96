package rules

import (
	"fmt"
	"math/rand"
	"strings"
	"testing"

	"firewall/api"
	"firewall/frame"
	"firewall/machine"
)

func compile(t *testing.T, text string) []byte {
	t.Helper()
	code, err := Compile(text)
	if err != nil {
		t.Fatalf("P10: Compile(%q): %v", text, err)
	}
	if err := machine.Check(code); err != nil {
		t.Fatalf("P10: Check of what Compile(%q) gave: %v", text, err)
	}
	return code
}

func build(t *testing.T, h api.Header) []byte {
	t.Helper()
	data, err := frame.Build(h, nil)
	if err != nil {
		t.Fatalf("P4: Build(%+v): %v", h, err)
	}
	return data
}

// judge runs a code over a frame that must be Fine.
func judge(t *testing.T, code, data []byte, iface uint8, state api.State) api.Verdict {
	t.Helper()
	if _, class := frame.Parse(data); class != api.Fine {
		t.Fatalf("P3: the test's frame %x is of class %d", data, class)
	}
	v, _, err := machine.Exec(code, data, [api.Metas]uint32{uint32(iface), uint32(state)})
	if err != nil {
		t.Fatalf("P10: Exec(%x, %x, %d, %d): %v", code, data, iface, state, err)
	}
	return v
}

// holds tells whether a rule with these conditions holds of a frame.
func holds(t *testing.T, conditions string, data []byte, iface uint8, state api.State) bool {
	t.Helper()
	v := judge(t, compile(t, "policy drop\naccept "+conditions), data, iface, state)
	other := judge(t, compile(t, "policy accept\nreject "+conditions), data, iface, state)
	if (v == api.Accept) != (other == api.Reject) || (v == api.Drop) != (other == api.Accept) {
		t.Errorf("P10: %q: %d, and with other verdicts %d", conditions, v, other)
	}
	return v == api.Accept
}

func TestPolicyAndFirstRule(t *testing.T) {
	data := build(t, api.Header{Proto: api.UDP})
	for _, c := range []struct {
		text string
		want api.Verdict
	}{
		{"policy drop", api.Drop},
		{"policy accept", api.Accept},
		{"policy reject", api.Reject},
		{"policy drop\nreject", api.Reject},
		{"policy drop\naccept", api.Accept},
		{"policy accept\ndrop", api.Drop},
		{"policy drop\naccept\nreject", api.Accept},
		{"policy drop\nreject\naccept", api.Reject},
		{"policy drop\nreject proto tcp\naccept", api.Accept},
		{"policy drop\nreject proto tcp\naccept proto icmp", api.Drop},
		{"policy drop\nreject proto udp\naccept", api.Reject},
		{"policy reject\naccept in 1 proto udp\naccept in 0 proto tcp\naccept state invalid", api.Reject},
	} {
		if got := judge(t, compile(t, c.text), data, 0, api.New); got != c.want {
			t.Errorf("P10: %q: %d, want %d", c.text, got, c.want)
		}
	}
}

func TestIn(t *testing.T) {
	data := build(t, api.Header{Proto: 89})
	for _, number := range []int{0, 1, 3, 128, 254, 255} {
		conditions := fmt.Sprint("in ", number)
		for iface := range 256 {
			if got := holds(t, conditions, data, uint8(iface), api.New); got != (iface == number) {
				t.Errorf("P10: %q of interface %d: %t", conditions, iface, got)
			}
		}
	}
}

// TestNetBits goes along all lengths: a bit within must be as told, one behind may be anything.
func TestNetBits(t *testing.T) {
	for _, address := range []uint32{0, 0xffffffff, 0xc0a80a01} {
		for bits := range 33 {
			masked := uint32(uint64(address) >> (32 - bits) << (32 - bits))
			net := fmt.Sprintf("%d.%d.%d.%d/%d", masked>>24, masked>>16&255, masked>>8&255, masked&255, bits)
			from, to := compile(t, "policy drop\naccept from "+net), compile(t, "policy drop\naccept to "+net)
			for flip := range 33 {
				other := address
				want := api.Accept
				if flip < 32 {
					other ^= 1 << (31 - flip)
				}
				if flip < bits {
					want = api.Drop
				}
				far := other ^ 0xffffffff
				if bits == 0 {
					far = other
				}
				sent := build(t, api.Header{Src: other, Dst: far})
				back := build(t, api.Header{Src: far, Dst: other})
				if got := judge(t, from, sent, 0, api.New); got != want {
					t.Errorf("P10: from %s of %x: %d, want %d", net, other, got, want)
				}
				if got := judge(t, to, back, 0, api.New); got != want {
					t.Errorf("P10: to %s of %x: %d, want %d", net, other, got, want)
				}
			}
		}
	}
}

func TestFromIsNotTo(t *testing.T) {
	data := build(t, api.Header{Src: 0x0a000001, Dst: 0x0b000001, Proto: api.UDP, Sport: 10, Dport: 11})
	for conditions, want := range map[string]bool{
		"from 10.0.0.0/8": true, "to 10.0.0.0/8": false, "from 11.0.0.0/8": false, "to 11.0.0.0/8": true,
		"from 10.0.0.0/8 to 11.0.0.0/8": true, "from 10.0.0.0/8 to 10.0.0.0/8": false, "from 11.0.0.0/8 to 11.0.0.0/8": false,
		"proto udp sport 10": true, "proto udp sport 11": false, "proto udp dport 10": false, "proto udp dport 11": true,
		"proto udp sport 10 dport 11": true, "proto udp sport 11 dport 11": false, "proto udp sport 10 dport 10": false,
	} {
		if got := holds(t, conditions, data, 0, api.New); got != want {
			t.Errorf("P10: %q: %t", conditions, got)
		}
	}
}

func TestProto(t *testing.T) {
	words := map[string]int{"tcp": 6, "udp": 17, "icmp": 1}
	for word, number := range words {
		for proto := range 256 {
			data := build(t, api.Header{Proto: uint8(proto)})
			if got := holds(t, "proto "+word, data, 0, api.New); got != (proto == number) {
				t.Errorf("P10: proto %s of %d: %t", word, proto, got)
			}
		}
	}
}

func TestPortRanges(t *testing.T) {
	ranges := [][2]int{{0, 0}, {0, 1}, {0, 65535}, {1, 65535}, {1, 65534}, {65535, 65535}, {65534, 65535}, {80, 80}, {255, 256}, {256, 511}, {32767, 32768}}
	ports := []int{0, 1, 2, 79, 80, 81, 254, 255, 256, 257, 511, 512, 32766, 32767, 32768, 32769, 65533, 65534, 65535}
	for _, r := range ranges {
		for _, proto := range []string{"tcp", "udp"} {
			number := map[string]uint8{"tcp": api.TCP, "udp": api.UDP}[proto]
			for _, port := range ports {
				want := port >= r[0] && port <= r[1]
				sent := build(t, api.Header{Proto: number, Sport: uint16(port), Dport: 7777})
				back := build(t, api.Header{Proto: number, Sport: 7777, Dport: uint16(port)})
				if got := holds(t, fmt.Sprintf("proto %s sport %d-%d", proto, r[0], r[1]), sent, 0, api.New); got != want {
					t.Errorf("P10: sport %d-%d of %d: %t", r[0], r[1], port, got)
				}
				if got := holds(t, fmt.Sprintf("proto %s dport %d-%d", proto, r[0], r[1]), back, 0, api.New); got != want {
					t.Errorf("P10: dport %d-%d of %d: %t", r[0], r[1], port, got)
				}
			}
		}
	}
}

func TestFlags(t *testing.T) {
	for mask := range 64 {
		for _, set := range []int{0, mask, mask & 21, mask & 2, mask & 33} {
			code := compile(t, fmt.Sprintf("policy drop\naccept proto tcp flags %d/%d", mask, set))
			for flags := range 256 {
				data := build(t, api.Header{Proto: api.TCP})
				data[47] = byte(flags)
				want := api.Drop
				if flags%64&mask == set {
					want = api.Accept
				}
				if got := judge(t, code, data, 0, api.New); got != want {
					t.Fatalf("P10: flags %d/%d of %d: %d, want %d", mask, set, flags, got, want)
				}
			}
		}
	}
}

func TestStates(t *testing.T) {
	data := build(t, api.Header{Proto: 89})
	words := []string{"new", "established", "invalid"}
	for among := 1; among < 8; among++ {
		var list []string
		for state, word := range words {
			if among>>state&1 == 1 {
				list = append(list, word)
			}
		}
		for state := range words {
			if got := holds(t, "state "+strings.Join(list, ","), data, 0, api.State(state)); got != (among>>state&1 == 1) {
				t.Errorf("P10: state %v of %s: %t", list, words[state], got)
			}
		}
	}
}

// TestWhatIsNoState: the document promises nothing of such a number, but it is surely none of those that a rule names.
func TestWhatIsNoState(t *testing.T) {
	data := build(t, api.Header{Proto: 89})
	for _, states := range []string{"new", "established", "invalid", "new,invalid", "new,established,invalid"} {
		code := compile(t, "policy drop\naccept state "+states)
		for _, number := range []uint32{3, 4, 255, 1 << 31, 1<<32 - 1} {
			if v, _, err := machine.Exec(code, data, [api.Metas]uint32{0, number}); v != api.Drop || err != nil {
				t.Errorf("P10: state %s of the number %d: %d, %v", states, number, v, err)
			}
		}
	}
}

// TestSmallestFrames: a Fine frame may end where the head ends, and then no code may look behind it.
func TestSmallestFrames(t *testing.T) {
	texts := []string{
		"policy drop\naccept proto tcp sport 0-65535 dport 0-65535 flags 0/0",
		"policy drop\naccept proto udp sport 0-65535 dport 0-65535",
		"policy drop\nreject proto tcp flags 1/1\nreject proto udp dport 1\naccept",
		"policy drop\nreject proto udp dport 1\nreject proto udp sport 1\naccept proto tcp flags 63/0",
	}
	want := map[uint8]string{0: "ddad", api.TCP: "adaa", api.UDP: "daad", api.ICMP: "ddad", 255: "ddad"}
	for proto, verdicts := range want {
		data := build(t, api.Header{Proto: proto})
		data = data[:len(data):len(data)]
		for i, text := range texts {
			if got := "dar"[judge(t, compile(t, text), data, 0, api.New)]; got != verdicts[i] {
				t.Errorf("P10: %q of protocol %d: %c, want %c", text, proto, got, verdicts[i])
			}
		}
	}
}

func TestPaddingAndOptionsSayNothing(t *testing.T) {
	data := build(t, api.Header{Proto: 89, Src: 1})
	padded := append(data, 0, 80, 0, 80, 0, 8, 0, 0, 0, 0, 0, 0, 0x50, 2, 0, 0, 0, 0, 0, 0, 0, 0)
	if holds(t, "proto tcp dport 80 flags 2/2", padded, 0, api.New) || holds(t, "proto udp dport 80", padded, 0, api.New) {
		t.Error("P10: padding behind a frame of another protocol was taken for its ports")
	}
	tcp, err := frame.Build(api.Header{Proto: api.TCP, Sport: 1, Dport: 2, Flags: 3}, make([]byte, 40))
	if err != nil {
		t.Fatal(err)
	}
	tcp[46] = 0xf0
	if !holds(t, "proto tcp sport 1 dport 2 flags 63/3", append(tcp, 9, 9, 9), 0, api.New) {
		t.Error("P10: a frame with options and padding was not known by its ports and flags")
	}
}

// TestGreatCodes has texts that are as full as MaxText and MaxRules let them be.
func TestGreatCodes(t *testing.T) {
	full := "accept in 1 from 1.0.0.0/8 to 2.0.0.0/8 proto tcp sport 1-2 dport 3-4 flags 3/1 state new\n"
	for _, line := range []string{
		full,
		"drop proto tcp sport 1 dport 1 flags 1/1\n",
		"drop from 0.0.0.0/0 to 0.0.0.0/0 in 1\n",
		"drop proto udp sport 1 dport 1 state new\n",
		"drop proto tcp flags 1/1 state new\n",
		"drop\n",
	} {
		text := "policy accept\n"
		for n := 0; n < api.MaxRules && len(text)+len(line) <= api.MaxText; n++ {
			text += line
		}
		code := compile(t, text)
		if len(code)/8 > api.MaxCode {
			t.Errorf("P10: %q, again and again: %d instructions", line, len(code)/8)
		}
		if line == "drop\n" {
			continue
		}
		if got := judge(t, code, build(t, api.Header{Proto: 89}), 0, api.New); got != api.Accept {
			t.Errorf("P10: %q, again and again: %d, want the policy", line, got)
		}
	}
	h := api.Header{Src: 0x01020304, Dst: 0x02030405, Proto: api.TCP, Sport: 2, Dport: 3, Flags: 0x3d}
	code := compile(t, "policy drop\n"+full)
	if got := judge(t, code, build(t, h), 1, api.New); got != api.Accept {
		t.Errorf("P10: all conditions hold: %d", got)
	}
	for i, wrong := range []api.Header{
		{Src: 0x02020304, Dst: h.Dst, Proto: h.Proto, Sport: 2, Dport: 3, Flags: 0x3d},
		{Src: h.Src, Dst: 0x01030405, Proto: h.Proto, Sport: 2, Dport: 3, Flags: 0x3d},
		{Src: h.Src, Dst: h.Dst, Proto: api.UDP, Sport: 2, Dport: 3},
		{Src: h.Src, Dst: h.Dst, Proto: h.Proto, Sport: 3, Dport: 3, Flags: 0x3d},
		{Src: h.Src, Dst: h.Dst, Proto: h.Proto, Sport: 2, Dport: 2, Flags: 0x3d},
		{Src: h.Src, Dst: h.Dst, Proto: h.Proto, Sport: 2, Dport: 3, Flags: 0x3f},
	} {
		if got := judge(t, code, build(t, wrong), 1, api.New); got != api.Drop {
			t.Errorf("P10: condition %d does not hold: %d", i, got)
		}
	}
	if judge(t, code, build(t, h), 0, api.New) != api.Drop || judge(t, code, build(t, h), 1, api.Invalid) != api.Drop {
		t.Error("P10: the interface or the state does not hold, but the rule does")
	}
}

// TestCodesRunOverAnything: a code that Check takes does not trap, and frames that are no Fine ones are dropped if they have no whole head.
func TestCodesRunOverAnything(t *testing.T) {
	rnd := rand.New(rand.NewSource(5))
	code := compile(t, "policy accept\nreject proto tcp sport 1 dport 2 flags 3/1\nreject proto udp dport 5\nreject from 1.0.0.0/8")
	for n := range 80 {
		for range 20 {
			data := make([]byte, n)
			rnd.Read(data)
			if n > 23 && rnd.Intn(2) == 0 {
				data[23] = []byte{1, 6, 17}[rnd.Intn(3)]
			}
			v, _, err := machine.Exec(code, data, [api.Metas]uint32{rnd.Uint32(), rnd.Uint32()})
			if err != nil || n < 34 && v != api.Drop {
				t.Fatalf("P10: Exec(%x, %x): %d, %v", code, data, v, err)
			}
		}
	}
}

func someFrame(t *testing.T, rnd *rand.Rand) (api.Header, []byte) {
	h := api.Header{Src: someAddress(rnd), Dst: someAddress(rnd)}
	h.Proto = []uint8{api.TCP, api.TCP, api.UDP, api.UDP, api.ICMP, uint8(rnd.Intn(256))}[rnd.Intn(6)]
	port := func() uint16 {
		return []uint16{uint16(49 + rnd.Intn(10)), 0, 65535, uint16(rnd.Intn(65536))}[rnd.Intn(4)]
	}
	switch h.Proto {
	case api.TCP:
		h.Sport, h.Dport, h.Flags = port(), port(), uint8(rnd.Intn(64))
	case api.UDP:
		h.Sport, h.Dport = port(), port()
	case api.ICMP:
		h.Flags = 8
		h.Sport = port()
		h.Dport = h.Sport
	}
	pay := make([]byte, 4*rnd.Intn(4))
	rnd.Read(pay)
	data, err := frame.Build(h, pay)
	if err != nil {
		t.Fatalf("P4: Build(%+v): %v", h, err)
	}
	if h.Proto == api.TCP {
		data[46] += byte(len(pay)/4) << 4
		data[47] |= byte(rnd.Intn(4) << 6)
	}
	padding := make([]byte, rnd.Intn(3)*rnd.Intn(20))
	rnd.Read(padding)
	return h, append(data, padding...)
}

func TestCodesAgainstTheDocumentsWords(t *testing.T) {
	rnd := rand.New(rand.NewSource(9))
	byRule, byPolicy := 0, 0
	for range 6000 {
		text := someText(rnd)
		policy, list, kind, _ := told(text)
		if kind != 0 {
			continue
		}
		code := compile(t, text)
		for range 40 {
			h, data := someFrame(t, rnd)
			iface, state := uint8(rnd.Intn(4)), api.State(rnd.Intn(3))
			want := toldJudge(policy, list, h, iface, state)
			if got := judge(t, code, data, iface, state); got != want {
				t.Fatalf("P10: %q: %+v, interface %d, state %d: %d, want %d", text, h, iface, state, got, want)
			}
			if want == toldJudge(policy, nil, h, iface, state) {
				byPolicy++
			} else {
				byRule++
			}
		}
	}
	if byRule < 20000 || byPolicy < 20000 {
		t.Errorf("only %d verdicts were by a rule, %d as the policy has it", byRule, byPolicy)
	}
}
