package firewall_test

import (
	"bytes"
	"errors"
	"strings"
	"testing"

	"firewall/api"
	"firewall/firewall"
	"firewall/plain"
)

var headers = []api.Header{
	{Src: 1, Dst: 2, Proto: api.TCP, Sport: 80, Dport: 1024, Flags: 18},
	{Src: 1, Dst: 2, Proto: api.UDP, Sport: 53, Dport: 53},
	{Src: 1, Dst: 2, Proto: api.ICMP, Sport: 7, Dport: 7, Flags: 8},
	{Src: 0xffffffff, Dst: 0xffffffff, Proto: 89},
}

func build(t *testing.T, h api.Header, pay []byte) []byte {
	t.Helper()
	f, err := firewall.Build(h, pay)
	if err != nil {
		t.Fatalf("P4: Build(%+v): %v", h, err)
	}
	return f
}

func TestNoCallPanics(t *testing.T) {
	texts := []string{"", "policy drop", "\n\x00\xff", strings.Repeat("x", 3000), strings.Repeat("\n", 2000), "policy", " policy drop\naccept in", "policy drop\naccept from / to .../"}
	for _, name := range []string{"in", "from", "to", "proto", "sport", "dport", "flags", "state"} {
		for _, value := range []string{"", " ", " /", " -", " ,", " ...", " .../", " 1", " \xff", " 99999999999999999999", " 1/1", " 1-1", " 1.1.1.1/99"} {
			texts = append(texts, "policy drop\naccept "+name+value)
		}
	}
	lists := [][]byte{nil, {}, {0}, make([]byte, 8), bytes.Repeat([]byte{0xff}, 40), make([]byte, 70000)}
	for _, text := range texts {
		firewall.Print(text)
		firewall.Compile(text)
	}
	for _, list := range lists {
		firewall.Parse(list)
		firewall.Check(list)
		firewall.Exec(list, list, [api.Metas]uint32{})
		for proto := range 256 {
			firewall.Build(api.Header{Proto: uint8(proto)}, list)
			firewall.Build(api.Header{Proto: uint8(proto), Sport: 1, Flags: 255}, list)
		}
	}
	for _, log := range []func(api.Event){nil, func(api.Event) { panic("a log that panics") }} {
		g, err := firewall.New(1, log)
		if g == nil || err != nil {
			t.Fatalf("P1: New(1) = %v, %v", g, err)
		}
		for _, text := range texts {
			g.Load(text)
		}
		for _, list := range lists {
			g.Frame(255, list)
		}
		g.Tick(1<<64 - 1)
		g.Now()
		g.List()
		g.Counts()
		for range g.Flows() {
			break
		}
	}
}

func TestZeroBesideAnError(t *testing.T) {
	for _, c := range []struct {
		h   api.Header
		pay int
	}{
		{api.Header{Proto: api.TCP, Flags: 64}, 0},
		{api.Header{Proto: api.UDP, Flags: 1}, 5},
		{api.Header{Proto: api.UDP}, api.MaxPay + 1},
		{api.Header{Proto: api.ICMP, Sport: 1}, api.MaxPay + 1},
	} {
		f, err := firewall.Build(c.h, make([]byte, c.pay))
		if f != nil || !errors.Is(err, api.ErrArg) {
			t.Errorf("P1: Build(%+v, %d bytes) = %x, %v, want nil, ErrArg", c.h, c.pay, f, err)
		}
		if kind, at := api.Told(err); kind != api.ErrArg || at != 0 {
			t.Errorf("P4: Told(%v) = %d, %d", err, kind, at)
		}
		if f, kind := plain.Build(c.h, make([]byte, c.pay)); f != nil || kind != api.ErrArg {
			t.Errorf("P1: plain.Build(%+v, %d bytes) = %x, %d", c.h, c.pay, f, kind)
		}
	}
	for _, list := range [][]byte{nil, make([]byte, 14), make([]byte, 60)} {
		if h, class := firewall.Parse(list); h != (api.Header{}) || class == api.Fine {
			t.Errorf("P3: Parse(%x) = %+v, %d", list, h, class)
		}
	}
}

// roomy is a copy of b with spare room behind it that is filled with a mark.
func roomy(b []byte) []byte {
	room := append(bytes.Clone(b), bytes.Repeat([]byte{0xa5}, 100)...)
	return room[:len(b)]
}

func untouched(list, was []byte) bool {
	room := list[:len(was)+100]
	return bytes.Equal(room[:len(was)], was) && bytes.Count(room[len(was):], []byte{0xa5}) == 100
}

func TestWhatIsHandedInIsOnlyRead(t *testing.T) {
	for _, h := range headers {
		was := []byte("some content")
		pay := roomy(was)
		f := build(t, h, pay)
		if !untouched(pay, was) {
			t.Errorf("P2: Build(%+v) wrote into pay or behind it", h)
		}
		for n := range len(f) + 1 {
			data := roomy(f[:n])
			firewall.Parse(data)
			if !untouched(data, f[:n]) {
				t.Errorf("P2: Parse wrote into the first %d bytes of %x or behind them", n, f)
			}
		}
	}
}

func TestTheRoomBehindAListIsNotTheFrame(t *testing.T) {
	for _, h := range headers {
		f := build(t, h, []byte("abc"))
		for n := range len(f) {
			cut, want := f[:n], f[:n:n]
			gotHeader, gotClass := firewall.Parse(cut)
			wantHeader, wantClass := firewall.Parse(want)
			if gotHeader != wantHeader || gotClass != wantClass || gotClass == api.Fine {
				t.Errorf("P2: Parse of %d bytes with room behind: %+v, %d", n, gotHeader, gotClass)
			}
		}
	}
}

func TestListsThatComeOutAreFresh(t *testing.T) {
	for _, h := range headers {
		pay := roomy([]byte("some content"))
		first := build(t, h, pay)
		was := bytes.Clone(first)
		pay[0] = 'X'
		if !bytes.Equal(first, was) {
			t.Errorf("P2: Build(%+v) gave a list that shares pay's memory", h)
		}
		pay[0] = 's'
		room := first[:cap(first)]
		for i := range room {
			room[i] = 0xee
		}
		if !untouched(pay, []byte("some content")) {
			t.Errorf("P2: what the caller writes into Build(%+v) stands in pay", h)
		}
		if again := build(t, h, pay); !bytes.Equal(again, was) {
			t.Errorf("P2: Build(%+v) = %x behind what the caller wrote, want %x", h, again, was)
		}
	}
}

func TestNoAnswerHangsOnCallsAhead(t *testing.T) {
	frames := make([][]byte, len(headers))
	for i, h := range headers {
		frames[i] = build(t, h, nil)
	}
	for i := range headers {
		for j, h := range headers {
			firewall.Parse(frames[i])
			firewall.Build(headers[i], []byte("other"))
			firewall.Build(api.Header{Proto: api.TCP, Flags: 64}, nil)
			if got, class := firewall.Parse(frames[j]); got != h || class != api.Fine {
				t.Errorf("P2: Parse behind other calls = %+v, %d, want %+v", got, class, h)
			}
			if again := build(t, h, nil); !bytes.Equal(again, frames[j]) {
				t.Errorf("P2: Build behind other calls = %x, want %x", again, frames[j])
			}
		}
	}
}

func TestTheFirstExample(t *testing.T) {
	if _, class := firewall.Parse(make([]byte, 14)); class != api.Alien {
		t.Errorf("P3: 14 noughts: class %d, want Alien", class)
	}
	if _, class := firewall.Parse(nil); class != api.Short {
		t.Errorf("P3: nothing: class %d, want Short", class)
	}
	want := make([]byte, 12, 42)
	want = append(want, 0x08, 0, 0x45, 0, 0, 0x1c, 0, 0, 0, 0, 0x40, 0x11, 0x66, 0xcf, 10, 0, 0, 1, 10, 0, 0, 2, 0, 1, 0, 2, 0, 8, 0, 0)
	h := api.Header{Src: 0x0a000001, Dst: 0x0a000002, Proto: 17, Sport: 1, Dport: 2}
	if f := build(t, h, nil); !bytes.Equal(f, want) {
		t.Errorf("P4: Build(%+v) = %x, want %x", h, f, want)
	}
}
