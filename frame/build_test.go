package frame

import (
	"bytes"
	"math/rand"
	"testing"

	"firewall/api"
)

func TestBuild(t *testing.T) {
	for _, c := range []struct {
		name string
		h    api.Header
		pay  string
		want string
	}{
		{"the document's example", api.Header{Src: addrA, Dst: addrB, Proto: api.UDP, Sport: 1, Dport: 2}, "", "4500 001c 0000 0000 4011 66cf 0a000001 0a000002 0001 0002 0008 0000"},
		{"UDP", api.Header{Src: addrA, Dst: addrB, Proto: api.UDP, Sport: 0xffff, Dport: 0x1234}, "hey", "4500 001f 0000 0000 4011 66cc 0a000001 0a000002 ffff 1234 000b 0000 686579"},
		{"TCP", api.Header{Src: addrA, Dst: addrB, Proto: api.TCP, Sport: 80, Dport: 1024, Flags: 18}, "x", "4500 0029 0000 0000 4006 66cd 0a000001 0a000002 0050 0400 00000000 00000000 5012 0000 0000 0000 78"},
		{"TCP, all flags", api.Header{Src: addrA, Dst: addrB, Proto: api.TCP, Flags: 63}, "", "4500 0028 0000 0000 4006 66ce 0a000001 0a000002 0000 0000 00000000 00000000 503f 0000 0000 0000"},
		{"ICMP 8", api.Header{Src: addrB, Dst: addrA, Proto: api.ICMP, Sport: 0x0107, Dport: 0x0107, Flags: 8}, "", "4500 001c 0000 0000 4001 66df 0a000002 0a000001 0800 0000 0107 0000"},
		{"ICMP 0", api.Header{Src: addrB, Dst: addrA, Proto: api.ICMP, Sport: 7, Dport: 7}, "", "4500 001c 0000 0000 4001 66df 0a000002 0a000001 0000 0000 0007 0000"},
		{"ICMP 255", api.Header{Src: addrB, Dst: addrA, Proto: api.ICMP, Flags: 255}, "", "4500 001c 0000 0000 4001 66df 0a000002 0a000001 ff00 0000 0000 0000"},
		{"another", api.Header{Dst: 0xffffffff, Proto: 89}, "abc", "4500 0017 0000 0000 4059 7a8f 00000000 ffffffff 616263"},
		{"protocol 0", api.Header{}, "", "4500 0014 0000 0000 4000 7aeb 00000000 00000000"},
		{"what is above 16 bits is added twice", api.Header{Src: 0xffff7aec}, "", "4500 0014 0000 0000 4000 fffe ffff7aec 00000000"},
		{"the sum is 0, not 0xffff", api.Header{Src: 0x7aeb0000}, "", "4500 0014 0000 0000 4000 0000 7aeb0000 00000000"},
	} {
		f, err := Build(c.h, []byte(c.pay))
		if err != nil || !bytes.Equal(f, unhex(t, link+c.want)) {
			t.Errorf("P4: %s: %x, %v, want %s", c.name, f, err, c.want)
		}
	}
}

func TestBuildRefusesHeaders(t *testing.T) {
	for _, h := range []api.Header{
		{Proto: api.TCP, Flags: 64},
		{Proto: api.TCP, Flags: 255},
		{Proto: api.UDP, Flags: 1},
		{Proto: api.UDP, Flags: 128},
		{Proto: api.ICMP, Sport: 1, Dport: 2, Flags: 8},
		{Proto: api.ICMP, Sport: 1, Flags: 8},
		{Proto: api.ICMP, Dport: 1},
		{Proto: api.ICMP, Sport: 1, Dport: 1, Flags: 3},
		{Proto: api.ICMP, Sport: 1, Flags: 3},
		{Proto: api.ICMP, Dport: 1, Flags: 3},
		{Proto: api.ICMP, Sport: 1, Dport: 1, Flags: 9},
		{Proto: 89, Sport: 1},
		{Proto: 89, Dport: 1},
		{Proto: 89, Flags: 1},
		{Proto: 89, Sport: 1, Dport: 1},
		{Flags: 8},
		{Proto: 255, Dport: 0xffff},
	} {
		for _, pay := range [][]byte{nil, make([]byte, api.MaxPay), make([]byte, api.MaxPay+1)} {
			if f, err := Build(h, pay); f != nil || err != error(api.ErrArg) {
				t.Errorf("P4: Build(%+v, %d bytes) = %x, %v, want ErrArg itself", h, len(pay), f, err)
			}
		}
	}
}

func TestBuildWithMuchPay(t *testing.T) {
	for _, c := range []struct {
		proto uint8
		at    int
	}{{api.TCP, 54}, {api.UDP, 42}, {api.ICMP, 42}, {0, 34}, {255, 34}} {
		h := api.Header{Src: addrA, Dst: addrB, Proto: c.proto}
		pay := bytes.Repeat([]byte{0xab}, api.MaxPay)
		f, err := Build(h, pay)
		if err != nil || len(f) != c.at+api.MaxPay || !bytes.Equal(f[c.at:], pay) {
			t.Errorf("P4: protocol %d with MaxPay bytes: %d bytes, %v", c.proto, len(f), err)
		}
		if got, class := Parse(f); got != h || class != api.Fine {
			t.Errorf("P4: protocol %d with MaxPay bytes: %+v, %d", c.proto, got, class)
		}
		for _, n := range []int{api.MaxPay + 1, 70000} {
			if f, err := Build(h, make([]byte, n)); f != nil || err != error(api.ErrArg) {
				t.Errorf("P4: protocol %d with %d bytes: %d bytes, %v, want ErrArg", c.proto, n, len(f), err)
			}
		}
	}
}

// someHeader has small numbers often, so that many headers are near the edge of what can be.
func someHeader(r *rand.Rand) api.Header {
	protos := []uint8{api.TCP, api.UDP, api.ICMP, uint8(r.Intn(256))}
	flags := []uint8{0, 8, 63, 64, uint8(r.Intn(256))}
	h := api.Header{Src: r.Uint32(), Dst: r.Uint32(), Proto: protos[r.Intn(4)], Flags: flags[r.Intn(5)]}
	ports := []uint16{0, 0, uint16(r.Uint32())}
	h.Sport, h.Dport = ports[r.Intn(3)], ports[r.Intn(3)]
	return h
}

func TestParseTakesApartWhatBuildMakes(t *testing.T) {
	r := rand.New(rand.NewSource(2))
	built, refused := 0, 0
	for range 100000 {
		h := someHeader(r)
		pay := make([]byte, r.Intn(40))
		r.Read(pay)
		f, err := Build(h, pay)
		if err != nil {
			refused++
			continue
		}
		built++
		if got, class := Parse(f); got != h || class != api.Fine {
			t.Fatalf("P4: Parse(Build(%+v)) = %+v, %d", h, got, class)
		}
		if !bytes.HasSuffix(f, pay) {
			t.Fatalf("P4: Build(%+v, %x) = %x: pay is not at the end", h, pay, f)
		}
		if f[24] == 0xff && f[25] == 0xff {
			t.Fatalf("P4: Build(%+v) has the sum 0xffff", h)
		}
	}
	if built < 1000 || refused < 1000 {
		t.Errorf("%d headers built, %d refused: the test tries too few of one kind", built, refused)
	}
}

func TestBuildTakesEveryHeaderThatParseGives(t *testing.T) {
	r := rand.New(rand.NewSource(3))
	starts := [][]byte{tcpFrame(t), udpFrame(t), icmpFrame(t), otherFrame(t)}
	fine := 0
	for range 50000 {
		b := bytes.Clone(starts[r.Intn(len(starts))])
		for range 6 {
			b[23+r.Intn(len(b)-23)] = byte(r.Intn(256))
		}
		h, class := Parse(summed(b))
		if class != api.Fine {
			continue
		}
		fine++
		if f, err := Build(h, nil); err != nil {
			t.Fatalf("P4: Build(%+v) = %x, %v, but Parse gave that header", h, f, err)
		}
	}
	if fine < 1000 {
		t.Errorf("only %d frames were Fine", fine)
	}
}
