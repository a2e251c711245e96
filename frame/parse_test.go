package frame

import (
	"bytes"
	"math/rand"
	"testing"

	"firewall/api"
)

type classCase struct {
	name  string
	data  []byte
	class api.Class
}

func checkClasses(t *testing.T, cases []classCase) {
	t.Helper()
	for _, c := range cases {
		h, class := Parse(c.data)
		if class != c.class {
			t.Errorf("P3: %s: class %d, want %d", c.name, class, c.class)
		}
		if class != api.Fine && h != (api.Header{}) {
			t.Errorf("P3: %s: header %+v beside class %d, want zero", c.name, h, class)
		}
	}
}

func TestClassOfLink(t *testing.T) {
	tcp := tcpFrame(t)
	checkClasses(t, []classCase{
		{"nil", nil, api.Short},
		{"empty", []byte{}, api.Short},
		{"13 bytes", tcp[:13], api.Short},
		{"13 bytes, alien", put(tcp, 12, 9)[:13], api.Short},
		{"14 noughts", make([]byte, 14), api.Alien},
		{"byte 12", put(tcp, 12, 9), api.Alien},
		{"byte 13", put(tcp, 13, 6), api.Alien},
		{"bytes 12 and 13 swapped", put(tcp, 12, 0, 13, 8), api.Alien},
		{"alien and cut", put(tcp, 13, 1)[:33], api.Alien},
		{"14 bytes", tcp[:14], api.Cut},
		{"33 bytes", tcp[:33], api.Cut},
		{"33 bytes, wrong version", put(tcp, 14, 0x65)[:33], api.Cut},
		{"34 bytes", tcp[:34], api.Length},
		{"bytes 0 to 11 are free", put(tcp, 0, 255, 5, 1, 6, 2, 11, 255), api.Fine},
	})
}

func TestClassOfHead(t *testing.T) {
	tcp := tcpFrame(t)
	checkClasses(t, []classCase{
		{"version 6", put(tcp, 14, 0x65), api.Version},
		{"version 0", put(tcp, 14, 0x05), api.Version},
		{"version 5", put(tcp, 14, 0x55), api.Version},
		{"version and options", put(tcp, 14, 0x66), api.Version},
		{"four words", put(tcp, 14, 0x44), api.Options},
		{"six words", put(tcp, 14, 0x46), api.Options},
		{"options and length", put(tcp, 14, 0x46, 17, 0), api.Options},
		{"total 0", put(tcp, 17, 0), api.Length},
		{"total 19", summed(put(tcp, 17, 19)), api.Length},
		{"total 20", summed(put(tcp, 17, 20)), api.Inner},
		{"total one above", summed(put(tcp, 17, 42)), api.Length},
		{"total far above", summed(put(tcp, 16, 0xff, 17, 0xff)), api.Length},
		{"total by its upper byte", summed(put(tcp, 16, 1)), api.Length},
		{"last byte lost", tcp[:len(tcp)-1], api.Length},
		{"length and sum", put(tcp, 17, 42), api.Length},
		{"padding", append(bytes.Clone(tcp), 1, 2, 3), api.Fine},
		{"70,000 bytes", append(bytes.Clone(tcp), make([]byte, 70000-len(tcp))...), api.Fine},
		{"sum 0", put(tcp, 24, 0, 25, 0), api.Sum},
		{"sum one off", put(tcp, 25, 0xce), api.Sum},
		{"a byte of Src", put(tcp, 26, 11), api.Sum},
		{"the last byte of Dst", put(tcp, 33, 3), api.Sum},
		{"sum and fragment", put(tcp, 21, 1), api.Sum},
		{"behind the head the sum looks at nothing", put(tcp, 34, 9, 54, 1), api.Fine},
	})
}

func TestEverySumFits(t *testing.T) {
	b := otherFrame(t)
	for at := 26; at < 34; at++ {
		b[at] = 0xff
	}
	for id := range 1 << 16 {
		b[18], b[19] = byte(id>>8), byte(id)
		summed(b)
		if _, class := Parse(b); class != api.Fine {
			t.Fatalf("P3: number %x: class %d of %x, want Fine", id, class, b)
		}
		if _, class := Parse(put(b, 25, int(b[25])+1)); class != api.Sum {
			t.Fatalf("P3: number %x: class %d with another sum, want Sum", id, class)
		}
	}
}

func TestBothSumsOfNought(t *testing.T) {
	b := otherFrame(t)
	fine := 0
	for id := range 1 << 16 {
		b = put(b, 18, id>>8, 19, id, 24, 0, 25, 0)
		if _, class := Parse(b); class != api.Fine {
			continue
		}
		fine++
		if _, class := Parse(put(b, 24, 0xff, 25, 0xff)); class != api.Fine {
			t.Errorf("P3: 0xffff where 0 does: class %d", class)
		}
	}
	if fine != 1 {
		t.Errorf("P3: %d numbers fit the sum 0, want 1", fine)
	}
}

func TestClassOfFragments(t *testing.T) {
	tcp := tcpFrame(t)
	for bit := range 16 {
		n := 1 << bit
		want := api.Fragment
		if bit >= 14 {
			want = api.Fine
		}
		b := summed(put(tcp, 20, n>>8, 21, n))
		if _, class := Parse(b); class != want {
			t.Errorf("P3: bit %d of bytes 20 and 21: class %d, want %d", bit, class, want)
		}
	}
	checkClasses(t, []classCase{
		{"both upper bits", summed(put(tcp, 20, 0xc0)), api.Fine},
		{"fragment and inner", summed(put(tcp, 20, 0x20, 17, 20)), api.Fragment},
	})
}

func TestClassOfTCP(t *testing.T) {
	tcp := tcpFrame(t)
	long := append(bytes.Clone(tcp), make([]byte, 39)...)
	long[17] = 80
	summed(long)
	checkClasses(t, []classCase{
		{"total 39", summed(put(tcp, 17, 39)), api.Inner},
		{"total 40", summed(put(tcp, 17, 40)), api.Fine},
		{"no words", put(tcp, 46, 0x0f), api.Inner},
		{"four words", put(tcp, 46, 0x4f), api.Inner},
		{"five words", put(tcp, 46, 0x5f), api.Fine},
		{"six words, 21 bytes", put(tcp, 46, 0x60), api.Inner},
		{"six words, the rest padding", append(put(tcp, 46, 0x60), 0, 0, 0), api.Inner},
		{"fifteen words", put(long, 46, 0xf0), api.Fine},
		{"fifteen words, a byte less", summed(put(long, 46, 0xf0, 17, 79)), api.Inner},
	})
}

func TestClassOfUDP(t *testing.T) {
	udp := udpFrame(t)
	checkClasses(t, []classCase{
		{"total 27", summed(put(udp, 17, 27, 39, 8)), api.Inner},
		{"total 28", summed(put(udp, 17, 28, 39, 8)), api.Fine},
		{"length 0", put(udp, 39, 0), api.Inner},
		{"length 7", put(udp, 39, 7), api.Inner},
		{"length 8", put(udp, 39, 8), api.Fine},
		{"length 11", udp, api.Fine},
		{"length 12", put(udp, 39, 12), api.Inner},
		{"length 12, a byte of padding", append(put(udp, 39, 12), 0), api.Inner},
		{"length by its upper byte", put(udp, 38, 1), api.Inner},
	})
}

func TestClassOfOthers(t *testing.T) {
	icmp, other := icmpFrame(t), otherFrame(t)
	checkClasses(t, []classCase{
		{"ICMP, total 27", summed(put(icmp, 17, 27)), api.Inner},
		{"ICMP, total 28", icmp, api.Fine},
		{"another, total 20", summed(put(other, 17, 20)), api.Fine},
		{"another, no byte behind the head", summed(put(other, 17, 20))[:34], api.Fine},
		{"TCP, no byte behind the head", summed(put(other, 17, 20, 23, 6))[:34], api.Inner},
		{"UDP, no byte behind the head", summed(put(other, 17, 20, 23, 17))[:34], api.Inner},
		{"ICMP, no byte behind the head", summed(put(other, 17, 20, 23, 1))[:34], api.Inner},
	})
	for proto := range 256 {
		want := api.Fine
		if proto == api.TCP || proto == api.UDP || proto == api.ICMP {
			want = api.Inner
		}
		if _, class := Parse(summed(put(other, 23, proto))); class != want {
			t.Errorf("P3: protocol %d with three bytes: class %d, want %d", proto, class, want)
		}
	}
}

func TestHeader(t *testing.T) {
	tcp, udp, icmp, other := tcpFrame(t), udpFrame(t), icmpFrame(t), otherFrame(t)
	for _, c := range []struct {
		name string
		data []byte
		want api.Header
	}{
		{"TCP", tcp, api.Header{Src: addrA, Dst: addrB, Proto: api.TCP, Sport: 80, Dport: 1024, Flags: 18}},
		{"TCP, the upper bits of byte 47", put(tcp, 47, 0xff), api.Header{Src: addrA, Dst: addrB, Proto: api.TCP, Sport: 80, Dport: 1024, Flags: 63}},
		{"TCP, two upper bits alone", put(tcp, 47, 0xc0), api.Header{Src: addrA, Dst: addrB, Proto: api.TCP, Sport: 80, Dport: 1024}},
		{"UDP", udp, api.Header{Src: addrA, Dst: addrB, Proto: api.UDP, Sport: 0xffff, Dport: 0x1234}},
		{"ICMP 8", icmp, api.Header{Src: addrB, Dst: addrA, Proto: api.ICMP, Sport: 0x0107, Dport: 0x0107, Flags: 8}},
		{"ICMP 0", put(icmp, 34, 0), api.Header{Src: addrB, Dst: addrA, Proto: api.ICMP, Sport: 0x0107, Dport: 0x0107}},
		{"ICMP 3", put(icmp, 34, 3), api.Header{Src: addrB, Dst: addrA, Proto: api.ICMP, Flags: 3}},
		{"ICMP 255", put(icmp, 34, 255), api.Header{Src: addrB, Dst: addrA, Proto: api.ICMP, Flags: 255}},
		{"ICMP 136", put(icmp, 34, 136), api.Header{Src: addrB, Dst: addrA, Proto: api.ICMP, Flags: 136}},
		{"another", other, api.Header{Dst: 0xffffffff, Proto: 89}},
		{"another, addresses", summed(put(other, 26, 1, 27, 2, 28, 3, 29, 4, 30, 252, 31, 253, 32, 254, 33, 255)), api.Header{Src: 0x01020304, Dst: 0xfcfdfeff, Proto: 89}},
	} {
		if h, class := Parse(c.data); h != c.want || class != api.Fine {
			t.Errorf("P3: %s: %+v, %d, want %+v", c.name, h, class, c.want)
		}
	}
}

func TestParseAgainstTheWords(t *testing.T) {
	r := rand.New(rand.NewSource(1))
	starts := [][]byte{tcpFrame(t), udpFrame(t), icmpFrame(t), otherFrame(t)}
	protos := []byte{api.TCP, api.UDP, api.ICMP, 89}
	seen := [10]int{}
	for range 200000 {
		b := bytes.Clone(starts[r.Intn(len(starts))])
		b = append(b, make([]byte, r.Intn(30))...)
		for range r.Intn(4) {
			b[r.Intn(len(b))] = byte(r.Intn(256))
		}
		if r.Intn(3) == 0 {
			b[16], b[17] = 0, byte(18+r.Intn(len(b)))
		}
		if r.Intn(3) == 0 {
			b[23] = protos[r.Intn(len(protos))]
		}
		if r.Intn(4) != 0 {
			summed(b)
		}
		if r.Intn(8) == 0 {
			b = b[:r.Intn(len(b)+1)]
		}
		wantHeader, wantClass := told(b)
		seen[wantClass]++
		if h, class := Parse(b); h != wantHeader || class != wantClass {
			t.Fatalf("P3: Parse(%x) = %+v, %d, want %+v, %d", b, h, class, wantHeader, wantClass)
		}
	}
	for class, n := range seen {
		if n < 20 {
			t.Errorf("the frames that were tried have class %d %d times only", class, n)
		}
	}
}

func TestParseOfEveryLength(t *testing.T) {
	for _, whole := range [][]byte{tcpFrame(t), udpFrame(t), icmpFrame(t), otherFrame(t)} {
		for n := range len(whole) + 1 {
			for total := range n + 2 {
				b := bytes.Clone(whole[:n:n])
				if n >= 34 {
					b[16], b[17] = byte(total>>8), byte(total)
					summed(b)
				}
				wantHeader, wantClass := told(b)
				if h, class := Parse(b); h != wantHeader || class != wantClass {
					t.Fatalf("P1, P3: Parse(%x) = %+v, %d, want %+v, %d", b, h, class, wantHeader, wantClass)
				}
			}
		}
	}
}
