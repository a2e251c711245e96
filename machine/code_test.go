package machine

import (
	"bytes"
	"math/rand"
	"testing"

	"firewall/api"
)

// TestOneInstruction asks for each of an instruction's parts by Exec, which tells ErrCode and no other error of Check.
func TestOneInstruction(t *testing.T) {
	ks := []int{0, 1, 2, 3, 30, 31, 32, 33, 255, 256, 1 << 16, 1 << 24, 1 << 31, top}
	for op := range 256 {
		for _, r := range []int{0, 1, 3, 4, 255} {
			for _, ways := range [][2]int{{0, 0}, {1, 0}, {0, 1}, {255, 255}} {
				for _, k := range ks {
					code := asm([5]int{op, r, ways[0], ways[1], k})
					want := toldOne(code)
					_, _, err := Exec(code, nil, [api.Metas]uint32{})
					if got := err != api.ErrCode; got != want {
						t.Errorf("P5: %x is an instruction: %t, want %t", code, got, want)
					}
					kind, _ := api.Told(Check(code))
					if got := kind != api.ErrCode; got != want {
						t.Errorf("P6: Check(%x): kind %d, want an instruction: %t", code, kind, want)
					}
				}
			}
		}
	}
}

func TestWhatIsNoInstruction(t *testing.T) {
	for _, c := range []struct {
		name string
		in   [5]int
		ok   bool
	}{
		{"ret 0", retI(0), true},
		{"ret 2", retI(2), true},
		{"ret 3", retI(3), false},
		{"ret with the verdict in its highest byte", retI(1 << 24), false},
		{"ret with r", [5]int{0, 1, 0, 0, 0}, false},
		{"ret with t", [5]int{0, 0, 1, 0, 0}, false},
		{"ret with f", [5]int{0, 0, 0, 1, 0}, false},
		{"ldb from the greatest number", ldbI(3, top), true},
		{"ldh from the greatest number", ldhI(3, top), true},
		{"ldw from the greatest number", ldwI(3, top), true},
		{"ldb with r 4", ldbI(4, 0), false},
		{"ldb with t", [5]int{1, 0, 1, 0, 0}, false},
		{"ldh with f", [5]int{2, 0, 0, 1, 0}, false},
		{"ldw with t", [5]int{3, 0, 255, 0, 0}, false},
		{"ldm 1", ldmI(3, 1), true},
		{"ldm 2", ldmI(0, 2), false},
		{"ldm with t", [5]int{4, 0, 1, 0, 0}, false},
		{"len", lenI(3), true},
		{"len with k", [5]int{5, 0, 0, 0, 1}, false},
		{"len with f", [5]int{5, 0, 0, 1, 0}, false},
		{"and with all bits", andI(3, top), true},
		{"and with t", [5]int{6, 0, 1, 0, 0}, false},
		{"shr 31", shrI(3, 31), true},
		{"shr 32", shrI(0, 32), false},
		{"shr with f", [5]int{7, 0, 0, 1, 0}, false},
		{"jeq with all parts", jeqI(3, 255, 255, top), true},
		{"jge with all parts", jgeI(3, 255, 255, top), true},
		{"jset with all parts", jsetI(3, 255, 255, top), true},
		{"jset with r 4", jsetI(4, 0, 0, 0), false},
		{"jmp by the greatest number", jmpI(top), true},
		{"jmp with r", [5]int{11, 1, 0, 0, 0}, false},
		{"jmp with t", [5]int{11, 0, 1, 0, 0}, false},
		{"jmp with f", [5]int{11, 0, 0, 1, 0}, false},
		{"op 12", [5]int{12, 0, 0, 0, 0}, false},
		{"op 255", [5]int{255, 0, 0, 0, 0}, false},
	} {
		kind, at := api.Told(Check(asm(retI(0), c.in)))
		if ok := kind != api.ErrCode; ok != c.ok || !ok && at != 1 {
			t.Errorf("P5: %s: kind %d at %d, want an instruction: %t", c.name, kind, at, c.ok)
		}
	}
}

func TestHowLongACodeIs(t *testing.T) {
	for n := range 40 {
		code := make([]byte, n)
		want := n%8 == 0 && n > 0
		err := Check(code)
		if (err == nil) != want {
			t.Errorf("P6: Check of %d noughts: %v", n, err)
		}
		v, done, err := Exec(code, nil, [api.Metas]uint32{})
		if (err == nil) != want || v != api.Drop || done != map[bool]int{true: 1}[want] {
			t.Errorf("P7: Exec of %d noughts: %d, %d, %v", n, v, done, err)
		}
	}
	most := bytes.Repeat(asm(retI(1)), api.MaxCode)
	for _, c := range []struct {
		name string
		code []byte
		kind api.Kind
		at   int
	}{
		{"MaxCode", most, 0, 0},
		{"one more than MaxCode", append(bytes.Clone(most), asm(retI(1))...), api.ErrCode, 0},
		{"a byte more than MaxCode", append(bytes.Clone(most), 0), api.ErrCode, 0},
		{"one more than MaxCode that is none", append(bytes.Clone(most), asm(retI(3))...), api.ErrCode, 0},
		{"the last of MaxCode is none", append(bytes.Clone(most[8:]), asm(retI(3))...), api.ErrCode, api.MaxCode - 1},
		{"the second is none, and the length is wrong", asm(retI(1), retI(3))[:15], api.ErrCode, 0},
		{"the second is none, and a byte too much", append(asm(retI(1), retI(3)), 0), api.ErrCode, 0},
		{"the second and the third are none", asm(retI(1), retI(3), retI(3)), api.ErrCode, 1},
	} {
		if kind, at := api.Told(Check(c.code)); kind != c.kind || at != c.at {
			t.Errorf("P6: %s: %d at %d, want %d at %d", c.name, kind, at, c.kind, c.at)
		}
		_, _, err := Exec(c.code, nil, [api.Metas]uint32{})
		if kind, _ := api.Told(err); kind != c.kind {
			t.Errorf("P7: %s: %v, want %d", c.name, err, c.kind)
		}
	}
}

func TestWrite(t *testing.T) {
	list := []Instruction{{Op: Len, R: 3}, {Op: Jge, R: 3, T: 1, F: 255, K: 0x12345678}, {Op: Ldw, R: 2, K: top - 1}, {Op: Ret, K: 2}}
	want := asm(lenI(3), jgeI(3, 1, 255, 0x12345678), ldwI(2, top-1), retI(2))
	if got := Write(list); !bytes.Equal(got, want) {
		t.Errorf("P5: Write(%v) = %x, want %x", list, got, want)
	}
	if got := Write(nil); len(got) != 0 {
		t.Errorf("P5: Write of nothing: %x", got)
	}
	rnd := rand.New(rand.NewSource(2))
	for range 2000 {
		code := someCode(rnd)
		list, err := read(code)
		if err != nil {
			continue
		}
		if got := Write(list); !bytes.Equal(got, code) {
			t.Fatalf("P5: Write of what was read out of %x: %x", code, got)
		}
	}
}

func TestTheOpsNumbers(t *testing.T) {
	for number, op := range []int{Ret, Ldb, Ldh, Ldw, Ldm, Len, And, Shr, Jeq, Jge, Jset, Jmp} {
		if op != number {
			t.Errorf("P5: the op %d is %d", number, op)
		}
	}
}
