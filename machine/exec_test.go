package machine

import (
	"math/rand"
	"testing"

	"firewall/api"
)

type execCase struct {
	name string
	code []byte
	v    api.Verdict
	done int
	kind api.Kind
}

var (
	execData = []byte{0x80, 1, 2, 3, 0xff, 0xfe, 0xfd, 0xfc, 0x7f}
	execMeta = [api.Metas]uint32{7, top}
)

func runExecs(t *testing.T, data []byte, cases []execCase) {
	t.Helper()
	for _, c := range cases {
		v, done, err := Exec(c.code, data, execMeta)
		var want error
		if c.kind != 0 {
			want = c.kind
		}
		if v != c.v || done != c.done || err != want {
			t.Errorf("P7: %s: %d, %d, %v, want %d, %d, %v", c.name, v, done, err, c.v, c.done, want)
		}
	}
}

// becomes runs the list and then tells whether the register is k: Accept, or else Reject.
func becomes(r, k int, list ...[5]int) []byte {
	return asm(append(list, jeqI(r, 0, 1, k), retI(1), retI(2))...)
}

func TestExecNumbers(t *testing.T) {
	runExecs(t, execData, []execCase{
		{"ldb", becomes(0, 0x80, ldbI(0, 0)), api.Accept, 3, 0},
		{"ldb of the last byte", becomes(1, 0x7f, ldbI(1, 8)), api.Accept, 3, 0},
		{"ldh", becomes(2, 0x8001, ldhI(2, 0)), api.Accept, 3, 0},
		{"ldh at the end", becomes(2, 0xfc7f, ldhI(2, 7)), api.Accept, 3, 0},
		{"ldw", becomes(3, 0x80010203, ldwI(3, 0)), api.Accept, 3, 0},
		{"ldw from an odd byte", becomes(3, 0x010203ff, ldwI(3, 1)), api.Accept, 3, 0},
		{"ldw at the end", becomes(3, 0xfefdfc7f, ldwI(3, 5)), api.Accept, 3, 0},
		{"another number", becomes(0, 0x81, ldbI(0, 0)), api.Reject, 3, 0},
		{"meta 0", becomes(0, 7, ldmI(0, 0)), api.Accept, 3, 0},
		{"meta 1", becomes(0, top, ldmI(0, 1)), api.Accept, 3, 0},
		{"len", becomes(0, 9, lenI(0)), api.Accept, 3, 0},
		{"and", becomes(0, 0xf0000001, ldmI(0, 1), andI(0, 0xf0000001)), api.Accept, 4, 0},
		{"and with 0", becomes(0, 0, ldmI(0, 1), andI(0, 0)), api.Accept, 4, 0},
		{"and brings no bits", becomes(0, 5, ldmI(0, 0), andI(0, 0xfffffffd)), api.Accept, 4, 0},
		{"shr 0", becomes(0, 7, ldmI(0, 0), shrI(0, 0)), api.Accept, 4, 0},
		{"shr 1", becomes(0, 3, ldmI(0, 0), shrI(0, 1)), api.Accept, 4, 0},
		{"shr 3", becomes(0, 0, ldmI(0, 0), shrI(0, 3)), api.Accept, 4, 0},
		{"shr brings noughts", becomes(0, 0x7fffffff, ldmI(0, 1), shrI(0, 1)), api.Accept, 4, 0},
		{"shr 31", becomes(0, 1, ldmI(0, 1), shrI(0, 31)), api.Accept, 4, 0},
		{"the later load holds", becomes(0, 1, ldwI(0, 0), ldbI(0, 1)), api.Accept, 4, 0},
		{"registers are kept apart, the first", becomes(0, 0x80, ldbI(0, 0), ldbI(1, 1), ldbI(2, 2), ldbI(3, 3)), api.Accept, 6, 0},
		{"registers are kept apart, the second", becomes(1, 1, ldbI(0, 0), ldbI(1, 1), ldbI(2, 2), ldbI(3, 3)), api.Accept, 6, 0},
		{"registers are kept apart, the third", becomes(2, 2, ldbI(0, 0), ldbI(1, 1), ldbI(2, 2), ldbI(3, 3)), api.Accept, 6, 0},
		{"registers are kept apart, the last", becomes(3, 3, ldbI(0, 0), ldbI(1, 1), ldbI(2, 2), ldbI(3, 3)), api.Accept, 6, 0},
	})
	runExecs(t, nil, []execCase{{"len of no bytes", becomes(0, 0, lenI(0)), api.Accept, 3, 0}})
	runExecs(t, make([]byte, 70000), []execCase{
		{"len of many bytes", becomes(0, 70000, lenI(0)), api.Accept, 3, 0},
		{"a load of the last of many", becomes(0, 0, ldbI(0, 69999)), api.Accept, 3, 0},
		{"a load beyond many", becomes(0, 0, ldbI(0, 70000)), api.Drop, 1, api.TrapLoad},
	})
}

func TestExecWays(t *testing.T) {
	ends := [][5]int{retI(0), retI(1), retI(2)}
	with := func(list ...[5]int) []byte { return asm(append(list, ends...)...) }
	runExecs(t, execData, []execCase{
		{"ret 0", asm(retI(0)), api.Drop, 1, 0},
		{"ret 1", asm(retI(1), retI(2)), api.Accept, 1, 0},
		{"ret 2", asm(retI(2), retI(1)), api.Reject, 1, 0},
		{"jeq holds", with(ldmI(0, 0), jeqI(0, 1, 2, 7)), api.Accept, 3, 0},
		{"jeq holds not", with(ldmI(0, 0), jeqI(0, 1, 2, 8)), api.Reject, 3, 0},
		{"jge by more", with(ldmI(0, 0), jgeI(0, 1, 2, 6)), api.Accept, 3, 0},
		{"jge by as much", with(ldmI(0, 0), jgeI(0, 1, 2, 7)), api.Accept, 3, 0},
		{"jge by less", with(ldmI(0, 0), jgeI(0, 1, 2, 8)), api.Reject, 3, 0},
		{"jge of 0", with(ldmI(0, 0), jgeI(0, 1, 2, 0)), api.Accept, 3, 0},
		{"jge has no sign", with(ldmI(0, 1), jgeI(0, 1, 2, 1)), api.Accept, 3, 0},
		{"jge has no sign in k", with(ldmI(0, 0), jgeI(0, 1, 2, 1<<31)), api.Reject, 3, 0},
		{"jset with one bit of two", with(ldmI(0, 0), jsetI(0, 1, 2, 12)), api.Accept, 3, 0},
		{"jset with no bit", with(ldmI(0, 0), jsetI(0, 1, 2, 8)), api.Reject, 3, 0},
		{"jset with the highest bit", with(ldmI(0, 1), jsetI(0, 1, 2, 1<<31)), api.Accept, 3, 0},
		{"jset of 0", with(ldmI(0, 1), jsetI(0, 1, 2, 0)), api.Reject, 3, 0},
		{"jmp over none", with(jmpI(0)), api.Drop, 2, 0},
		{"jmp over two", with(jmpI(2)), api.Reject, 2, 0},
		{"a jump leaves its register", with(ldmI(0, 0), jeqI(0, 0, 0, 7), jeqI(0, 1, 2, 7)), api.Accept, 4, 0},
	})
	far := [][5]int{lenI(0), jeqI(0, 255, 0, 9)}
	for len(far) < 2+255 {
		far = append(far, retI(2))
	}
	far = append(far, retI(1))
	runExecs(t, execData, []execCase{{"a jump over 255", asm(far...), api.Accept, 3, 0}})
}

func TestExecTraps(t *testing.T) {
	runExecs(t, execData, []execCase{
		{"no code", nil, api.Drop, 0, api.ErrCode},
		{"one that is none behind ret", asm(retI(1), retI(3)), api.Drop, 0, api.ErrCode},
		{"ldb beyond", asm(ldbI(0, 9), retI(1)), api.Drop, 1, api.TrapLoad},
		{"ldh that begins with the last byte", asm(ldhI(0, 8), retI(1)), api.Drop, 1, api.TrapLoad},
		{"ldw that ends one beyond", asm(ldwI(0, 6), retI(1)), api.Drop, 1, api.TrapLoad},
		{"ldb of the greatest number", asm(ldbI(0, top), retI(1)), api.Drop, 1, api.TrapLoad},
		{"ldh over the greatest number", asm(ldhI(0, top), retI(1)), api.Drop, 1, api.TrapLoad},
		{"ldw over the greatest number", asm(ldwI(0, top-3), retI(1)), api.Drop, 1, api.TrapLoad},
		{"ldw from the greatest number", asm(ldwI(0, top), retI(1)), api.Drop, 1, api.TrapLoad},
		{"a later load", asm(ldbI(0, 0), lenI(1), ldbI(0, 9), retI(1)), api.Drop, 3, api.TrapLoad},
		{"and of one that is not set", asm(andI(0, 0), retI(1)), api.Drop, 1, api.TrapUnset},
		{"shr of one that is not set", asm(lenI(0), shrI(1, 0), retI(1)), api.Drop, 2, api.TrapUnset},
		{"jeq of one that is not set", asm(lenI(0), jeqI(2, 0, 0, 0), retI(1)), api.Drop, 2, api.TrapUnset},
		{"jge of one that is not set", asm(lenI(0), jgeI(3, 0, 0, 0), retI(1)), api.Drop, 2, api.TrapUnset},
		{"jset of one that is not set, ahead of the end", asm(jsetI(3, 0, 0, 0)), api.Drop, 1, api.TrapUnset},
		{"a use that is passed over", asm(lenI(0), jgeI(0, 1, 0, 1), andI(1, 0), retI(1)), api.Accept, 3, 0},
		{"a load that is passed over", asm(jmpI(1), ldbI(0, 99), retI(1)), api.Accept, 2, 0},
		{"set by the way that is taken", asm(lenI(0), jgeI(0, 0, 1, 9), ldmI(1, 0), andI(1, 7), retI(1)), api.Accept, 5, 0},
		{"the end behind a load", asm(ldbI(0, 0)), api.Drop, 1, api.TrapEnd},
		{"the end behind len", asm(lenI(0), lenI(1)), api.Drop, 2, api.TrapEnd},
		{"the end behind jmp", asm(jmpI(1), retI(1)), api.Drop, 1, api.TrapEnd},
		{"the end behind the greatest jmp", asm(jmpI(top), retI(1)), api.Drop, 1, api.TrapEnd},
		{"the end behind a late greatest jmp", asm(lenI(0), lenI(0), jmpI(top-2), retI(1)), api.Drop, 3, api.TrapEnd},
		{"the end by the way t", asm(lenI(0), jgeI(0, 255, 0, 9), retI(1)), api.Drop, 2, api.TrapEnd},
		{"the end by the way that is not taken", asm(lenI(0), jgeI(0, 0, 255, 9), retI(1)), api.Accept, 3, 0},
		{"the end by the way f", asm(lenI(0), jgeI(0, 0, 1, 10), retI(1)), api.Drop, 2, api.TrapEnd},
	})
	runExecs(t, nil, []execCase{
		{"the document's load of no bytes", asm(ldbI(0, 0), retI(1)), api.Drop, 1, api.TrapLoad},
		{"ldw of no bytes", asm(ldwI(0, 0), retI(1)), api.Drop, 1, api.TrapLoad},
	})
	runExecs(t, execData[:4], []execCase{{"a load of the room behind", asm(ldbI(0, 4), retI(1)), api.Drop, 1, api.TrapLoad}})
}

func TestExecOfALongCode(t *testing.T) {
	list := [][5]int{}
	for len(list) < api.MaxCode-1 {
		list = append(list, lenI(0))
	}
	runExecs(t, nil, []execCase{
		{"MaxCode instructions", asm(append(list, retI(2))...), api.Reject, api.MaxCode, 0},
		{"MaxCode instructions without ret", asm(append(list, lenI(3))...), api.Drop, api.MaxCode, api.TrapEnd},
	})
}

func TestExecAgainstTheWords(t *testing.T) {
	rnd := rand.New(rand.NewSource(7))
	seen := map[api.Kind]int{}
	for range 60000 {
		code := spoilt(rnd, someCode(rnd))
		data := make([]byte, rnd.Intn(24))
		rnd.Read(data)
		meta := [api.Metas]uint32{uint32(rnd.Intn(20)), rnd.Uint32()}
		v, done, kind := toldExec(code, data, meta)
		seen[kind]++
		gotV, gotDone, err := Exec(code, data, meta)
		gotKind, _ := api.Told(err)
		if int(gotV) != v || gotDone != done || gotKind != kind || err != nil && err != error(kind) {
			t.Fatalf("P7: Exec(%x, %x, %d) = %d, %d, %v, want %d, %d, %d", code, data, meta, gotV, gotDone, err, v, done, kind)
		}
	}
	for _, kind := range []api.Kind{0, api.ErrCode, api.TrapUnset, api.TrapLoad, api.TrapEnd} {
		if seen[kind] < 500 {
			t.Errorf("only %d runs were of kind %d", seen[kind], kind)
		}
	}
}

// TestACodeThatCheckTakesNeverTraps holds Check and Exec against each other: that is what Check is for.
func TestACodeThatCheckTakesNeverTraps(t *testing.T) {
	rnd := rand.New(rand.NewSource(11))
	taken, loads := 0, 0
	for range 60000 {
		code := someCode(rnd)
		if Check(code) != nil {
			continue
		}
		taken++
		for n := range 24 {
			data := make([]byte, n)
			rnd.Read(data)
			meta := [api.Metas]uint32{uint32(rnd.Intn(20)), rnd.Uint32()}
			if _, _, err := Exec(code, data, meta); err != nil {
				t.Fatalf("P6: Check took %x, but Exec(%x, %d) = %v", code, data, meta, err)
			}
		}
		for at := 0; at < len(code); at += 8 {
			if code[at] >= 1 && code[at] <= 3 {
				loads++
			}
		}
	}
	if taken < 5000 || loads < 2000 {
		t.Errorf("only %d codes were taken, with %d loads", taken, loads)
	}
}
