package machine

import (
	"errors"
	"math/rand"
	"testing"

	"firewall/api"
)

type checkCase struct {
	name string
	code []byte
	kind api.Kind
	at   int
}

func runChecks(t *testing.T, cases []checkCase) {
	t.Helper()
	for _, c := range cases {
		err := Check(c.code)
		if c.kind == 0 {
			if err != nil {
				t.Errorf("P6: %s: %v, want nil", c.name, err)
			}
			continue
		}
		var e *api.CodeError
		if !errors.As(err, &e) || *e != (api.CodeError{At: c.at, Kind: c.kind}) || !errors.Is(err, c.kind) {
			t.Errorf("P6: %s: %v, want %d at %d", c.name, err, c.kind, c.at)
		}
		if kind, at := toldCheck(c.code); kind != c.kind || at != c.at {
			t.Errorf("%s: the test's own Check tells %d at %d, want %d at %d", c.name, kind, at, c.kind, c.at)
		}
	}
}

func TestCheckJumps(t *testing.T) {
	far := make([][5]int, 256)
	for i := range far {
		far[i] = retI(0)
	}
	runChecks(t, []checkCase{
		{"ret alone", asm(retI(0)), 0, 0},
		{"the document's ldm alone", asm(ldmI(0, 0)), api.ErrJump, 0},
		{"ldb at the end", asm(retI(0), ldbI(0, 0)), api.ErrJump, 1},
		{"len at the end", asm(retI(0), lenI(0)), api.ErrJump, 1},
		{"and at the end", asm(lenI(0), andI(0, 1)), api.ErrJump, 1},
		{"shr at the end", asm(lenI(0), shrI(0, 1)), api.ErrJump, 1},
		{"jmp at the end", asm(retI(0), jmpI(0)), api.ErrJump, 1},
		{"jeq at the end", asm(lenI(0), jeqI(0, 0, 0, 1)), api.ErrJump, 1},
		{"jmp over none", asm(jmpI(0), retI(0)), 0, 0},
		{"jmp to the last", asm(jmpI(1), retI(0), retI(0)), 0, 0},
		{"jmp behind the last", asm(jmpI(2), retI(0), retI(0)), api.ErrJump, 0},
		{"jmp over the greatest number", asm(jmpI(top), retI(0)), api.ErrJump, 0},
		{"jmp over 2^31", asm(jmpI(1<<31), retI(0)), api.ErrJump, 0},
		{"the way t behind the last", asm(lenI(0), jgeI(0, 1, 0, 1), retI(0)), api.ErrJump, 1},
		{"the way f behind the last", asm(lenI(0), jsetI(0, 0, 1, 1), retI(0)), api.ErrJump, 1},
		{"both ways to the last", asm(lenI(0), jeqI(0, 1, 1, 1), retI(0), retI(0)), 0, 0},
		{"the way t over 255", asm(append([][5]int{lenI(0), jgeI(0, 255, 0, 1)}, far...)...), 0, 0},
		{"the way t over 255 of 254", asm(append([][5]int{lenI(0), jgeI(0, 255, 0, 1)}, far[1:]...)...), api.ErrJump, 1},
		{"the way f over 255", asm(append([][5]int{lenI(0), jgeI(0, 0, 255, 1)}, far...)...), 0, 0},
		{"the first of two", asm(jmpI(5), jmpI(5), retI(0)), api.ErrJump, 0},
		{"one that none leads to", asm(jmpI(1), jmpI(9), retI(0)), api.ErrJump, 1},
		{"no instruction goes ahead of a jump", asm(jmpI(9), retI(3)), api.ErrCode, 1},
	})
}

func TestCheckRegisters(t *testing.T) {
	var cases []checkCase
	for r := range 4 {
		for _, use := range [][5]int{andI(r, 1), shrI(r, 1), jeqI(r, 0, 0, 0), jgeI(r, 0, 0, 0), jsetI(r, 0, 0, 0)} {
			cases = append(cases, checkCase{"a use of one that is not set", asm(use, retI(0)), api.ErrUnset, 0})
			cases = append(cases, checkCase{"another one is set", asm(lenI((r+1)%4), use, retI(0)), api.ErrUnset, 1})
			cases = append(cases, checkCase{"set by ldm", asm(ldmI(r, 1), use, retI(0)), 0, 0})
			cases = append(cases, checkCase{"set by len", asm(lenI(r), use, use, retI(0)), 0, 0})
			for _, load := range [][5]int{ldbI(r, 0), ldhI(r, 0), ldwI(r, 0)} {
				other := (r + 1) % 4
				cases = append(cases, checkCase{"set by a load", asm(lenI(other), jgeI(other, 0, 2, 4), load, use, retI(0)), 0, 0})
			}
		}
	}
	runChecks(t, cases)
	runChecks(t, []checkCase{
		{"set by the way f alone", asm(lenI(0), jgeI(0, 1, 0, 5), ldmI(1, 0), jeqI(1, 0, 0, 0), retI(0)), api.ErrUnset, 3},
		{"set by the way t alone", asm(lenI(0), jgeI(0, 0, 1, 5), ldmI(1, 0), jeqI(1, 0, 0, 0), retI(0)), api.ErrUnset, 3},
		{"set by both ways", asm(lenI(0), jgeI(0, 0, 2, 5), ldmI(1, 0), jmpI(1), ldmI(1, 1), andI(1, 1), retI(0)), 0, 0},
		{"another one set by each way", asm(lenI(0), jgeI(0, 0, 2, 5), ldmI(1, 0), jmpI(1), ldmI(2, 1), andI(1, 1), retI(0)), api.ErrUnset, 5},
		{"the way without it ends", asm(lenI(0), jgeI(0, 1, 0, 5), retI(0), ldmI(1, 0), andI(1, 1), retI(0)), 0, 0},
		{"set where none leads", asm(jmpI(1), ldmI(0, 0), andI(0, 1), retI(0)), api.ErrUnset, 2},
		{"one that none leads to leads to it, too", asm(lenI(0), jmpI(1), jmpI(0), andI(0, 1), retI(0)), 0, 0},
		{"a use where none leads", asm(retI(0), andI(0, 1), retI(0)), 0, 0},
		{"a use behind a use where none leads", asm(jmpI(1), andI(0, 1), retI(0)), 0, 0},
		{"both ways of a jump lead on, though one cannot be taken", asm(lenI(0), jgeI(0, 1, 0, 0), andI(1, 1), retI(0)), api.ErrUnset, 2},
		{"jset with k 0 leads by t", asm(lenI(0), jsetI(0, 1, 0, 0), retI(0), andI(1, 1), retI(0)), api.ErrUnset, 3},
		{"the first of two", asm(andI(2, 1), andI(3, 1), retI(0)), api.ErrUnset, 0},
		{"a load that fails behind it", asm(andI(2, 1), ldbI(0, 0), retI(0)), api.ErrUnset, 0},
		{"a load that fails ahead of it", asm(ldbI(0, 0), andI(2, 1), retI(0)), api.ErrLoad, 0},
		{"a jump goes ahead of it", asm(andI(2, 1), jmpI(7), retI(0)), api.ErrJump, 1},
	})
}

func TestCheckLoads(t *testing.T) {
	guard := func(k int, rest ...[5]int) []byte {
		return asm(append([][5]int{lenI(0), jgeI(0, 0, len(rest)-1, k)}, rest...)...)
	}
	runChecks(t, []checkCase{
		{"the document's ldb", asm(ldbI(0, 0), retI(0)), api.ErrLoad, 0},
		{"the document's 13", guard(14, ldbI(1, 13), retI(1)), 0, 0},
		{"the document's 14", guard(14, ldbI(1, 14), retI(1)), api.ErrLoad, 2},
		{"ldh that ends there", guard(14, ldhI(1, 12), retI(1)), 0, 0},
		{"ldh that ends beyond", guard(14, ldhI(1, 13), retI(1)), api.ErrLoad, 2},
		{"ldw that ends there", guard(14, ldwI(1, 10), retI(1)), 0, 0},
		{"ldw that ends beyond", guard(14, ldwI(1, 11), retI(1)), api.ErrLoad, 2},
		{"ldb that ends at the greatest number", guard(top, ldbI(1, top-1), retI(1)), 0, 0},
		{"ldb from the greatest number", guard(top, ldbI(1, top), retI(1)), api.ErrLoad, 2},
		{"ldh from the greatest number but one", guard(top, ldhI(1, top-1), retI(1)), api.ErrLoad, 2},
		{"ldw over the greatest number", guard(top, ldwI(1, top-2), retI(1)), api.ErrLoad, 2},
		{"jge with 0", guard(0, ldbI(1, 0), retI(1)), api.ErrLoad, 2},
		{"the way f", asm(lenI(0), jgeI(0, 1, 0, 14), ldbI(1, 13), retI(1)), api.ErrLoad, 2},
		{"both ways", asm(lenI(0), jgeI(0, 0, 0, 14), ldbI(1, 13), retI(1)), api.ErrLoad, 2},
		{"jeq by the way t", asm(lenI(0), jeqI(0, 0, 1, 14), ldbI(1, 13), retI(1)), 0, 0},
		{"jeq by the way t, beyond", asm(lenI(0), jeqI(0, 0, 1, 14), ldbI(1, 14), retI(1)), api.ErrLoad, 2},
		{"jeq by the way f", asm(lenI(0), jeqI(0, 1, 0, 14), ldbI(1, 13), retI(1)), api.ErrLoad, 2},
		{"jset", asm(lenI(0), jsetI(0, 0, 1, 1<<30), ldbI(1, 0), retI(1)), api.ErrLoad, 2},
		{"a load where none leads", asm(retI(0), ldbI(0, 99), retI(0)), 0, 0},
		{"another register has the length", asm(lenI(0), ldmI(1, 0), jgeI(1, 0, 1, 14), ldbI(2, 0), retI(1)), api.ErrLoad, 3},
		{"register 3 has the length", asm(lenI(3), jgeI(3, 0, 1, 14), ldbI(2, 13), retI(1)), 0, 0},
	})
	runChecks(t, []checkCase{
		{"ldm takes the length away", asm(lenI(0), ldmI(0, 0), jgeI(0, 0, 1, 14), ldbI(1, 0), retI(0)), api.ErrLoad, 3},
		{"and takes it away", asm(lenI(0), andI(0, top), jgeI(0, 0, 1, 14), ldbI(1, 0), retI(0)), api.ErrLoad, 3},
		{"shr takes it away", asm(lenI(0), shrI(0, 0), jgeI(0, 0, 1, 14), ldbI(1, 0), retI(0)), api.ErrLoad, 3},
		{"len gives it again", asm(lenI(0), shrI(0, 0), lenI(0), jgeI(0, 0, 1, 14), ldbI(1, 13), retI(0)), 0, 0},
		{"a jump leaves it", asm(lenI(0), jsetI(0, 0, 0, 1), jeqI(0, 0, 0, 9), jgeI(0, 0, 0, 9), jmpI(0), jgeI(0, 0, 1, 14), ldbI(1, 13), retI(0)), 0, 0},
		{"of another register it leaves it", asm(lenI(0), ldmI(1, 0), andI(1, 1), shrI(1, 1), jgeI(0, 0, 1, 14), ldbI(1, 13), retI(0)), 0, 0},
		{"what is there stays when the register is lost", asm(lenI(0), jgeI(0, 0, 3, 14), ldmI(0, 0), andI(0, 1), ldbI(1, 13), retI(0)), 0, 0},
		{"a smaller jge behind", asm(lenI(0), jgeI(0, 0, 2, 20), jgeI(0, 0, 1, 14), ldbI(1, 19), retI(0)), 0, 0},
		{"a smaller jge behind, its way f", asm(lenI(0), jgeI(0, 0, 2, 20), jgeI(0, 1, 0, 14), ldbI(1, 19), retI(0)), 0, 0},
		{"a greater jge behind", asm(lenI(0), jgeI(0, 0, 2, 14), jgeI(0, 0, 1, 20), ldbI(1, 19), retI(0)), 0, 0},
		{"the way with the fewest comes first", asm(lenI(0), jgeI(0, 0, 4, 10), jgeI(0, 0, 1, 20), jmpI(1), jmpI(0), ldbI(1, 10), retI(0)), api.ErrLoad, 5},
		{"the way with the fewest comes last", asm(lenI(0), jgeI(0, 0, 4, 10), jgeI(0, 1, 0, 20), jmpI(1), jmpI(0), ldbI(1, 10), retI(0)), api.ErrLoad, 5},
		{"as many as by the way with the fewest", asm(lenI(0), jgeI(0, 0, 4, 10), jgeI(0, 0, 1, 20), jmpI(1), jmpI(0), ldbI(1, 9), retI(0)), 0, 0},
		{"the length by one way alone", asm(lenI(0), ldmI(1, 0), jeqI(1, 1, 0, 7), ldmI(0, 0), jgeI(0, 0, 1, 14), ldbI(2, 13), retI(0)), api.ErrLoad, 5},
		{"the length by both ways", asm(ldmI(1, 0), jeqI(1, 0, 2, 7), lenI(0), jmpI(1), lenI(0), jgeI(0, 0, 1, 14), ldbI(2, 13), retI(0)), 0, 0},
		// Each way alone would do: by one 20 bytes are there, by the other the register has the length. What is sure is told ahead of each instruction, so neither is.
		{"ways are held together at each instruction", asm(lenI(0), jgeI(0, 0, 1, 20), ldmI(0, 0), jgeI(0, 0, 1, 14), ldbI(1, 13), retI(0)), api.ErrLoad, 4},
		{"one that none leads to takes nothing away", asm(lenI(0), jmpI(1), ldmI(0, 0), jgeI(0, 0, 1, 14), ldbI(1, 13), retI(0)), 0, 0},
		{"the first of two", asm(lenI(0), ldbI(1, 0), ldbI(1, 0), retI(0)), api.ErrLoad, 1},
	})
}

func TestCheckOfALongCode(t *testing.T) {
	list := [][5]int{lenI(0), ldmI(1, 0)}
	for len(list) < api.MaxCode-1 {
		list = append(list, jeqI(1, 0, 0, len(list)))
	}
	list = append(list, retI(1))
	if err := Check(asm(list...)); err != nil {
		t.Errorf("P6: a code with 2^4093 ways through it: %v", err)
	}
	list[api.MaxCode-2] = andI(2, 1)
	if kind, at := api.Told(Check(asm(list...))); kind != api.ErrUnset || at != api.MaxCode-2 {
		t.Errorf("P6: a fault at its end: %d at %d", kind, at)
	}
}

func TestCheckAgainstTheWords(t *testing.T) {
	rnd := rand.New(rand.NewSource(5))
	seen := map[api.Kind]int{}
	for range 60000 {
		code := spoilt(rnd, someCode(rnd))
		kind, at := toldCheck(code)
		seen[kind]++
		gotKind, gotAt := api.Told(Check(code))
		if gotKind != kind || gotAt != at {
			t.Fatalf("P6: Check(%x) = %d at %d, want %d at %d", code, gotKind, gotAt, kind, at)
		}
	}
	for _, kind := range []api.Kind{0, api.ErrCode, api.ErrJump, api.ErrUnset, api.ErrLoad} {
		if seen[kind] < 1000 {
			t.Errorf("only %d codes were of kind %d", seen[kind], kind)
		}
	}
}
