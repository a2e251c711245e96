package firewall_test

import (
	"bytes"
	"errors"
	"testing"

	"firewall/api"
	"firewall/firewall"
	"firewall/plain"
)

// The codes of the document's examples.
var (
	retOne   = []byte{0, 0, 0, 0, 0, 0, 0, 1}
	loadOnly = []byte{1, 0, 0, 0, 0, 0, 0, 0, 0, 0, 0, 0, 0, 0, 0, 0}
	loadRet  = []byte{1, 0, 0, 0, 0, 0, 0, 0, 0, 0, 0, 0, 0, 0, 0, 1}
	useOnly  = []byte{8, 0, 0, 0, 0, 0, 0, 0, 0, 0, 0, 0, 0, 0, 0, 0}
	metaOnly = []byte{4, 0, 0, 0, 0, 0, 0, 0}
)

// guarded is len 0; jge 0, t 0, f 1, k 14; ldb 1 from that byte; ret 1.
func guarded(from byte) []byte {
	return []byte{5, 0, 0, 0, 0, 0, 0, 0, 9, 0, 0, 1, 0, 0, 0, 14, 1, 1, 0, 0, 0, 0, 0, from, 0, 0, 0, 0, 0, 0, 0, 1}
}

func TestTheExamplesOfCodes(t *testing.T) {
	for _, c := range []struct {
		code []byte
		kind api.Kind
		at   int
	}{
		{retOne, 0, 0},
		{loadOnly, api.ErrLoad, 0},
		{guarded(13), 0, 0},
		{guarded(14), api.ErrLoad, 2},
		{useOnly, api.ErrUnset, 0},
		{metaOnly, api.ErrJump, 0},
		{nil, api.ErrCode, 0},
	} {
		err := firewall.Check(c.code)
		if kind, at := api.Told(err); kind != c.kind || at != c.at || (err == nil) != (c.kind == 0) {
			t.Errorf("P6: Check(%x) = %v, want %d at %d", c.code, err, c.kind, c.at)
		}
		if kind, at := plain.Check(c.code); kind != c.kind || at != c.at {
			t.Errorf("P6: plain.Check(%x) = %d at %d, want %d at %d", c.code, kind, at, c.kind, c.at)
		}
		var e *api.CodeError
		if err != nil && (!errors.As(err, &e) || !errors.Is(err, c.kind)) {
			t.Errorf("P6: Check(%x) = %v is no *api.CodeError with its kind", c.code, err)
		}
	}
	if v, done, err := firewall.Exec(retOne, nil, [api.Metas]uint32{}); v != api.Accept || done != 1 || err != nil {
		t.Errorf("P7: Exec of ret 1: %d, %d, %v", v, done, err)
	}
	if v, done, err := firewall.Exec(loadRet, nil, [api.Metas]uint32{}); v != api.Drop || done != 1 || err != error(api.TrapLoad) {
		t.Errorf("P7: Exec of a load of no bytes: %d, %d, %v", v, done, err)
	}
}

func TestExecTellsTheKindItself(t *testing.T) {
	for _, c := range []struct {
		code []byte
		done int
		kind api.Kind
	}{
		{nil, 0, api.ErrCode},
		{retOne[:7], 0, api.ErrCode},
		{append(bytes.Clone(retOne), 12, 0, 0, 0, 0, 0, 0, 0), 0, api.ErrCode},
		{useOnly, 1, api.TrapUnset},
		{loadOnly, 1, api.TrapLoad},
		{metaOnly, 1, api.TrapEnd},
	} {
		v, done, err := firewall.Exec(c.code, nil, [api.Metas]uint32{})
		if v != api.Drop || done != c.done || err != error(c.kind) {
			t.Errorf("P7: Exec(%x) = %d, %d, %v, want Drop, %d, %d as the kind itself", c.code, v, done, err, c.done, c.kind)
		}
		if v, done, kind := plain.Exec(c.code, nil, [api.Metas]uint32{}); v != api.Drop || done != c.done || kind != c.kind {
			t.Errorf("P7: plain.Exec(%x) = %d, %d, %d", c.code, v, done, kind)
		}
	}
}

func TestCodesAreOnlyRead(t *testing.T) {
	for _, was := range [][]byte{retOne, loadOnly, loadRet, useOnly, metaOnly, guarded(13), guarded(14), retOne[:5]} {
		code, data := roomy(was), roomy([]byte("the frame's bytes"))
		firewall.Check(code)
		firewall.Exec(code, data, [api.Metas]uint32{1, 2})
		if !untouched(code, was) {
			t.Errorf("P2: Check or Exec wrote into the code %x or behind it", was)
		}
		if !untouched(data, []byte("the frame's bytes")) {
			t.Errorf("P2: Exec of %x wrote into the frame or behind it", was)
		}
	}
}

func TestTheRoomBehindAListIsNotTheCode(t *testing.T) {
	whole := guarded(13)
	for n := range len(whole) {
		if got, want := firewall.Check(whole[:n]), firewall.Check(bytes.Clone(whole[:n])); got == nil || got.Error() != want.Error() {
			t.Errorf("P2: Check of %d bytes with room behind: %v, want %v", n, got, want)
		}
	}
	data := []byte{0, 0, 0}
	if _, _, err := firewall.Exec(loadRet, data[:0], [api.Metas]uint32{}); err != error(api.TrapLoad) {
		t.Errorf("P2: a load of the room behind the frame: %v", err)
	}
	if _, done, err := firewall.Exec(loadRet[:8], data, [api.Metas]uint32{}); done != 1 || err != error(api.TrapEnd) {
		t.Errorf("P2: a code that goes on in the room behind it: %d, %v", done, err)
	}
}

func TestNoRunHangsOnRunsAhead(t *testing.T) {
	setsAll := []byte{5, 0, 0, 0, 0, 0, 0, 0, 5, 1, 0, 0, 0, 0, 0, 0, 5, 2, 0, 0, 0, 0, 0, 0, 5, 3, 0, 0, 0, 0, 0, 0, 0, 0, 0, 0, 0, 0, 0, 1}
	for range 2 {
		if _, _, err := firewall.Exec(setsAll, nil, [api.Metas]uint32{}); err != nil {
			t.Fatalf("P7: %v", err)
		}
		if _, done, err := firewall.Exec(useOnly, nil, [api.Metas]uint32{}); done != 1 || err != error(api.TrapUnset) {
			t.Errorf("P2: a register that a run ahead had set: %d, %v", done, err)
		}
		if err := firewall.Check(setsAll); err != nil {
			t.Errorf("P6: %v", err)
		}
		if err := firewall.Check(useOnly); !errors.Is(err, api.ErrUnset) {
			t.Errorf("P2: Check behind another Check: %v", err)
		}
	}
	first, second := firewall.Check(useOnly), firewall.Check(useOnly)
	var e *api.CodeError
	if errors.As(first, &e) {
		e.At, e.Kind = 99, api.ErrArg
	}
	if kind, at := api.Told(second); kind != api.ErrUnset || at != 0 {
		t.Errorf("P2: what the caller writes into an error stands in another: %d at %d", kind, at)
	}
}
