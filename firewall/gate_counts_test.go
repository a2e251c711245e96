package firewall

import (
	"math"
	"testing"

	"firewall/api"
)

// The counts' ends are too far away for frames alone: so this test stands within the package.
func TestCountsGoRound(t *testing.T) {
	g, err := New(1, nil)
	if err != nil {
		t.Fatal(err)
	}
	top := uint64(math.MaxUint64)
	g.counts = api.Counts{Accepted: top, Dropped: top, Rejected: top, Malformed: top}
	if err := g.Load("policy drop\naccept in 1\nreject in 2"); err != nil {
		t.Fatal(err)
	}
	f, err := Build(api.Header{Proto: api.UDP}, nil)
	if err != nil {
		t.Fatal(err)
	}
	for _, step := range []struct {
		iface uint8
		data  []byte
		want  api.Counts
	}{
		{0, f, api.Counts{Accepted: top, Dropped: 0, Rejected: top, Malformed: top}},
		{1, f, api.Counts{Accepted: 0, Dropped: 0, Rejected: top, Malformed: top}},
		{2, f, api.Counts{Accepted: 0, Dropped: 0, Rejected: 0, Malformed: top}},
		{1, nil, api.Counts{Accepted: 0, Dropped: 0, Rejected: 0, Malformed: 0}},
		{1, f, api.Counts{Accepted: 1, Dropped: 0, Rejected: 0, Malformed: 0}},
	} {
		g.Frame(step.iface, step.data)
		if g.Counts() != step.want {
			t.Errorf("P12: Counts = %+v, want %+v", g.Counts(), step.want)
		}
	}
}
