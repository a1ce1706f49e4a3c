package chorus_test

import (
	"math/rand"
	"slices"
	"testing"

	"chorus/api"
	"chorus/chorus"
)

// drawFrame is the number of a frame in flight; those about the change of a view are drawn more often, and older ones too.
func drawFrame(t *testing.T, r *rand.Rand, g *chorus.Group) int {
	t.Helper()
	if r.Intn(2) == 0 {
		for k := range g.Flight() {
			if bytesOf(t, g, k)[0] >= api.FFlush && r.Intn(2) == 0 {
				return k
			}
		}
	}
	return r.Intn(1 + r.Intn(g.Flight()))
}

// befall lets something drawn happen to a frame in flight; a spoilt one arrives at once.
func befall(t *testing.T, r *rand.Rand, g *chorus.Group) {
	t.Helper()
	k := drawFrame(t, r, g)
	switch r.Intn(16) {
	case 0:
		wantErr(t, "P7: Drop", g.Drop(k), api.OK)
	case 1:
		wantErr(t, "P7: Copy", g.Copy(k), api.OK)
	case 2:
		wantErr(t, "P7: Corrupt", g.Corrupt(k, r.Intn(20), 1+r.Intn(255)), api.OK)
		deliver(t, g, k)
	default:
		deliver(t, g, k)
	}
}

func TestCausalOrderAndNothingIsLost(t *testing.T) {
	r := rand.New(rand.NewSource(11))
	for range 60 {
		n := 2 + r.Intn(5)
		g := group(t, n, 1+r.Intn(8), 800)
		for range 200 {
			switch c := r.Intn(12); {
			case c < 2:
				g.Cast(r.Intn(n), string(rune('a'+r.Intn(26))))
			case c < 4:
				tick(t, g, r.Intn(n))
			case g.Flight() > 0:
				befall(t, r, g)
			}
		}
		for range 6 {
			for p := range n {
				tick(t, g, p)
				deliverAll(t, g)
			}
		}
		wantAgreed(t, g, n)
	}
}

// wantAgreed: all hold nothing, have delivered the same messages, and each behind what its caster had delivered ahead of it.
func wantAgreed(t *testing.T, g *chorus.Group, n int) {
	t.Helper()
	first := look(t, g)
	for p := range n {
		if x := first.procs[p]; x.Held != 0 || !slices.Equal(x.Row, first.procs[0].Row) {
			t.Fatalf("P11: in the end process %d is at %+v, process 0 at %+v", p, x, first.procs[0])
		}
		if len(first.events[p]) != len(first.events[0]) {
			t.Fatalf("P10: %d has %d events, 0 has %d", p, len(first.events[p]), len(first.events[0]))
		}
		for i, e := range first.events[p] {
			cast := place(first.events[e.From], e)
			if cast < 0 || first.events[e.From][cast].Kind != api.ECast || first.events[e.From][cast].Text != e.Text || place(first.events[p], e) != i {
				t.Fatalf("P10: %+v at %d was not cast so, or is there twice", e, p)
			}
			for _, ahead := range first.events[e.From][:cast] {
				if place(first.events[p], ahead) > i {
					t.Fatalf("P10: process %d has %+v ahead of %+v", p, e, ahead)
				}
			}
		}
	}
}

// place is where a message stands first in a list of events.
func place(l []api.Event, e api.Event) int {
	return slices.IndexFunc(l, func(o api.Event) bool { return o.From == e.From && o.Seq == e.Seq })
}
