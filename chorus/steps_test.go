package chorus_test

import (
	"math/rand"
	"testing"

	"chorus/api"
	"chorus/chorus"
)

func TestDrawnStepsAgainstTheModel(t *testing.T) {
	t.Parallel()
	r := rand.New(rand.NewSource(3))
	changed, out := 0, 0
	for run := range 400 {
		n, window, limit := 1+max(r.Intn(6), r.Intn(6)), 1+r.Intn(8), []int{5, 40, 400, 400}[r.Intn(4)]
		g, m := group(t, n, window, limit), newModel(n, window, limit)
		for range 200 {
			step(t, r, g, m, run%3 == 1)
			wantModel(t, g, m)
		}
		for _, x := range m.procs {
			changed += x.view
			if x.out {
				out++
			}
		}
	}
	if changed < 200 || out < 50 {
		t.Errorf("the test is wrong: views were installed %d times, and %d were excluded", changed, out)
	}
}

// step lets one drawn thing happen to the group and to the model.
func step(t *testing.T, r *rand.Rand, g *chorus.Group, m *model, forging bool) {
	t.Helper()
	p := min(r.Intn(m.n), r.Intn(m.n)) // the lower ones are those that change views
	switch c := r.Intn(60); {
	case c < 6:
		text := string(make([]byte, r.Intn(18)))
		wantErr(t, "P9: Cast", g.Cast(p, text), m.cast(p, text))
	case c < 15:
		wantErr(t, "P11: Tick", g.Tick(p), m.tick(p))
	case c == 15 && r.Intn(6) == 0:
		want := api.OK
		if !m.procs[p].up {
			want = api.ErrDown
		}
		wantErr(t, "P8: Crash", g.Crash(p), want)
		m.procs[p].up = false
	case c == 16:
		q := suspicious(r, m)
		wantErr(t, "P12: Suspect", g.Suspect(p, q), m.suspect(p, q))
	case c == 17 && r.Intn(2) == 0:
		round(t, g, m.round())
	default:
		befallBoth(t, r, g, m, forging)
	}
}

// befallBoth lets something drawn happen to a frame in flight, in the group and in the model; older frames are drawn more often.
func befallBoth(t *testing.T, r *rand.Rand, g *chorus.Group, m *model, forging bool) {
	t.Helper()
	if len(m.frames) == 0 {
		wantErr(t, "P7: Deliver", g.Deliver(0), api.ErrNone)
		return
	}
	k := drawFrame(t, r, g)
	switch c := r.Intn(20); {
	case c == 0:
		m.take(k)
		wantErr(t, "P7: Drop", g.Drop(k), api.OK)
	case c == 1:
		if len(m.frames) < m.limit {
			m.frames = append(m.frames, m.frames[k])
		}
		wantErr(t, "P7: Copy", g.Copy(k), api.OK)
	case c < 6 && forging:
		f := frameOf(t, g, k)
		spoil(r, m, &f)
		forge(t, g, k, f)
		m.frames[k].s = encode(t, f)
	default:
		f := m.take(k)
		m.arrive(f.to, f.s)
		wantErr(t, "P7: Deliver", g.Deliver(k), api.OK)
	}
}

// suspicious is one that may be suspected: mostly one that has crashed, else a high one, as all of them suspecting all gets nowhere.
func suspicious(r *rand.Rand, m *model) int {
	for q, x := range m.procs {
		if !x.up && r.Intn(3) > 0 {
			return q
		}
	}
	return max(r.Intn(m.n), r.Intn(m.n))
}

// spoil changes a frame here and there, without changing its length.
func spoil(r *rand.Rand, m *model, f *api.Frame) {
	entry := func(l []int) {
		if len(l) > 0 {
			l[r.Intn(len(l))] = r.Intn(5)
		}
	}
	switch r.Intn(12) {
	case 0:
		f.From = r.Intn(6)
	case 1:
		f.View = r.Intn(2 + m.procs[r.Intn(m.n)].view)
	case 2:
		f.Ballot = max(0, m.procs[r.Intn(m.n)].promised-1+r.Intn(3))
	case 3:
		f.Members = r.Intn(64)
	case 4:
		f.Members = r.Intn(1 << m.n)
	case 5:
		f.Kind = 1 + r.Intn(7)
	case 6:
		f.Kind, f.Row, f.Cut = 1+r.Intn(7), f.Cut, f.Row
	case 7:
		f.Voted = r.Intn(20)
	case 8:
		entry(f.Row)
	case 9:
		entry(f.Cut)
	default:
		for i := range f.Msgs {
			h := &f.Msgs[i]
			entry(h.Time)
			h.Sender = r.Intn(m.n)
			h.Seq = max(1, h.Time[h.Sender])
			h.Time[h.Sender] = h.Seq
		}
	}
}
