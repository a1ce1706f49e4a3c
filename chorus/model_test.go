package chorus_test

import (
	"math/rand"
	"slices"
	"sort"
	"testing"

	"chorus/api"
	"chorus/chorus"
	"chorus/wire"
)

// model is a second reading of P7 to P11, written for plainness: everything is a list that is searched from its head. It knows one view.
type model struct {
	n, window, limit int
	frames           []modelFrame
	procs            []modelProc
}

type modelFrame struct {
	to int
	s  string
}

type modelProc struct {
	up       bool
	promised int
	rows     [][]int
	held     []api.Msg
	events   []api.Event
}

func newModel(n, window, limit int) *model {
	m := &model{n: n, window: window, limit: limit, procs: make([]modelProc, n)}
	for p := range m.procs {
		m.procs[p].up = true
		for range n {
			m.procs[p].rows = append(m.procs[p].rows, make([]int, n))
		}
	}
	return m
}

func (m *model) send(f api.Frame) {
	s, _ := wire.Encode(f)
	if len(m.frames) < m.limit {
		m.frames = append(m.frames, modelFrame{f.To, s})
	}
}

func (m *model) stable(p int, x api.Msg) bool {
	for _, row := range m.procs[p].rows {
		if row[x.Sender] < x.Seq {
			return false
		}
	}
	return true
}

func (m *model) clean(p int) {
	var keep []api.Msg
	for _, x := range m.procs[p].held {
		if !m.stable(p, x) {
			keep = append(keep, x)
		}
	}
	m.procs[p].held = keep
}

func (m *model) cast(p int, text string) api.Errno {
	x := &m.procs[p]
	own := 0
	for _, h := range x.held {
		if h.Sender == p {
			own++
		}
	}
	if !x.up {
		return api.ErrDown
	}
	if len(text) > 16 {
		return api.ErrLarge
	}
	if x.rows[p][p] == 20 {
		return api.ErrExhausted
	}
	if own >= m.window {
		return api.ErrFull
	}
	x.rows[p][p]++
	c := api.Msg{Sender: p, Seq: x.rows[p][p], Time: append([]int{}, x.rows[p]...), Text: text}
	x.held = slices.DeleteFunc(x.held, func(h api.Msg) bool { return h.Sender == p && h.Seq == c.Seq })
	x.held = append(x.held, c)
	x.events = append(x.events, api.Event{Kind: api.ECast, From: p, Seq: c.Seq, Text: text})
	m.clean(p)
	for q := range m.n {
		if q != p {
			m.send(data(p, q, x.rows[p], c))
		}
	}
	return api.OK
}

func (m *model) tick(p int) api.Errno {
	x := &m.procs[p]
	if !x.up {
		return api.ErrDown
	}
	held := slices.Clone(x.held)
	sort.Slice(held, func(i, j int) bool { return held[i].Sender*100+held[i].Seq < held[j].Sender*100+held[j].Seq })
	for q := range m.n {
		if q == p {
			continue
		}
		m.send(api.Frame{Kind: api.FGossip, From: p, To: q, Ballot: x.promised, Row: x.rows[p]})
		for _, h := range held {
			if x.rows[q][h.Sender] < h.Seq {
				m.send(data(p, q, x.rows[p], h))
			}
		}
	}
	return api.OK
}

func (m *model) fit(p int, f api.Frame) bool {
	if f.To != p || f.From == p || f.From >= m.n || f.Members >= 1<<m.n || f.View != 0 || len(f.Row) != m.n {
		return false
	}
	if len(f.Cut) != 0 && len(f.Cut) != m.n {
		return false
	}
	for _, x := range f.Msgs {
		if x.Sender >= m.n || len(x.Time) != m.n || x.Time[x.Sender] != x.Seq {
			return false
		}
	}
	return f.Kind == api.FGossip || len(f.Msgs) == 1
}

func (m *model) arrive(p int, s string) {
	x := &m.procs[p]
	f, e := wire.Decode(s)
	if !x.up || e != api.OK || !m.fit(p, f) {
		return
	}
	for i, r := range f.Row {
		if x.rows[f.From][i] < r {
			x.rows[f.From][i] = r
		}
	}
	m.clean(p)
	if f.Kind == api.FGossip {
		if f.Ballot > x.promised {
			x.promised = f.Ballot
		}
		return
	}
	held := false
	for _, h := range x.held {
		held = held || h.Sender == f.Msgs[0].Sender && h.Seq == f.Msgs[0].Seq
	}
	if !held {
		x.held = append(x.held, f.Msgs[0])
	}
	for m.deliverOne(p) {
	}
	m.clean(p)
}

func (m *model) deliverOne(p int) bool {
	x := &m.procs[p]
	best := -1
	for i, h := range x.held {
		can := h.Seq == x.rows[p][h.Sender]+1
		for q := range m.n {
			can = can && (q == h.Sender || h.Time[q] <= x.rows[p][q])
		}
		if can && (best < 0 || h.Sender < x.held[best].Sender) {
			best = i
		}
	}
	if best < 0 {
		return false
	}
	h := x.held[best]
	x.rows[p][h.Sender]++
	x.events = append(x.events, api.Event{Kind: api.EDeliver, From: h.Sender, Seq: h.Seq, Text: h.Text})
	return true
}

func (m *model) take(k int) modelFrame {
	f := m.frames[k]
	m.frames = append(append([]modelFrame{}, m.frames[:k]...), m.frames[k+1:]...)
	return f
}

func wantModel(t *testing.T, g *chorus.Group, m *model) {
	t.Helper()
	if g.Flight() != len(m.frames) {
		t.Fatalf("P7: Flight = %d, want %d", g.Flight(), len(m.frames))
	}
	for k, f := range m.frames {
		if bytesOf(t, g, k) != f.s {
			want, _ := wire.Decode(f.s)
			t.Fatalf("P7: frame %d is %+v, want %+v", k, frameOf(t, g, k), want)
		}
	}
	for p, x := range m.procs {
		is := state(t, g, p)
		if is.Up != x.up || is.Held != len(x.held) || !slices.Equal(is.Row, x.rows[p]) || is.Members != 1<<m.n-1 || is.View != 0 {
			t.Fatalf("P8: process %d is at %+v, want %+v", p, is, x)
		}
		wantEvents(t, g, p, x.events...)
	}
}

// spoil changes a frame here and there, without changing its length or making a kind of it that this model does not know.
func spoil(r *rand.Rand, n int, f *api.Frame) {
	entry := func(l []int) {
		if len(l) > 0 {
			l[r.Intn(len(l))] = r.Intn(5)
		}
	}
	switch r.Intn(9) {
	case 0:
		f.From = r.Intn(6)
	case 1:
		f.View = r.Intn(2)
	case 2:
		f.Ballot = r.Intn(30)
	case 3:
		f.Members = r.Intn(64)
	case 4:
		f.Kind = 1 + r.Intn(2)
	case 5, 6:
		entry(f.Row)
	case 7, 8:
		for i := range f.Msgs {
			x := &f.Msgs[i]
			entry(x.Time)
			x.Sender = r.Intn(n)
			x.Seq = max(1, x.Time[x.Sender])
			x.Time[x.Sender] = x.Seq
		}
	}
}

func TestDrawnStepsAgainstTheModel(t *testing.T) {
	r := rand.New(rand.NewSource(3))
	for run := range 150 {
		n, window, limit := 1+r.Intn(6), 1+r.Intn(8), []int{3, 30, 400}[r.Intn(3)]
		g, m := group(t, n, window, limit), newModel(n, window, limit)
		for range 150 {
			step(t, r, g, m, run%2 == 1)
			wantModel(t, g, m)
		}
	}
}

// step lets one drawn thing happen to the group and to the model.
func step(t *testing.T, r *rand.Rand, g *chorus.Group, m *model, forging bool) {
	t.Helper()
	p := r.Intn(m.n)
	switch c := r.Intn(40); {
	case c < 9:
		text := string(make([]byte, r.Intn(18)))
		wantErr(t, "P9: Cast", g.Cast(p, text), m.cast(p, text))
	case c < 14:
		wantErr(t, "P11: Tick", g.Tick(p), m.tick(p))
	case c == 14 && r.Intn(4) == 0:
		want := api.OK
		if !m.procs[p].up {
			want = api.ErrDown
		}
		wantErr(t, "P8: Crash", g.Crash(p), want)
		m.procs[p].up = false
	case len(m.frames) == 0:
		wantErr(t, "P7: Deliver", g.Deliver(0), api.ErrNone)
	case c == 15:
		k := r.Intn(len(m.frames))
		m.take(k)
		wantErr(t, "P7: Drop", g.Drop(k), api.OK)
	case c == 16:
		k := r.Intn(len(m.frames))
		if len(m.frames) < m.limit {
			m.frames = append(m.frames, m.frames[k])
		}
		wantErr(t, "P7: Copy", g.Copy(k), api.OK)
	case c < 22 && forging:
		k := r.Intn(len(m.frames))
		f := frameOf(t, g, k)
		spoil(r, m.n, &f)
		forge(t, g, k, f)
		m.frames[k].s = encode(t, f)
	default:
		k := r.Intn(len(m.frames))
		f := m.take(k)
		m.arrive(f.to, f.s)
		wantErr(t, "P7: Deliver", g.Deliver(k), api.OK)
	}
}
