package chorus_test

import (
	"slices"
	"sort"
	"testing"

	"chorus/api"
	"chorus/chorus"
	"chorus/wire"
)

// model is a second reading of P7 to P15, written for plainness: sets are lists, and every list is searched from its head.
type model struct {
	n, window, limit int
	frames           []modelFrame
	procs            []*modelProc
}

type modelFrame struct {
	to int
	s  string
}

type modelProc struct {
	up, out, blocked  bool
	view, promised    int
	members, suspects []int
	rows              [][]int
	held              []api.Msg
	events            []api.Event
	vote              modelVote
	// What it leads: 0 is no ballot.
	ballot              int
	gathers             bool
	leftOut, asked, yes []int
	answers             []modelAnswer
	// Of each view that it has left the frame that tells so.
	past []api.Frame
}

type modelVote struct {
	ballot, members int
	cut             []int
}

type modelAnswer struct {
	from int
	row  []int
	vote modelVote
}

func newModel(n, window, limit int) *model {
	m := &model{n: n, window: window, limit: limit}
	for range n {
		x := &modelProc{up: true}
		for q := range n {
			x.members = append(x.members, q)
			x.rows = append(x.rows, make([]int, n))
		}
		m.procs = append(m.procs, x)
	}
	return m
}

// number is a list of processes as a frame tells it.
func number(l []int) int {
	sum := 0
	for _, q := range l {
		sum += 1 << q
	}
	return sum
}

// listed are the processes of such a number.
func listed(set int) []int {
	var l []int
	for q := range 6 {
		if set/(1<<q)%2 == 1 {
			l = append(l, q)
		}
	}
	return l
}

// without is what one list has and the other one has not.
func without(l, o []int) []int {
	var rest []int
	for _, q := range l {
		if !slices.Contains(o, q) {
			rest = append(rest, q)
		}
	}
	return rest
}

func (m *model) send(f api.Frame) {
	s, _ := wire.Encode(f)
	if len(m.frames) < m.limit {
		m.frames = append(m.frames, modelFrame{f.To, s})
	}
}

func (m *model) stable(p int, h api.Msg) bool {
	for _, q := range m.procs[p].members {
		if m.procs[p].rows[q][h.Sender] < h.Seq {
			return false
		}
	}
	return true
}

func (m *model) clean(p int) {
	m.procs[p].held = slices.DeleteFunc(m.procs[p].held, func(h api.Msg) bool { return m.stable(p, h) })
}

// told is what p holds up to a cut (nil: all of it), in order.
func (m *model) told(p int, cut []int) []api.Msg {
	var l []api.Msg
	for _, h := range m.procs[p].held {
		if cut == nil || h.Seq <= cut[h.Sender] {
			l = append(l, h)
		}
	}
	sort.Slice(l, func(i, j int) bool { return l[i].Sender*100+l[i].Seq < l[j].Sender*100+l[j].Seq })
	return l
}

func (m *model) data(p, q int, h api.Msg) api.Frame {
	f := data(p, q, m.procs[p].rows[p], h)
	f.View = m.procs[p].view
	return f
}

func (m *model) cast(p int, text string) api.Errno {
	x := m.procs[p]
	own := 0
	for _, h := range x.held {
		if h.Sender == p {
			own++
		}
	}
	if !x.up {
		return api.ErrDown
	}
	if x.out {
		return api.ErrOut
	}
	if len(text) > 16 {
		return api.ErrLarge
	}
	if x.blocked {
		return api.ErrBlocked
	}
	if x.rows[p][p] == 20 {
		return api.ErrExhausted
	}
	if own >= m.window {
		return api.ErrFull
	}
	x.rows[p][p]++
	c := api.Msg{Sender: p, Seq: x.rows[p][p], Time: append([]int{}, x.rows[p]...), Text: text}
	x.held = slices.DeleteFunc(x.held, func(h api.Msg) bool { return h.Sender == p && h.Seq == c.Seq })
	x.held = append(x.held, c)
	x.events = append(x.events, api.Event{Kind: api.ECast, View: x.view, From: p, Seq: c.Seq, Text: text})
	m.clean(p)
	for _, q := range without(x.members, []int{p}) {
		m.send(m.data(p, q, c))
	}
	return api.OK
}

func (m *model) suspect(p, q int) api.Errno {
	x := m.procs[p]
	if p == q {
		return api.ErrSelf
	}
	if !x.up {
		return api.ErrDown
	}
	if x.out {
		return api.ErrOut
	}
	m.suspects(p, []int{q})
	return api.OK
}

func (m *model) suspects(p int, l []int) {
	x := m.procs[p]
	for _, q := range l {
		if q != p && slices.Contains(x.members, q) && !slices.Contains(x.suspects, q) {
			x.suspects = append(x.suspects, q)
		}
	}
	sort.Ints(x.suspects)
}

func (m *model) tick(p int) api.Errno {
	x := m.procs[p]
	if !x.up {
		return api.ErrDown
	}
	if x.out {
		return api.ErrOut
	}
	trusted := without(x.members, x.suspects)
	upToIt := len(x.suspects) > 0 && trusted[0] == p
	if upToIt && (x.ballot == 0 || !slices.Equal(x.suspects, x.leftOut)) && x.promised < 1<<31-8 {
		m.begin(p)
	} else if x.ballot != 0 {
		m.again(p)
	}
	for _, q := range without(x.members, []int{p}) {
		m.send(api.Frame{Kind: api.FGossip, From: p, To: q, View: x.view, Ballot: x.promised, Row: x.rows[p]})
		if x.blocked {
			continue
		}
		for _, h := range m.told(p, nil) {
			if x.rows[q][h.Sender] < h.Seq {
				m.send(m.data(p, q, h))
			}
		}
	}
	return api.OK
}

func (m *model) begin(p int) {
	x := m.procs[p]
	x.ballot = x.promised - x.promised%8 + 8 + p
	x.promised, x.blocked, x.gathers = x.ballot, true, true
	x.leftOut = slices.Clone(x.suspects)
	x.asked = without(x.members, x.suspects)
	x.yes = nil
	x.answers = []modelAnswer{{p, slices.Clone(x.rows[p]), x.vote}}
	m.again(p)
	m.gathered(p)
}

func (m *model) again(p int) {
	x := m.procs[p]
	had := x.yes
	if x.gathers {
		had = nil
		for _, a := range x.answers {
			had = append(had, a.from)
		}
	}
	for _, q := range without(x.asked, had) {
		f := api.Frame{Kind: api.FFlush, From: p, To: q, View: x.view, Ballot: x.ballot, Members: number(x.leftOut)}
		if !x.gathers {
			f.Kind, f.Members, f.Cut, f.Msgs = api.FAccept, x.vote.members, x.vote.cut, m.told(p, x.vote.cut)
		}
		m.send(f)
	}
}

func (m *model) gathered(p int) {
	x := m.procs[p]
	if len(x.answers) < len(x.asked) || 2*len(x.answers) <= len(x.members) {
		return
	}
	v := modelVote{0, number(x.asked), make([]int, m.n)}
	for _, a := range x.answers {
		for q := range m.n {
			v.cut[q] = max(v.cut[q], a.row[q])
		}
	}
	for i := len(x.answers) - 1; i >= 0; i-- {
		if o := x.answers[i].vote; o.ballot != 0 && o.ballot >= v.ballot {
			v = o
		}
	}
	v.ballot = x.ballot
	x.vote, x.gathers, x.yes = v, false, []int{p}
	m.again(p)
	m.accepted(p)
}

func (m *model) accepted(p int) {
	x := m.procs[p]
	if 2*len(x.yes) <= len(x.members) {
		return
	}
	for _, q := range without(x.members, []int{p}) {
		m.send(api.Frame{Kind: api.FInstall, From: p, To: q, View: x.view, Members: x.vote.members, Cut: x.vote.cut, Msgs: m.told(p, x.vote.cut)})
	}
	m.install(p, x.vote.members, x.vote.cut)
}

func (m *model) install(p, members int, cut []int) {
	x := m.procs[p]
	for m.deliverOne(p, cut) {
		m.clean(p)
	}
	x.past = append(x.past, api.Frame{Kind: api.FInstall, From: p, View: x.view, Members: members, Cut: cut, Msgs: m.told(p, cut)})
	if !slices.Contains(listed(members), p) {
		x.out = true
		x.events = append(x.events, api.Event{Kind: api.EExclude, View: x.view})
		return
	}
	y := newModel(m.n, 1, 1).procs[0]
	y.view, y.members, y.past = x.view+1, listed(members), x.past
	y.suspects = without(x.suspects, without(x.suspects, y.members))
	y.events = append(x.events, api.Event{Kind: api.EInstall, View: y.view, Members: members})
	m.procs[p] = y
}

// fit tells whether a frame is fit for p (P7).
func (m *model) fit(p int, f api.Frame) bool {
	if f.To != p || f.From == p || f.From >= m.n || f.Members >= 1<<m.n {
		return false
	}
	for _, l := range [][]int{f.Row, f.Cut} {
		if len(l) != 0 && len(l) != m.n {
			return false
		}
	}
	for _, h := range f.Msgs {
		if h.Sender >= m.n || len(h.Time) != m.n || h.Time[h.Sender] != h.Seq {
			return false
		}
	}
	k := f.Kind
	if k == api.FData && len(f.Msgs) != 1 || (k == api.FData || k == api.FGossip || k == api.FState) && len(f.Row) == 0 {
		return false
	}
	if (k == api.FState && f.Voted != 0 || k == api.FAccept || k == api.FInstall) && len(f.Cut) == 0 {
		return false
	}
	return f.Ballot != 0 || k == api.FData || k == api.FGossip || k == api.FInstall
}

func (m *model) arrive(p int, s string) {
	x := m.procs[p]
	f, e := wire.Decode(s)
	switch {
	case !x.up || x.out || e != api.OK || !m.fit(p, f) || f.View > x.view:
	case f.View < x.view:
		if f.Kind != api.FInstall {
			old := x.past[f.View]
			old.To = f.From
			m.send(old)
		}
	case slices.Contains(x.members, f.From):
		m.handle(p, f)
	}
}

func (m *model) handle(p int, f api.Frame) {
	x := m.procs[p]
	switch f.Kind {
	case api.FGossip:
		m.learn(p, f.From, f.Row)
		if f.Ballot > x.promised {
			x.promised, x.ballot = f.Ballot, 0
		}
	case api.FData:
		m.learn(p, f.From, f.Row)
		m.hold(p, f.Msgs)
		for !x.blocked && m.deliverOne(p, []int{20, 20, 20, 20, 20, 20}) {
			m.clean(p)
		}
	case api.FInstall:
		m.hold(p, f.Msgs)
		m.install(p, f.Members, f.Cut)
	case api.FFlush, api.FAccept:
		m.obey(p, f)
	default:
		m.lead(p, f)
	}
}

// obey is what a process does that another one leads.
func (m *model) obey(p int, f api.Frame) {
	x := m.procs[p]
	if f.Ballot < x.promised {
		return
	}
	if f.Ballot != x.ballot {
		x.ballot = 0
	}
	x.promised, x.blocked = f.Ballot, true
	to := api.Frame{From: p, To: f.From, View: x.view, Ballot: f.Ballot}
	if f.Kind == api.FFlush {
		m.suspects(p, listed(f.Members))
		to.Kind, to.Voted, to.Members, to.Cut = api.FState, x.vote.ballot, x.vote.members, x.vote.cut
		to.Row, to.Msgs = x.rows[p], m.told(p, nil)
	} else {
		x.vote = modelVote{f.Ballot, f.Members, f.Cut}
		m.hold(p, f.Msgs)
		to.Kind = api.FAccepted
	}
	m.send(to)
}

// lead is what a process does about answers in a ballot that it leads.
func (m *model) lead(p int, f api.Frame) {
	x := m.procs[p]
	if f.Ballot != x.ballot || x.gathers != (f.Kind == api.FState) || !slices.Contains(x.asked, f.From) {
		return
	}
	if f.Kind == api.FAccepted {
		if !slices.Contains(x.yes, f.From) {
			x.yes = append(x.yes, f.From)
		}
		m.accepted(p)
		return
	}
	for _, a := range x.answers {
		if a.from == f.From {
			return
		}
	}
	m.learn(p, f.From, f.Row)
	m.hold(p, f.Msgs)
	x.answers = append(x.answers, modelAnswer{f.From, f.Row, modelVote{f.Voted, f.Members, f.Cut}})
	m.gathered(p)
}

func (m *model) learn(p, q int, row []int) {
	for i, r := range row {
		m.procs[p].rows[q][i] = max(m.procs[p].rows[q][i], r)
	}
	m.clean(p)
}

func (m *model) hold(p int, l []api.Msg) {
	x := m.procs[p]
	for _, c := range l {
		held := slices.ContainsFunc(x.held, func(h api.Msg) bool { return h.Sender == c.Sender && h.Seq == c.Seq })
		if !held && !m.stable(p, c) && slices.Contains(x.members, c.Sender) {
			x.held = append(x.held, c)
		}
	}
}

func (m *model) deliverOne(p int, cut []int) bool {
	x := m.procs[p]
	best := -1
	for i, h := range x.held {
		can := h.Seq == x.rows[p][h.Sender]+1 && h.Seq <= cut[h.Sender]
		for q := range m.n {
			can = can && (q == h.Sender || h.Time[q] <= x.rows[p][q])
		}
		if can && (best < 0 || h.Sender < x.held[best].Sender) {
			best = i
		}
	}
	if best < 0 {
		return false
	}
	h := x.held[best]
	x.rows[p][h.Sender]++
	x.events = append(x.events, api.Event{Kind: api.EDeliver, View: x.view, From: h.Sender, Seq: h.Seq, Text: h.Text})
	return true
}

func (m *model) take(k int) modelFrame {
	f := m.frames[k]
	m.frames = append(append([]modelFrame{}, m.frames[:k]...), m.frames[k+1:]...)
	return f
}

func (m *model) round() int {
	taken := m.frames
	m.frames = nil
	for p := range m.n {
		for _, f := range taken {
			if f.to == p {
				m.arrive(p, f.s)
			}
		}
		m.tick(p)
	}
	return len(taken)
}

func wantModel(t *testing.T, g *chorus.Group, m *model) {
	t.Helper()
	if g.Flight() != len(m.frames) {
		t.Fatalf("P7: Flight = %d, want %d", g.Flight(), len(m.frames))
	}
	for k, f := range m.frames {
		if bytesOf(t, g, k) != f.s {
			want, _ := wire.Decode(f.s)
			t.Fatalf("P7: frame %d is %+v, want %+v", k, frameOf(t, g, k), want)
		}
	}
	for p, x := range m.procs {
		is := state(t, g, p)
		if is.Up != x.up || is.Out != x.out || is.Blocked != x.blocked || is.View != x.view || is.Members != number(x.members) || is.Suspects != number(x.suspects) || is.Held != len(x.held) || !slices.Equal(is.Row, x.rows[p]) {
			t.Fatalf("P8: process %d is at %+v, want %+v", p, is, x)
		}
		wantEvents(t, g, p, x.events...)
	}
}
