package process

import (
	"reflect"
	"strings"
	"testing"

	"chorus/api"
)

func TestBlockedHoldsAndDeliversNothing(t *testing.T) {
	p := New(1, 3, 4)
	p.blocked = true
	a := api.Msg{Sender: 0, Seq: 1, Time: []int{1, 0, 0}, Text: "a"}
	p.Arrive(encode(t, data(0, 1, a)))
	want := api.Proc{Up: true, Blocked: true, Members: 7, Held: 1, Row: []int{0, 0, 0}}
	if x := p.State(); !reflect.DeepEqual(x, want) || len(p.Events()) != 0 {
		t.Errorf("P10: a blocked process is at %+v, %+v, want %+v", x, p.Events(), want)
	}
	if e := p.Tick(); e != api.OK {
		t.Errorf("P11: Tick of a blocked process = %d", e)
	}
	row := []int{0, 0, 0}
	wantSent(t, "P11: blocked", p, api.Frame{Kind: api.FGossip, To: 0, Row: row}, api.Frame{Kind: api.FGossip, To: 2, Row: row})
	p.blocked = false
	p.Arrive(encode(t, data(0, 1, a)))
	if l := p.Events(); len(l) != 1 {
		t.Errorf("P10: not blocked any more it has %+v, want one EDeliver", l)
	}
}

func TestCastErrorsInTheirOrder(t *testing.T) {
	long := strings.Repeat("x", 17)
	p := New(0, 2, 1)
	p.crashed, p.out, p.blocked = true, true, true
	p.row()[0] = api.MaxSeq
	p.held[key{0, 20}] = api.Msg{Sender: 0, Seq: 20, Time: []int{20, 0}}
	for _, c := range []struct {
		want api.Errno
		text string
		mend func()
	}{
		{api.ErrDown, long, func() { p.crashed = false }},
		{api.ErrOut, long, func() { p.out = false }},
		{api.ErrLarge, long, func() {}},
		{api.ErrBlocked, "x", func() { p.blocked = false }},
		{api.ErrExhausted, "x", func() { p.row()[0] = api.MaxSeq - 1 }},
		{api.ErrFull, "x", func() { p.held = map[key]api.Msg{} }},
		{api.OK, "x", func() {}},
	} {
		before := p.State()
		if e := p.Cast(c.text); e != c.want {
			t.Errorf("P9: Cast = %d, want %d", e, c.want)
		}
		if c.want != api.OK && (!reflect.DeepEqual(p.State(), before) || len(p.Events()) != 0 || len(p.Sent()) != 0) {
			t.Errorf("P1: with the error %d something is changed", c.want)
		}
		c.mend()
	}
}

func TestExcludedDoesNothing(t *testing.T) {
	p := New(1, 3, 4)
	p.out = true
	before := p.State()
	if !before.Out {
		t.Errorf("P8: Out is not told")
	}
	p.Arrive(encode(t, data(0, 1, api.Msg{Sender: 0, Seq: 1, Time: []int{1, 0, 0}})))
	if e := p.Tick(); e != api.ErrOut {
		t.Errorf("P11: Tick of one that was excluded = %d, want ErrOut", e)
	}
	if x := p.State(); !reflect.DeepEqual(x, before) {
		t.Errorf("P7: one that was excluded is at %+v, was at %+v", x, before)
	}
	if e := p.Crash(); e != api.OK {
		t.Errorf("P8: Crash of one that was excluded = %d", e)
	}
	if e := p.Tick(); e != api.ErrDown {
		t.Errorf("P11: Tick of one that has crashed and was excluded = %d, want ErrDown", e)
	}
	wantSent(t, "P8: excluded", p)
}

// inView2 is process 1 of 4 in view 2, of which 0, 1 and 3 are members; with what it noted of the two views ahead of it.
func inView2() *Process {
	p := New(1, 4, 4)
	p.view, p.members = 2, 1|2|8
	p.left = []leaving{
		{members: 15, cut: []int{0, 0, 0, 0}},
		{members: 1 | 2 | 8, cut: []int{2, 0, 1, 0}, msgs: []api.Msg{
			{Sender: 0, Seq: 2, Time: []int{2, 0, 0, 0}, Text: "a"},
			{Sender: 2, Seq: 1, Time: []int{1, 0, 1, 0}, Text: "b"},
		}},
	}
	return p
}

func TestViewsBelowAreAnswered(t *testing.T) {
	for _, from := range []int{0, 2, 3} {
		for view := range 2 {
			for _, f := range ofEachKind(from, view) {
				if f.Kind == api.FInstall {
					continue
				}
				p := inView2()
				arrive(t, p, f)
				end := p.left[view]
				wantSent(t, "P10: a view below", p, api.Frame{Kind: api.FInstall, To: from, View: view, Members: end.members, Cut: end.cut, Msgs: end.msgs})
				if !reflect.DeepEqual(p, inView2()) {
					t.Errorf("P10: by a frame of a view below the process has become %+v", p)
				}
			}
		}
	}
}

func TestInstallOfAViewBelowIsIgnored(t *testing.T) {
	for view := range 2 {
		wantIgnored(t, "P10: FInstall of a view below", inView2, api.Frame{Kind: api.FInstall, From: 0, View: view, Members: 3, Cut: []int{1, 1, 1, 1}})
	}
}

// ofEachKind is a frame of each kind, which the process of inView2 would heed if it came from a member of its view.
func ofEachKind(from, view int) []api.Frame {
	list := []int{1, 1, 1, 1}
	l := []api.Frame{
		{Kind: api.FData, Row: list, Msgs: []api.Msg{{Sender: 3, Seq: 1, Time: list}}},
		{Kind: api.FGossip, Row: list, Ballot: 9},
		{Kind: api.FFlush, Ballot: 9},
		{Kind: api.FState, Ballot: 9, Row: list},
		{Kind: api.FAccept, Ballot: 9, Cut: list},
		{Kind: api.FAccepted, Ballot: 9},
		{Kind: api.FInstall, Members: 7, Cut: list},
	}
	for i := range l {
		l[i].From, l[i].View = from, view
	}
	return l
}

func TestAllOfAViewAboveIsIgnored(t *testing.T) {
	for _, view := range []int{3, 4, api.MaxBallot - 1} {
		wantIgnored(t, "P10: a view above", inView2, ofEachKind(0, view)...)
	}
}

func TestWhoIsNoMemberIsIgnored(t *testing.T) {
	wantIgnored(t, "P10: from no member", inView2, ofEachKind(2, 2)...)
	// Nor does it count in a ballot that is led.
	wantIgnored(t, "P13: from no member", func() *Process {
		p := inView2()
		suspect(t, p, 0)
		tick(t, p)
		return p
	}, ofEachKind(2, 2)...)
}

func TestMessagesOfNoMemberAreNotHeld(t *testing.T) {
	p := inView2()
	f := data(0, 1, api.Msg{Sender: 2, Seq: 1, Time: []int{0, 0, 1, 0}})
	f.View = 2
	p.Arrive(encode(t, f))
	if x := p.State(); x.Held != 0 || len(p.Events()) != 0 {
		t.Errorf("P10: a message of no member: it is at %+v, %+v", x, p.Events())
	}
	if p.known[0][2] != 1 {
		t.Errorf("P10: of the sender's row it has learnt %v", p.known[0])
	}
}

func TestOnlyMembersCount(t *testing.T) {
	p := inView2()
	cast(t, p, "x")
	m := api.Msg{Sender: 1, Seq: 1, Time: []int{0, 1, 0, 0}, Text: "x"}
	row := []int{0, 1, 0, 0}
	wantSent(t, "P9: to the members", p,
		api.Frame{Kind: api.FData, To: 0, View: 2, Row: row, Msgs: []api.Msg{m}},
		api.Frame{Kind: api.FData, To: 3, View: 2, Row: row, Msgs: []api.Msg{m}})
	p.promised = 17
	p.Tick()
	wantSent(t, "P11: to the members", p,
		api.Frame{Kind: api.FGossip, To: 0, View: 2, Ballot: 17, Row: row},
		api.Frame{Kind: api.FData, To: 0, View: 2, Row: row, Msgs: []api.Msg{m}},
		api.Frame{Kind: api.FGossip, To: 3, View: 2, Ballot: 17, Row: row},
		api.Frame{Kind: api.FData, To: 3, View: 2, Row: row, Msgs: []api.Msg{m}})
	for _, q := range []int{0, 3} {
		if x := p.State(); x.Held != 1 {
			t.Errorf("P9: ahead of %d's row it holds %d", q, x.Held)
		}
		p.Arrive(encode(t, api.Frame{Kind: api.FGossip, From: q, To: 1, View: 2, Row: row}))
	}
	if x := p.State(); x.Held != 0 {
		t.Errorf("P9: all members have it, and it holds %d", x.Held)
	}
	if l := p.Events(); len(l) != 1 || l[0] != (api.Event{Kind: api.ECast, View: 2, From: 1, Seq: 1, Text: "x"}) {
		t.Errorf("P8: events: %+v", l)
	}
}

func TestStateTells(t *testing.T) {
	p := inView2()
	p.blocked, p.suspects = true, 8
	want := api.Proc{Up: true, Blocked: true, View: 2, Members: 11, Suspects: 8, Row: []int{0, 0, 0, 0}}
	if x := p.State(); !reflect.DeepEqual(x, want) {
		t.Errorf("P8: it is at %+v, want %+v", x, want)
	}
}

func TestArriveOfAnything(t *testing.T) {
	p := New(0, 2, 1)
	for _, s := range []string{"", "x", "\x00\x00\x00\x00", strings.Repeat("\xff", 300)} {
		p.Arrive(s)
	}
	if !reflect.DeepEqual(p, New(0, 2, 1)) {
		t.Errorf("P7: by bytes that are no frame the process has become %+v", p)
	}
}
