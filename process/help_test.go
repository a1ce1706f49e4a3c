package process

import (
	"reflect"
	"testing"

	"chorus/api"
	"chorus/network"
	"chorus/wire"
)

func encode(t *testing.T, f api.Frame) string {
	t.Helper()
	s, e := wire.Encode(f)
	if e != api.OK {
		t.Fatalf("P4: Encode(%+v): error %d", f, e)
	}
	return s
}

// arrive lets frames arrive at a process, to which they are made out.
func arrive(t *testing.T, p *Process, l ...api.Frame) {
	t.Helper()
	for _, f := range l {
		f.To = p.number
		p.Arrive(encode(t, f))
	}
}

// wantSent: the process has sent just these frames since it was last asked.
func wantSent(t *testing.T, what string, p *Process, want ...api.Frame) {
	t.Helper()
	l := p.Sent()
	for i, f := range want {
		f.From = p.number
		if c := (network.Parcel{To: f.To, Bytes: encode(t, f)}); i >= len(l) || l[i] != c {
			t.Fatalf("%s: sent %+v, want as number %d %+v", what, decoded(l), i, f)
		}
	}
	if len(l) != len(want) {
		t.Fatalf("%s: sent %+v, want just %d of them", what, decoded(l), len(want))
	}
}

func decoded(l []network.Parcel) []api.Frame {
	var frames []api.Frame
	for _, c := range l {
		f, _ := wire.Decode(c.Bytes)
		frames = append(frames, f)
	}
	return frames
}

// wantIgnored: by none of these frames a process, made anew for each, becomes another one or sends something.
func wantIgnored(t *testing.T, what string, fresh func() *Process, l ...api.Frame) {
	t.Helper()
	for _, f := range l {
		p := fresh()
		arrive(t, p, f)
		if !reflect.DeepEqual(p, fresh()) {
			t.Errorf("%s: by %+v it has become %+v", what, f, p)
		}
	}
}

func wantState(t *testing.T, what string, p *Process, want api.Proc) {
	t.Helper()
	if x := p.State(); !reflect.DeepEqual(x, want) {
		t.Fatalf("%s: it is at %+v, want %+v", what, x, want)
	}
}

func wantEvents(t *testing.T, what string, p *Process, want ...api.Event) {
	t.Helper()
	if l := p.Events(); !reflect.DeepEqual(append([]api.Event{}, l...), append([]api.Event{}, want...)) {
		t.Fatalf("%s: events: %+v, want %+v", what, l, want)
	}
}

func got(view, from, seq int, text string) api.Event {
	return api.Event{Kind: api.EDeliver, View: view, From: from, Seq: seq, Text: text}
}

func tick(t *testing.T, p *Process) {
	t.Helper()
	if e := p.Tick(); e != api.OK {
		t.Fatalf("P11: Tick = %d", e)
	}
}

func suspect(t *testing.T, p *Process, l ...int) {
	t.Helper()
	for _, q := range l {
		if e := p.Suspect(q); e != api.OK {
			t.Fatalf("P12: Suspect(%d) = %d", q, e)
		}
	}
}

func msg(sender, seq int, text string, time ...int) api.Msg {
	return api.Msg{Sender: sender, Seq: seq, Time: time, Text: text}
}

func data(from, to int, m api.Msg) api.Frame {
	row := make([]int, len(m.Time))
	row[m.Sender] = m.Seq
	return api.Frame{Kind: api.FData, From: from, To: to, Row: row, Msgs: []api.Msg{m}}
}

func cast(t *testing.T, p *Process, texts ...string) {
	t.Helper()
	for _, s := range texts {
		if e := p.Cast(s); e != api.OK {
			t.Fatalf("P9: Cast = %d", e)
		}
	}
}

// lead lets a process begin to lead a ballot about those that it is to suspect; what it has sent is taken out.
func lead(t *testing.T, p *Process, suspects ...int) {
	t.Helper()
	suspect(t, p, suspects...)
	tick(t, p)
	p.Sent()
}

// leading is process 0 of n, which leads the ballot 8.
func leading(t *testing.T, n int, suspects ...int) *Process {
	t.Helper()
	p := New(0, n, 4)
	lead(t, p, suspects...)
	return p
}

// accepting is such a process of which all that it asked have answered: it does not gather any more.
func accepting(t *testing.T, n int, suspects ...int) *Process {
	t.Helper()
	p := leading(t, n, suspects...)
	for _, q := range p.list(p.members &^ p.suspects &^ 1) {
		arrive(t, p, api.Frame{Kind: api.FState, From: q, Ballot: 8, Row: make([]int, n)})
	}
	p.Sent()
	return p
}
