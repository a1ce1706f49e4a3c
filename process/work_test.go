package process

import (
	"reflect"
	"testing"

	"chorus/api"
)

func TestWorkIsArrivingInOrderAndThenTime(t *testing.T) {
	p := New(1, 3, 4)
	a, b := msg(0, 1, "a", 1, 0, 0), msg(2, 1, "b", 0, 0, 1)
	p.Work([]string{encode(t, data(2, 1, b)), "no frame", encode(t, data(0, 2, a)), encode(t, data(0, 1, a))})
	wantEvents(t, "P15: in their order", p, got(0, 2, 1, "b"), got(0, 0, 1, "a"))
	row := []int{1, 0, 1}
	wantSent(t, "P15: then time goes by", p,
		api.Frame{Kind: api.FGossip, To: 0, Row: row}, api.Frame{Kind: api.FData, To: 0, Row: row, Msgs: []api.Msg{b}},
		api.Frame{Kind: api.FGossip, To: 2, Row: row}, api.Frame{Kind: api.FData, To: 2, Row: row, Msgs: []api.Msg{a}})
	p.Work(nil)
	wantSent(t, "P15: nothing arrives", p,
		api.Frame{Kind: api.FGossip, To: 0, Row: row}, api.Frame{Kind: api.FData, To: 0, Row: row, Msgs: []api.Msg{b}},
		api.Frame{Kind: api.FGossip, To: 2, Row: row}, api.Frame{Kind: api.FData, To: 2, Row: row, Msgs: []api.Msg{a}})
}

func TestWorkOfOneThatIsGone(t *testing.T) {
	for what, set := range map[string]func(p *Process){
		"crashed":  func(p *Process) { p.crashed = true },
		"excluded": func(p *Process) { p.out = true },
	} {
		p, fresh := New(1, 3, 4), New(1, 3, 4)
		set(p)
		set(fresh)
		p.Work([]string{encode(t, data(0, 1, msg(0, 1, "a", 1, 0, 0)))})
		if !reflect.DeepEqual(p, fresh) {
			t.Errorf("P15: one that has %s has become %+v", what, p)
		}
	}
}

func TestWorkExcludes(t *testing.T) {
	p := New(1, 3, 4)
	p.Work([]string{
		encode(t, api.Frame{Kind: api.FFlush, From: 0, To: 1, Ballot: 8, Members: 4}),
		encode(t, api.Frame{Kind: api.FInstall, From: 0, To: 1, Members: 5, Cut: []int{0, 0, 0}}),
		encode(t, data(0, 1, msg(0, 1, "a", 1, 0, 0))),
	})
	wantEvents(t, "P15: excluded by a frame", p, api.Event{Kind: api.EExclude})
	wantState(t, "P15: excluded by a frame", p, api.Proc{Up: true, Out: true, Blocked: true, Members: 7, Suspects: 4, Row: []int{0, 0, 0}})
	wantSent(t, "P15: what it sent ahead of that", p, api.Frame{Kind: api.FState, To: 0, Ballot: 8, Row: []int{0, 0, 0}})
}
