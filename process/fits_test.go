package process

import (
	"fmt"
	"testing"

	"chorus/api"
)

// fitting is of each kind a frame that is fit for process 1 of 3 and has nothing that its kind does not need.
func fitting() []api.Frame {
	list := func() []int { return []int{1, 2, 3} }
	return []api.Frame{
		{Kind: api.FData, To: 1, Row: list(), Msgs: []api.Msg{{Sender: 2, Seq: 3, Time: list()}}},
		{Kind: api.FGossip, To: 1, Row: list()},
		{Kind: api.FFlush, To: 1, Ballot: 1},
		{Kind: api.FState, To: 1, Ballot: 1, Row: list()},
		{Kind: api.FAccept, To: 1, Ballot: 1, Cut: list()},
		{Kind: api.FAccepted, To: 1, Ballot: 1},
		{Kind: api.FInstall, To: 1, Cut: list()},
	}
}

// wantFits tries one change at the fitting frame of each kind; fit tells of which kinds it stays fit.
func wantFits(t *testing.T, what string, change func(f *api.Frame), fit ...int) {
	t.Helper()
	for _, f := range fitting() {
		change(&f)
		want := false
		for _, kind := range fit {
			want = want || kind == f.Kind
		}
		if fits(f, 1, 3) != want {
			t.Errorf("P7: %s: of kind %d: fit: %v, want %v", what, f.Kind, !want, want)
		}
	}
}

var allKinds = []int{api.FData, api.FGossip, api.FFlush, api.FState, api.FAccept, api.FAccepted, api.FInstall}

func but(kinds ...int) []int {
	var l []int
	for _, k := range allKinds {
		out := false
		for _, x := range kinds {
			out = out || x == k
		}
		if !out {
			l = append(l, k)
		}
	}
	return l
}

func TestFitsEnds(t *testing.T) {
	wantFits(t, "as it is", func(f *api.Frame) {}, allKinds...)
	wantFits(t, "from 2", func(f *api.Frame) { f.From = 2 }, allKinds...)
	for _, n := range []int{1, 3, 5} {
		wantFits(t, fmt.Sprintf("from %d", n), func(f *api.Frame) { f.From = n })
	}
	for _, n := range []int{0, 2, 3, 5} {
		wantFits(t, fmt.Sprintf("to %d", n), func(f *api.Frame) { f.To = n })
	}
}

func TestFitsMembers(t *testing.T) {
	for n := range 64 {
		kinds := allKinds
		if n > 7 {
			kinds = nil
		}
		wantFits(t, fmt.Sprintf("members %d", n), func(f *api.Frame) { f.Members = n }, kinds...)
	}
}

func TestFitsLists(t *testing.T) {
	for _, n := range []int{1, 2, 4, 6} {
		wantFits(t, fmt.Sprintf("row of %d", n), func(f *api.Frame) { f.Row = make([]int, n) })
		wantFits(t, fmt.Sprintf("cut of %d", n), func(f *api.Frame) { f.Cut = make([]int, n) })
	}
	wantFits(t, "row of 3", func(f *api.Frame) { f.Row = make([]int, 3) }, allKinds...)
	wantFits(t, "cut of 3", func(f *api.Frame) { f.Cut = make([]int, 3) }, allKinds...)
	wantFits(t, "no row", func(f *api.Frame) { f.Row = nil }, but(api.FData, api.FGossip, api.FState)...)
	wantFits(t, "no cut", func(f *api.Frame) { f.Cut = nil }, but(api.FAccept, api.FInstall)...)
}

func TestFitsBallots(t *testing.T) {
	wantFits(t, "no ballot", func(f *api.Frame) { f.Ballot = 0 }, api.FData, api.FGossip, api.FInstall)
	wantFits(t, "a ballot", func(f *api.Frame) { f.Ballot = api.MaxBallot - 1 }, allKinds...)
	wantFits(t, "voted", func(f *api.Frame) { f.Voted = 1 }, but(api.FState)...)
	wantFits(t, "voted with a cut", func(f *api.Frame) { f.Voted, f.Cut = 1, make([]int, 3) }, allKinds...)
	wantFits(t, "not voted with a cut", func(f *api.Frame) { f.Voted, f.Cut = 0, make([]int, 3) }, allKinds...)
}

func TestFitsMessages(t *testing.T) {
	good := api.Msg{Sender: 1, Seq: 2, Time: []int{1, 2, 3}}
	first := func(m api.Msg) func(f *api.Frame) {
		return func(f *api.Frame) { f.Msgs = []api.Msg{m} }
	}
	second := func(m api.Msg) func(f *api.Frame) {
		return func(f *api.Frame) { f.Msgs = []api.Msg{good, m} }
	}
	wantFits(t, "a message", first(good), allKinds...)
	wantFits(t, "two messages", second(good), but(api.FData)...)
	wantFits(t, "no message", func(f *api.Frame) { f.Msgs = nil }, but(api.FData)...)
	for what, m := range map[string]api.Msg{
		"a sender of none":      {Sender: 3, Seq: 2, Time: []int{2, 2, 2}},
		"the highest sender":    {Sender: 5, Seq: 2, Time: []int{2, 2, 2}},
		"no time":               {Sender: 1, Seq: 2},
		"a time too short":      {Sender: 1, Seq: 2, Time: []int{2, 2}},
		"a time too long":       {Sender: 1, Seq: 2, Time: []int{2, 2, 2, 2}},
		"a time below its seq":  {Sender: 1, Seq: 2, Time: []int{2, 1, 2}},
		"a time above its seq":  {Sender: 1, Seq: 2, Time: []int{2, 3, 2}},
		"a time of six":         {Sender: 1, Seq: 2, Time: []int{2, 2, 2, 2, 2, 2}},
		"a time of none at all": {Sender: 2, Seq: 1, Time: []int{0, 0, 0}},
	} {
		wantFits(t, what, first(m))
		wantFits(t, what+", as the second", second(m))
	}
}

func TestFitsSizes(t *testing.T) {
	for n := 2; n <= api.MaxProcs; n++ {
		f := api.Frame{Kind: api.FGossip, From: n - 1, To: 0, Members: 1<<n - 1, Row: make([]int, n)}
		for procs := 1; procs <= api.MaxProcs; procs++ {
			if fits(f, 0, procs) != (procs == n) {
				t.Errorf("P7: a gossip of %d processes among %d: fit: %v", n, procs, procs != n)
			}
		}
	}
}
