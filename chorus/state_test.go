package chorus_test

import (
	"math"
	"reflect"
	"strings"
	"testing"

	"chorus/api"
)

func TestNoSuchProcess(t *testing.T) {
	g := group(t, 3, 1, 9)
	cast(t, g, 0, "a")
	before := look(t, g)
	for _, p := range []int{-1, 3, 6, math.MinInt, math.MaxInt} {
		x, e := g.Proc(p)
		if !reflect.DeepEqual(x, api.Proc{}) || e != api.ErrProc {
			t.Errorf("P8: Proc(%d) = %+v, %d", p, x, e)
		}
		l, e := g.Events(p)
		if l != nil || e != api.ErrProc {
			t.Errorf("P8: Events(%d) = %+v, %d", p, l, e)
		}
		wantErr(t, "P8: Crash", g.Crash(p), api.ErrProc)
		wantErr(t, "P9: Cast", g.Cast(p, "x"), api.ErrProc)
		wantErr(t, "P9: Cast, ErrProc ahead of ErrLarge", g.Cast(p, strings.Repeat("x", 17)), api.ErrProc)
		wantErr(t, "P11: Tick", g.Tick(p), api.ErrProc)
		wantSame(t, "P1: with an error", g, before)
	}
}

func TestProcTells(t *testing.T) {
	g := group(t, 3, 4, 9)
	cast(t, g, 0, "a", "b")
	deliver(t, g, 1)
	cast(t, g, 2, "c")
	want := []api.Proc{
		{Up: true, Members: 7, Held: 2, Row: []int{2, 0, 0}},
		{Up: true, Members: 7, Held: 0, Row: []int{0, 0, 0}},
		{Up: true, Members: 7, Held: 2, Row: []int{1, 0, 1}},
	}
	for p, w := range want {
		if x := state(t, g, p); !reflect.DeepEqual(x, w) {
			t.Errorf("P8: process %d is at %+v, want %+v", p, x, w)
		}
	}
	wantEvents(t, g, 0, hasCast(0, 1, "a"), hasCast(0, 2, "b"))
	wantEvents(t, g, 1)
	wantEvents(t, g, 2, hasGot(0, 1, "a"), hasCast(2, 1, "c"))
}

func TestCrashIsForGood(t *testing.T) {
	g := group(t, 3, 4, 20)
	cast(t, g, 0, "a")
	deliver(t, g, 0)
	tick(t, g, 1)
	flying := g.Flight()
	wantErr(t, "P8: Crash", g.Crash(1), api.OK)
	want := api.Proc{Members: 7, Held: 1, Row: []int{1, 0, 0}}
	if x := state(t, g, 1); !reflect.DeepEqual(x, want) {
		t.Errorf("P8: a process that has crashed is at %+v, want %+v", x, want)
	}
	if g.Flight() != flying {
		t.Errorf("P8: a crash changes what is in flight: %d, was %d", g.Flight(), flying)
	}
	before := look(t, g)
	wantErr(t, "P8: Crash", g.Crash(1), api.ErrDown)
	wantErr(t, "P9: Cast", g.Cast(1, "x"), api.ErrDown)
	wantErr(t, "P9: Cast, ErrDown ahead of ErrLarge", g.Cast(1, strings.Repeat("x", 17)), api.ErrDown)
	wantErr(t, "P11: Tick", g.Tick(1), api.ErrDown)
	wantSame(t, "P1: with an error", g, before)
}

func TestCrashedHandlesNothing(t *testing.T) {
	g := group(t, 2, 4, 20)
	cast(t, g, 0, "a")
	tick(t, g, 0)
	wantErr(t, "P8: Crash", g.Crash(1), api.OK)
	before := look(t, g)
	for g.Flight() > 0 {
		before.frames = before.frames[1:]
		deliver(t, g, 0)
		if g.Flight() == 0 {
			before.frames = nil
		}
		wantSame(t, "P8: at one that has crashed", g, before)
	}
}

func TestFramesOfTheCrashedStillArrive(t *testing.T) {
	g := group(t, 2, 4, 20)
	cast(t, g, 0, "a")
	wantErr(t, "P8: Crash", g.Crash(0), api.OK)
	deliver(t, g, 0)
	wantEvents(t, g, 1, hasGot(0, 1, "a"))
	cast(t, g, 1, "b")
	tick(t, g, 1)
	if n := g.Flight(); n != 3 {
		t.Errorf("P8: that 0 has crashed, 1 does not know: %d frames, want 3", n)
	}
}

func TestAnswersAreTheCallers(t *testing.T) {
	g := group(t, 2, 4, 20)
	cast(t, g, 0, "a", "b", "c")
	deliver(t, g, 0)
	before := look(t, g)
	for p := range 2 {
		x := state(t, g, p)
		for i := range x.Row[:cap(x.Row)] {
			x.Row[:cap(x.Row)][i] = 99
		}
		l, _ := g.Events(p)
		for i := range l[:cap(l)] {
			l[:cap(l)][i] = api.Event{Kind: 99}
		}
	}
	wantSame(t, "P2: behind writing into answers", g, before)
	old, _ := g.Events(0)
	room := old[:cap(old)]
	marked := append([]api.Event{}, room...)
	cast(t, g, 0, "d")
	if !reflect.DeepEqual(room, marked) {
		t.Errorf("P2: a later call has written into an earlier answer: %+v, was %+v", room, marked)
	}
	wantEvents(t, g, 0, hasCast(0, 1, "a"), hasCast(0, 2, "b"), hasCast(0, 3, "c"), hasCast(0, 4, "d"))
}
