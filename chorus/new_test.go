package chorus_test

import (
	"math"
	"reflect"
	"testing"

	"chorus/api"
	"chorus/chorus"
)

func TestNewBounds(t *testing.T) {
	good := api.Config{Procs: 3, Window: 4, Flight: 100}
	for _, c := range []struct {
		name string
		high int
		set  func(c *api.Config, n int)
	}{
		{"Procs", 6, func(c *api.Config, n int) { c.Procs = n }},
		{"Window", 8, func(c *api.Config, n int) { c.Window = n }},
		{"Flight", 4000, func(c *api.Config, n int) { c.Flight = n }},
	} {
		for _, n := range []int{1, 2, c.high - 1, c.high} {
			is := good
			c.set(&is, n)
			if g, e := chorus.New(is); g == nil || e != api.OK {
				t.Errorf("P6: %s %d: %v, %d, want a group", c.name, n, g, e)
			}
		}
		for _, n := range []int{0, c.high + 1, -1, -c.high, math.MinInt, math.MaxInt, 1 + 1<<32} {
			is := good
			c.set(&is, n)
			if g, e := chorus.New(is); g != nil || e != api.ErrConfig {
				t.Errorf("P6: %s %d: %v, %d, want ErrConfig", c.name, n, g, e)
			}
		}
	}
}

func TestNewIsFresh(t *testing.T) {
	for n := 1; n <= api.MaxProcs; n++ {
		g := group(t, n, 1, 1)
		if g.Flight() != 0 {
			t.Errorf("P6: %d frames are in flight in a new group", g.Flight())
		}
		for p := range n {
			want := api.Proc{Up: true, Members: 1<<n - 1, Row: make([]int, n)}
			if x := state(t, g, p); !reflect.DeepEqual(x, want) {
				t.Errorf("P6: process %d of %d is at %+v, want %+v", p, n, x, want)
			}
			wantEvents(t, g, p)
		}
		_, e := g.Proc(n)
		wantErr(t, "P8: Proc of the first that is none", e, api.ErrProc)
	}
}

func TestGroupsAreApart(t *testing.T) {
	a, b := group(t, 2, 4, 9), group(t, 2, 4, 9)
	before := look(t, b)
	cast(t, a, 0, "x")
	deliver(t, a, 0)
	tick(t, a, 1)
	wantErr(t, "P8: Crash", a.Crash(0), api.OK)
	wantSame(t, "P2: another group", b, before)
}
