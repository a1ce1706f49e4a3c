package chorus_test

import (
	"math/bits"
	"math/rand"
	"reflect"
	"slices"
	"testing"

	"chorus/api"
	"chorus/chorus"
)

// stay is what a process has told of one view: its members, and what happened in it, in its order.
type stay struct {
	members int
	events  []api.Event
}

// stays cuts the events of a process at the views that it has installed.
func stays(t *testing.T, n int, l []api.Event) []stay {
	t.Helper()
	views := []stay{{members: 1<<n - 1}}
	for _, e := range l {
		last := len(views) - 1
		switch e.Kind {
		case api.ECast, api.EDeliver:
			if e.View != last {
				t.Fatalf("P8: %+v in view %d", e, last)
			}
			views[last].events = append(views[last].events, e)
		case api.EInstall:
			if e.View != last+1 {
				t.Fatalf("P14: %+v behind view %d", e, last)
			}
			views = append(views, stay{members: e.Members})
		}
	}
	return views
}

// messages is what was delivered in a view, whoever cast it and in whatever order.
func (s stay) messages() []api.Event {
	l := slices.Clone(s.events)
	for i := range l {
		l[i].Kind = 0
	}
	slices.SortFunc(l, func(a, b api.Event) int { return a.From*100 + a.Seq - b.From*100 - b.Seq })
	return l
}

// wantViewsAgreed: who has installed the same view has the same members in it, and has delivered the same ahead of it.
func wantViewsAgreed(t *testing.T, all [][]stay) {
	t.Helper()
	for p, mine := range all {
		for q, others := range all[:p] {
			for v := 1; v < min(len(mine), len(others)); v++ {
				if mine[v].members != others[v].members {
					t.Fatalf("P16: view %d has the members %b at %d, %b at %d", v, mine[v].members, p, others[v].members, q)
				}
				if a, b := mine[v-1].messages(), others[v-1].messages(); !slices.Equal(a, b) {
					t.Fatalf("P16: ahead of view %d process %d has %+v, process %d %+v", v, p, a, q, b)
				}
			}
		}
		for v := 1; v < len(mine); v++ {
			now, old := mine[v].members, mine[v-1].members
			if now&^old != 0 || 2*bits.OnesCount(uint(now)) <= bits.OnesCount(uint(old)) || now>>p&1 == 0 {
				t.Fatalf("P16: at %d view %d has the members %b, the one ahead of it %b", p, v, now, old)
			}
		}
	}
}

// wantCausal: all that was delivered was cast so, is there once, and behind what its caster had delivered ahead of it.
func wantCausal(t *testing.T, all [][]stay) {
	t.Helper()
	for p, views := range all {
		for v, s := range views {
			for i, e := range s.events {
				caster := all[e.From][v].events
				cast := place(caster, e)
				if cast < 0 || caster[cast].Kind != api.ECast || caster[cast].Text != e.Text || place(s.events, e) != i {
					t.Fatalf("P16: %+v at %d was not cast so, or is there twice", e, p)
				}
				for _, ahead := range caster[:cast] {
					if k := place(s.events, ahead); k < 0 || k > i {
						t.Fatalf("P16: process %d has %+v without or ahead of %+v", p, e, ahead)
					}
				}
			}
		}
	}
}

func allStays(t *testing.T, g *chorus.Group, n int) [][]stay {
	t.Helper()
	var all [][]stay
	for p := range n {
		l, e := g.Events(p)
		wantErr(t, "P8: Events", e, api.OK)
		all = append(all, stays(t, n, l))
	}
	return all
}

// Whoever is suspected, and whatever befalls the frames: views are agreed on.
func TestWhateverIsSuspectedViewsAreAgreedOn(t *testing.T) {
	r := rand.New(rand.NewSource(12))
	changed := 0
	for range 300 {
		n := 2 + r.Intn(5)
		g := group(t, n, 1+r.Intn(8), 150)
		for range 400 {
			p := min(r.Intn(n), r.Intn(n))
			switch c := r.Intn(40); {
			case c < 4:
				g.Cast(p, string(rune('a'+r.Intn(26))))
			case c < 8:
				g.Tick(p)
			case c == 8 && r.Intn(8) == 0:
				g.Crash(r.Intn(n))
			case c == 9:
				g.Suspect(p, max(r.Intn(n), r.Intn(n)))
			case g.Flight() > 0:
				befall(t, r, g)
			}
		}
		all := allStays(t, g, n)
		wantViewsAgreed(t, all)
		wantCausal(t, all)
		for _, views := range all {
			changed += len(views) - 1
		}
	}
	if changed < 300 {
		t.Errorf("the test is wrong: views were installed %d times", changed)
	}
}

// Where only such are suspected as have crashed, and more than half are left, all get over it.
func TestCrashesAreGotOver(t *testing.T) {
	r := rand.New(rand.NewSource(13))
	for range 120 {
		n := 3 + r.Intn(4)
		g := group(t, n, 1+r.Intn(8), 300)
		var down []int
		for range 300 {
			p := r.Intn(n)
			switch c := r.Intn(40); {
			case c < 4:
				g.Cast(p, string(rune('a'+r.Intn(26))))
			case c < 8:
				g.Tick(p)
			case c == 8 && r.Intn(8) == 0 && 2*(len(down)+1) < n && !slices.Contains(down, p):
				crash(t, g, p)
				down = append(down, p)
			case c < 11 && len(down) > 0:
				g.Suspect(p, down[r.Intn(len(down))])
			case g.Flight() > 0:
				befall(t, r, g)
			}
		}
		calm(t, g, n, down)
		wantGotOver(t, g, n, down)
	}
}

// calm lets all that are up suspect those that are down, and time go by; nothing is lost any more.
func calm(t *testing.T, g *chorus.Group, n int, down []int) {
	t.Helper()
	for range 12 {
		for p := range n {
			if slices.Contains(down, p) {
				continue
			}
			suspect(t, g, p, down...)
			tick(t, g, p)
			deliverAll(t, g)
		}
	}
}

// wantGotOver: all that are up are in one view, which has none of those that are down; nobody is blocked, and all have delivered the same.
func wantGotOver(t *testing.T, g *chorus.Group, n int, down []int) {
	t.Helper()
	all := allStays(t, g, n)
	wantViewsAgreed(t, all)
	wantCausal(t, all)
	members := 1<<n - 1
	for _, q := range down {
		members -= 1 << q
	}
	first := -1
	for p := range n {
		if slices.Contains(down, p) {
			continue
		}
		if first < 0 {
			first = p
		}
		x, y := state(t, g, p), state(t, g, first)
		if !reflect.DeepEqual(x, y) || x.Blocked || x.Out || x.Members != members || x.Held != 0 {
			t.Fatalf("P16: in the end process %d is at %+v, process %d at %+v; want the members %b", p, x, first, y, members)
		}
		last := x.View
		if a, b := all[p][last].messages(), all[first][last].messages(); !slices.Equal(a, b) {
			t.Fatalf("P16: in the end process %d has %+v, process %d %+v", p, a, first, b)
		}
	}
}
