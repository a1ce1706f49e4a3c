package chorus_test

import (
	"math/bits"
	"math/rand"
	"reflect"
	"slices"
	"testing"

	"chorus/api"
	"chorus/chorus"
	"chorus/wire"
)

// stay is what a process has told of one view: its members, and what happened in it, in its order.
type stay struct {
	members int
	events  []api.Event
}

// stays cuts the events of a process at the views that it has installed.
func stays(t *testing.T, n int, l []api.Event) []stay {
	t.Helper()
	views := []stay{{members: 1<<n - 1}}
	for _, e := range l {
		last := len(views) - 1
		switch e.Kind {
		case api.ECast, api.EDeliver:
			if e.View != last {
				t.Fatalf("P8: %+v in view %d", e, last)
			}
			views[last].events = append(views[last].events, e)
		case api.EInstall:
			if e.View != last+1 {
				t.Fatalf("P14: %+v behind view %d", e, last)
			}
			views = append(views, stay{members: e.Members})
		}
	}
	return views
}

// messages is what was delivered in a view, whoever cast it and in whatever order.
func (s stay) messages() []api.Event {
	l := slices.Clone(s.events)
	for i := range l {
		l[i].Kind = 0
	}
	slices.SortFunc(l, func(a, b api.Event) int { return a.From*100 + a.Seq - b.From*100 - b.Seq })
	return l
}

// wantViewsAgreed: who has installed the same view has the same members in it, and has delivered the same ahead of it.
func wantViewsAgreed(t *testing.T, all [][]stay) {
	t.Helper()
	for p, mine := range all {
		for q, others := range all[:p] {
			for v := 1; v < min(len(mine), len(others)); v++ {
				if mine[v].members != others[v].members {
					t.Fatalf("P16: view %d has the members %b at %d, %b at %d", v, mine[v].members, p, others[v].members, q)
				}
				if a, b := mine[v-1].messages(), others[v-1].messages(); !slices.Equal(a, b) {
					t.Fatalf("P16: ahead of view %d process %d has %+v, process %d %+v", v, p, a, q, b)
				}
			}
		}
	}
}

// wantMajorities: the members of a view are of those of the view ahead of it, and more than half of them.
func wantMajorities(t *testing.T, all [][]stay) {
	t.Helper()
	for p, mine := range all {
		for v := 1; v < len(mine); v++ {
			now, old := mine[v].members, mine[v-1].members
			if now&^old != 0 || 2*bits.OnesCount(uint(now)) <= bits.OnesCount(uint(old)) || now>>p&1 == 0 {
				t.Fatalf("P16: at %d view %d has the members %b, the one ahead of it %b", p, v, now, old)
			}
		}
	}
}

// wantAsCast: of each process just those messages are told as cast that it was told to cast.
func wantAsCast(t *testing.T, d *drawnRun, all [][]stay) {
	t.Helper()
	for p, views := range all {
		var l []api.Event
		for _, s := range views {
			l = append(l, slices.DeleteFunc(slices.Clone(s.events), func(e api.Event) bool { return e.Kind != api.ECast })...)
		}
		if !slices.Equal(l, d.casts[p]) {
			t.Fatalf("P16: process %d has cast %+v, it was told %+v", p, l, d.casts[p])
		}
	}
}

// wantCausal: all that was delivered was cast so, is there once, and behind what its caster had delivered ahead of it.
func wantCausal(t *testing.T, all [][]stay) {
	t.Helper()
	for p, views := range all {
		for v, s := range views {
			for i, e := range s.events {
				if v >= len(all[e.From]) {
					t.Fatalf("P16: %+v at %d, and its caster was never in that view", e, p)
				}
				caster := all[e.From][v].events
				cast := place(caster, e)
				if cast < 0 || caster[cast].Kind != api.ECast || caster[cast].Text != e.Text || place(s.events, e) != i {
					t.Fatalf("P16: %+v at %d was not cast so, or is there twice", e, p)
				}
				for _, ahead := range caster[:cast] {
					if k := place(s.events, ahead); k < 0 || k > i {
						t.Fatalf("P16: process %d has %+v without or ahead of %+v", p, e, ahead)
					}
				}
			}
		}
	}
}

// allStays is what all processes have told; what each is at goes with it.
func allStays(t *testing.T, g *chorus.Group, n int) [][]stay {
	t.Helper()
	var all [][]stay
	for p := range n {
		l, e := g.Events(p)
		wantErr(t, "P8: Events", e, api.OK)
		views := stays(t, n, l)
		last := len(views) - 1
		if x := state(t, g, p); x.View != last || x.Members != views[last].members {
			t.Fatalf("P8: process %d is at %+v, its events are %+v", p, x, l)
		}
		all = append(all, views)
	}
	return all
}

// drawnRuns lets whatever may happen come to groups: frames are lost, doubled, turned about and spoilt in one byte, and anybody is suspected or crashes. What comes of each is looked at.
func drawnRuns(t *testing.T, seed int64, look func(d *drawnRun, all [][]stay)) {
	t.Helper()
	r := rand.New(rand.NewSource(seed))
	changed, out := 0, 0
	for range 400 {
		d := newRun(t, r, false)
		d.steps(t, r, 100)
		d.duel(r)
		d.steps(t, r, 400)
		all := allStays(t, d.g, d.n)
		look(d, all)
		for p, views := range all {
			changed += len(views) - 1
			if state(t, d.g, p).Out {
				out++
			}
		}
	}
	if changed < 200 || out < 50 {
		t.Errorf("the test is wrong: views were installed %d times, and %d were excluded", changed, out)
	}
}

func TestFramesGoBackAndForth(t *testing.T) {
	t.Parallel()
	r := rand.New(rand.NewSource(16))
	var kinds [8]int
	for range 60 {
		d := newRun(t, r, false)
		for range 40 {
			d.steps(t, r, 10)
			for kind, n := range d.wantBackAndForth(t) {
				kinds[kind] += n
			}
		}
		if d.g.Flight() > 0 {
			wantEveryByteToCount(t, r, bytesOf(t, d.g, r.Intn(d.g.Flight())), d.spoilt)
		}
	}
	if slices.Min(kinds[:]) < 20 {
		t.Errorf("the test is wrong: of the kinds (0: spoilt) there were %v", kinds)
	}
}

// wantEveryByteToCount: if any one byte of a frame is another one, it is no frame.
func wantEveryByteToCount(t *testing.T, r *rand.Rand, s string, spoilt map[string]bool) {
	t.Helper()
	if spoilt[s] {
		return
	}
	for at := range len(s) {
		b := []byte(s)
		b[at] ^= byte(1 + r.Intn(255))
		if _, e := wire.Decode(string(b)); e != api.ErrFrame {
			t.Fatalf("P16: %x is a frame, and so is %x", s, b)
		}
	}
}

func TestMessagesOnceAsCastAndInCausalOrder(t *testing.T) {
	t.Parallel()
	delivered := 0
	drawnRuns(t, 17, func(d *drawnRun, all [][]stay) {
		wantAsCast(t, d, all)
		wantCausal(t, all)
		for _, views := range all {
			for _, s := range views {
				delivered += len(s.events)
			}
		}
	})
	if delivered < 10000 {
		t.Errorf("the test is wrong: messages were delivered %d times", delivered)
	}
}

func TestViewsAreAgreedOn(t *testing.T) {
	t.Parallel()
	drawnRuns(t, 18, func(_ *drawnRun, all [][]stay) { wantViewsAgreed(t, all) })
}

func TestViewsAreMoreThanHalf(t *testing.T) {
	t.Parallel()
	drawnRuns(t, 19, func(_ *drawnRun, all [][]stay) { wantMajorities(t, all) })
}

// When no more crash, and only such are suspected as have crashed, and more than half are left, it comes to rest.
func TestItComesToRest(t *testing.T) {
	t.Parallel()
	r := rand.New(rand.NewSource(20))
	crashed, apart, blocked := 0, 0, 0
	for range 300 {
		d := newRun(t, r, true)
		d.steps(t, r, 200)
		// The harder it is: some are in the next view already, and others are not.
		for left := r.Intn(600); left > 0 && d.views(t) == 1; left-- {
			d.steps(t, r, 1)
		}
		crashed += len(d.down)
		apart += d.views(t) - 1
		for _, p := range d.up() {
			if state(t, d.g, p).Blocked {
				blocked++
			}
			suspect(t, d.g, p, d.down...)
		}
		d.calm(t)
		wantRest(t, d)
		last := look(t, d.g)
		d.calm(t)
		wantSame(t, "P16: at rest", d.g, last)
	}
	if crashed < 200 || apart < 50 || blocked < 100 {
		t.Errorf("the test is wrong: %d crashed, %d views beside one, %d blocked", crashed, apart, blocked)
	}
}

// views tells in how many views those that are up are.
func (d *drawnRun) views(t *testing.T) int {
	t.Helper()
	var l []int
	for _, p := range d.up() {
		l = append(l, state(t, d.g, p).View)
	}
	slices.Sort(l)
	return len(slices.Compact(l))
}

// calm lets rounds go by in which nothing is lost.
func (d *drawnRun) calm(t *testing.T) {
	t.Helper()
	for range 40 {
		d.g.Round()
		if d.g.Flight() >= api.MaxFlight {
			t.Fatalf("the test is wrong: the network is full")
		}
	}
}

// wantRest: all that are up are in one view, which has none of those that are down; nobody is blocked, and all have delivered the same.
func wantRest(t *testing.T, d *drawnRun) {
	t.Helper()
	all := allStays(t, d.g, d.n)
	wantAsCast(t, d, all)
	wantViewsAgreed(t, all)
	wantMajorities(t, all)
	wantCausal(t, all)
	up := d.up()
	first := up[0]
	for _, p := range up {
		x, y := state(t, d.g, p), state(t, d.g, first)
		if !reflect.DeepEqual(x, y) || x.Blocked || x.Out || x.Members != number(up) || x.Held != 0 {
			t.Fatalf("P16: in the end process %d is at %+v, process %d at %+v; want the members %v", p, x, first, y, up)
		}
		if a, b := all[p][x.View].messages(), all[first][x.View].messages(); !slices.Equal(a, b) {
			t.Fatalf("P16: in the end process %d has %+v, process %d %+v", p, a, first, b)
		}
	}
}

// Where half of the members have crashed, the others wait, however many rounds go by.
func TestHalfDoesNotComeToRest(t *testing.T) {
	for n := 2; n <= api.MaxProcs; n += 2 {
		g := group(t, n, 4, 4000)
		cast(t, g, 0, "a")
		for q := n / 2; q < n; q++ {
			crash(t, g, q)
			suspect(t, g, 0, q)
		}
		for range 40 {
			g.Round()
		}
		for p := range n / 2 {
			if x := state(t, g, p); x.View != 0 || !x.Blocked {
				t.Errorf("P13: half of %d are up, and process %d is at %+v", n, p, x)
			}
		}
	}
}
