package chorus_test

import (
	"math/bits"
	"math/rand"
	"slices"
	"strconv"
	"testing"

	"chorus/api"
	"chorus/chorus"
	"chorus/wire"
)

// drawnRun is a group to which drawn things happen, and what the test knows of it by itself.
type drawnRun struct {
	g *chorus.Group
	n int
	// calmable: nobody is suspected who has not crashed, and enough are left to come to rest.
	calmable bool
	// casts are of each process the messages that it was told to cast, and has.
	casts [][]api.Event
	told  int
	down  []int
	// late: what tells of a new view hardly gets on, so that others may be at changing the old one still.
	late bool
	// spoilt are the bytes that a frame got by being spoilt in one byte.
	spoilt map[string]bool
}

func newRun(t *testing.T, r *rand.Rand, calmable bool) *drawnRun {
	t.Helper()
	n := 1 + max(r.Intn(6), r.Intn(6))
	limit := 4000
	if !calmable {
		limit = []int{20, 100, 400}[r.Intn(3)]
	}
	return &drawnRun{
		g: group(t, n, 1+r.Intn(8), limit), n: n, calmable: calmable, late: r.Intn(2) == 0,
		casts: make([][]api.Event, n), spoilt: map[string]bool{},
	}
}

// up are the processes that have not crashed.
func (d *drawnRun) up() []int {
	var l []int
	for p := range d.n {
		if !slices.Contains(d.down, p) {
			l = append(l, p)
		}
	}
	return l
}

// steps lets drawn things happen.
func (d *drawnRun) steps(t *testing.T, r *rand.Rand, count int) {
	t.Helper()
	for range count {
		// The lower ones are those that change views.
		p := min(r.Intn(d.n), r.Intn(d.n))
		switch c := r.Intn(60); {
		case c < 7:
			d.cast(t, p)
		case c < 12:
			d.g.Tick(p)
		case c == 12 && r.Intn(4) == 0:
			d.crash(t, r.Intn(d.n))
		case c < 15:
			d.suspect(r, p)
		case c == 15 && r.Intn(2) == 0:
			d.g.Round()
		case d.g.Flight() > 0:
			d.befall(t, r)
		}
	}
}

// cast lets a process cast a text that no other message has.
func (d *drawnRun) cast(t *testing.T, p int) {
	t.Helper()
	d.told++
	text, x := strconv.Itoa(d.told), state(t, d.g, p)
	if d.g.Cast(p, text) == api.OK {
		d.casts[p] = append(d.casts[p], in(x.View, hasCast(p, x.Row[p]+1, text)))
	}
}

// crash takes a process down, unless too few would be left to come to rest.
func (d *drawnRun) crash(t *testing.T, p int) {
	t.Helper()
	if slices.Contains(d.down, p) {
		return
	}
	d.down = append(d.down, p)
	if d.calmable && !d.enough(t) {
		d.down = d.down[:len(d.down)-1]
		return
	}
	crash(t, d.g, p)
}

// enough: more than half of the members of the newest view that one of those that are up is in are up (P16).
func (d *drawnRun) enough(t *testing.T) bool {
	t.Helper()
	var newest api.Proc
	for _, p := range d.up() {
		if x := state(t, d.g, p); newest.Members == 0 || x.View > newest.View {
			newest = x
		}
	}
	return 2*bits.OnesCount(uint(newest.Members&number(d.up()))) > bits.OnesCount(uint(newest.Members))
}

// suspect lets p suspect one that has crashed; or now and then, if it need not come to rest, anybody.
func (d *drawnRun) suspect(r *rand.Rand, p int) {
	if len(d.down) > 0 {
		d.g.Suspect(p, d.down[r.Intn(len(d.down))])
	} else if !d.calmable && r.Intn(8) == 0 {
		d.g.Suspect(p, r.Intn(d.n))
	}
}

// duel lets two processes come to change the view at once: each suspects all below it, and perhaps one above it.
func (d *drawnRun) duel(r *rand.Rand) {
	first := r.Intn(d.n)
	for _, p := range []int{first / 2, first} {
		for q := range p {
			d.g.Suspect(p, q)
		}
		d.g.Suspect(p, max(p, r.Intn(d.n)))
	}
}

// befall lets something drawn happen to a frame in flight; that others go ahead of it turns them about.
func (d *drawnRun) befall(t *testing.T, r *rand.Rand) {
	t.Helper()
	k := d.drawFrame(t, r)
	if d.late && bytesOf(t, d.g, k)[0] == api.FInstall && r.Intn(32) > 0 {
		return
	}
	switch r.Intn(16) {
	case 0:
		wantErr(t, "P7: Drop", d.g.Drop(k), api.OK)
	case 1:
		wantErr(t, "P7: Copy", d.g.Copy(k), api.OK)
	case 2:
		d.spoil(t, r, k)
	default:
		deliver(t, d.g, k)
	}
}

// drawFrame is the number of a frame in flight: mostly of one about the change of a view, else rather of an older one.
func (d *drawnRun) drawFrame(t *testing.T, r *rand.Rand) int {
	t.Helper()
	var ballots []int
	for k := range d.g.Flight() {
		if bytesOf(t, d.g, k)[0] >= api.FFlush {
			ballots = append(ballots, k)
		}
	}
	if len(ballots) > 0 && r.Intn(4) > 0 {
		return ballots[r.Intn(len(ballots))]
	}
	return r.Intn(1 + r.Intn(d.g.Flight()))
}

// spoil spoils a frame in one byte, unless it is spoilt already.
func (d *drawnRun) spoil(t *testing.T, r *rand.Rand, k int) {
	t.Helper()
	s := bytesOf(t, d.g, k)
	if d.spoilt[s] {
		return
	}
	wantErr(t, "P7: Corrupt", d.g.Corrupt(k, r.Intn(len(s)), 1+r.Intn(255)), api.OK)
	d.spoilt[bytesOf(t, d.g, k)] = true
}

// wantBackAndForth: what is in flight is a frame which is written as it stands there, unless it was spoilt: then it is none. It tells which kinds there were.
func (d *drawnRun) wantBackAndForth(t *testing.T) [8]int {
	t.Helper()
	var kinds [8]int
	for k := range d.g.Flight() {
		s := bytesOf(t, d.g, k)
		f, e := wire.Decode(s)
		if d.spoilt[s] {
			wantErr(t, "P16: Decode of a frame that was spoilt in one byte", e, api.ErrFrame)
			kinds[0]++
			continue
		}
		wantErr(t, "P16: Decode of a frame", e, api.OK)
		if encode(t, f) != s {
			t.Fatalf("P16: %x is read as %+v, and that is written as %x", s, f, encode(t, f))
		}
		kinds[f.Kind]++
	}
	return kinds
}
