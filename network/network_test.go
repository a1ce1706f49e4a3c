package network_test

import (
	"math"
	"slices"
	"testing"

	"chorus/api"
	"chorus/network"
)

func filled(limit int, texts ...string) *network.Network {
	n := network.New(limit)
	for i, s := range texts {
		n.Send(network.Parcel{To: i, Bytes: s})
	}
	return &n
}

func want(t *testing.T, n *network.Network, texts ...string) {
	t.Helper()
	var l []string
	for k := range n.Count() {
		s, e := n.Bytes(k)
		if e != api.OK {
			t.Fatalf("P7: Bytes(%d): error %d", k, e)
		}
		l = append(l, s)
	}
	if !slices.Equal(l, texts) {
		t.Errorf("P7: in flight are %q, want %q", l, texts)
	}
}

func TestSendPutsBehind(t *testing.T) {
	want(t, filled(9))
	want(t, filled(9, "a", "b", "c"), "a", "b", "c")
}

func TestSendLosesWhenFull(t *testing.T) {
	want(t, filled(1, "a", "b"), "a")
	want(t, filled(3, "a", "b", "c", "d"), "a", "b", "c")
}

func TestTake(t *testing.T) {
	n := filled(3, "a", "b", "c")
	if c, e := n.Take(1); c != (network.Parcel{To: 1, Bytes: "b"}) || e != api.OK {
		t.Errorf("P7: Take(1) = %+v, %d", c, e)
	}
	want(t, n, "a", "c")
	n.Send(network.Parcel{Bytes: "d"})
	want(t, n, "a", "c", "d")
}

func TestTakeAll(t *testing.T) {
	n := filled(2, "a", "b", "lost")
	n.Corrupt(1, 0, 3)
	if l := n.TakeAll(); !slices.Equal(l, []network.Parcel{{To: 0, Bytes: "a"}, {To: 1, Bytes: "a"}}) {
		t.Errorf("P15: TakeAll = %+v", l)
	}
	want(t, n)
	if l := n.TakeAll(); len(l) != 0 {
		t.Errorf("P15: TakeAll of nothing = %+v", l)
	}
	// There is room again, and what was taken out is not written into.
	l := filled(2, "a", "b")
	was := l.TakeAll()
	for _, s := range []string{"c", "d", "lost"} {
		l.Send(network.Parcel{Bytes: s})
	}
	want(t, l, "c", "d")
	if was[0].Bytes != "a" || was[1].Bytes != "b" {
		t.Errorf("P15: what was taken out has become %+v", was)
	}
}

func TestCopy(t *testing.T) {
	n := filled(4, "a", "b", "c")
	if e := n.Copy(1); e != api.OK {
		t.Errorf("P7: Copy(1) = %d", e)
	}
	want(t, n, "a", "b", "c", "b")
	if e := n.Copy(0); e != api.OK {
		t.Errorf("P7: Copy(0) in a network that is full = %d", e)
	}
	want(t, n, "a", "b", "c", "b")
	if c, _ := n.Take(3); c.To != 1 {
		t.Errorf("P7: the copy goes to %d, want 1", c.To)
	}
}

func TestCorrupt(t *testing.T) {
	for _, c := range []struct {
		at, bits int
		want     string
	}{{0, 1, "\x01\x00\xff"}, {2, 255, "\x00\x00\x00"}, {1, 128, "\x00\x80\xff"}} {
		n := filled(2, "x", "\x00\x00\xff")
		if e := n.Corrupt(1, c.at, c.bits); e != api.OK {
			t.Errorf("P7: Corrupt(1, %d, %d) = %d", c.at, c.bits, e)
		}
		want(t, n, "x", c.want)
	}
}

func TestCorruptRefused(t *testing.T) {
	n := filled(2, "x", "abc")
	for _, c := range [][2]int{{-1, 1}, {3, 1}, {0, 0}, {0, 256}, {0, -1}, {0, 257}, {math.MinInt, 1}, {math.MaxInt, 1}, {0, math.MinInt}, {0, math.MaxInt}} {
		if e := n.Corrupt(1, c[0], c[1]); e != api.ErrLarge {
			t.Errorf("P7: Corrupt(1, %d, %d) = %d, want ErrLarge", c[0], c[1], e)
		}
	}
	want(t, n, "x", "abc")
}

func TestCopyIsOfItsOwn(t *testing.T) {
	n := filled(2, "ab")
	n.Copy(0)
	n.Corrupt(1, 0, 3)
	want(t, n, "ab", "bb")
}

func TestNoSuchParcel(t *testing.T) {
	for _, k := range []int{-1, 2, 3, math.MinInt, math.MaxInt} {
		n := filled(9, "a", "b")
		if s, e := n.Bytes(k); s != "" || e != api.ErrNone {
			t.Errorf("P7: Bytes(%d) = %q, %d", k, s, e)
		}
		if c, e := n.Take(k); c != (network.Parcel{}) || e != api.ErrNone {
			t.Errorf("P7: Take(%d) = %+v, %d", k, c, e)
		}
		if e := n.Copy(k); e != api.ErrNone {
			t.Errorf("P7: Copy(%d) = %d", k, e)
		}
		if e := n.Corrupt(k, -1, 0); e != api.ErrNone {
			t.Errorf("P7: Corrupt(%d, -1, 0) = %d, want ErrNone ahead of ErrLarge", k, e)
		}
		want(t, n, "a", "b")
	}
}
