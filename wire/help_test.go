package wire_test

import (
	"hash/crc32"
	"reflect"
	"strings"
	"testing"

	"chorus/api"
	"chorus/wire"
)

// sealed is some bytes and behind them their sum, which another hand has worked out.
func sealed(body ...byte) string {
	n := crc32.ChecksumIEEE(body)
	return string(body) + string([]byte{byte(n >> 24), byte(n >> 16), byte(n >> 8), byte(n)})
}

// reseal puts the right sum behind bytes that were tampered with.
func reseal(s string) string { return sealed([]byte(s[:len(s)-4])...) }

// full is a frame that fills every field; full's bytes are fullBody.
func full() api.Frame {
	return api.Frame{
		Kind: api.FState, From: 1, To: 2, Members: 0x2a,
		View: 0x01020304, Ballot: 0x7f000001, Voted: 0x00ff00fe,
		Row: []int{1, 20, 0}, Cut: []int{5, 6},
		Msgs: []api.Msg{
			{Sender: 0, Seq: 1, Time: []int{1, 0, 2}, Text: "a\x00\xff"},
			{Sender: 5, Seq: 20, Time: nil, Text: ""},
		},
	}
}

func fullBody() []byte {
	return []byte{
		4, 1, 2, 0x2a,
		1, 2, 3, 4, 0x7f, 0, 0, 1, 0, 0xff, 0, 0xfe,
		3, 1, 20, 0,
		2, 5, 6,
		2,
		0, 1, 3, 1, 0, 2, 3, 'a', 0, 0xff,
		5, 20, 0, 0,
	}
}

// largest is a frame in which every number and every list is as great as it may be.
func largest() api.Frame {
	six := func() []int { return []int{20, 20, 20, 20, 20, 20} }
	f := api.Frame{
		Kind: 7, From: 5, To: 5, Members: 63,
		View: 1<<31 - 1, Ballot: 1<<31 - 1, Voted: 1<<31 - 1,
		Row: six(), Cut: six(),
	}
	for range 200 {
		f.Msgs = append(f.Msgs, api.Msg{Sender: 5, Seq: 20, Time: six(), Text: strings.Repeat("\xff", 16)})
	}
	return f
}

func mustEncode(t *testing.T, f api.Frame) string {
	t.Helper()
	s, e := wire.Encode(f)
	if e != api.OK {
		t.Fatalf("Encode(%+v): error %d", f, e)
	}
	return s
}

func mustDecode(t *testing.T, s string) api.Frame {
	t.Helper()
	f, e := wire.Decode(s)
	if e != api.OK {
		t.Fatalf("Decode(%x): error %d", s, e)
	}
	return f
}

func wantNoFrame(t *testing.T, what string, s string) {
	t.Helper()
	if f, e := wire.Decode(s); e != api.ErrFrame || !reflect.DeepEqual(f, api.Frame{}) {
		t.Errorf("%s: Decode(%x) = %+v, %d, want no frame and ErrFrame", what, s, f, e)
	}
}

// plain makes every empty list nil, as the two count as one and the same.
func plain(f api.Frame) api.Frame {
	f.Row, f.Cut = plainList(f.Row), plainList(f.Cut)
	var l []api.Msg
	for _, m := range f.Msgs {
		m.Time = plainList(m.Time)
		l = append(l, m)
	}
	f.Msgs = l
	return f
}

func plainList(l []int) []int {
	if len(l) == 0 {
		return nil
	}
	return l
}

func wantSame(t *testing.T, what string, got, want api.Frame) {
	t.Helper()
	if !reflect.DeepEqual(plain(got), plain(want)) {
		t.Errorf("%s: %+v, want %+v", what, got, want)
	}
}
