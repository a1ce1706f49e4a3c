package wire_test

import (
	"fmt"
	"math/rand"
	"strings"
	"testing"
	"unsafe"

	"chorus/api"
	"chorus/wire"
)

func TestDecodeExample(t *testing.T) {
	f := mustDecode(t, sealed(2, 0, 1, 0, 0, 0, 0, 2, 0, 0, 0, 0, 0, 0, 0, 0, 2, 3, 4, 0, 0))
	wantSame(t, "P5: example 1", f, api.Frame{Kind: api.FGossip, To: 1, View: 2, Row: []int{3, 4}})
}

func TestDecodeOrderOfFields(t *testing.T) {
	wantSame(t, "P5", mustDecode(t, sealed(fullBody()...)), full())
}

func TestDecodeTooShort(t *testing.T) {
	body := fullBody()
	whole := sealed(body...)
	for n := range whole {
		wantNoFrame(t, fmt.Sprintf("P5: the first %d bytes", n), whole[:n])
	}
	for n := range body {
		wantNoFrame(t, fmt.Sprintf("P5: the first %d bytes with a sum of their own", n), sealed(body[:n]...))
	}
	wantNoFrame(t, "P5: the sum of nothing", "\x00\x00\x00\x00")
}

func TestDecodeTooLong(t *testing.T) {
	whole := sealed(fullBody()...)
	for _, more := range []string{"\x00", "x", "\x00\x00\x00\x00", whole, strings.Repeat("\x00", 1<<20)} {
		wantNoFrame(t, "P5: bytes behind the sum", whole+more)
		wantNoFrame(t, "P5: bytes ahead of a frame", more+whole)
		if len(more) < 100 {
			wantNoFrame(t, "P5: bytes ahead of the sum", sealed(append(fullBody(), more...)...))
		}
	}
}

func TestDecodeWrongSum(t *testing.T) {
	body := string(fullBody())
	n := wire.Sum(body)
	for _, sum := range []uint32{0, ^uint32(0), ^n, n + 1, n - 1, n ^ 1<<31, n<<16 | n>>16} {
		wantNoFrame(t, "P5: another sum", body+string([]byte{byte(sum >> 24), byte(sum >> 16), byte(sum >> 8), byte(sum)}))
	}
	wantNoFrame(t, "P5: the sum's lowest byte first", body+string([]byte{byte(n), byte(n >> 8), byte(n >> 16), byte(n >> 24)}))
}

// highest is the value of a number's highest byte by which the number is at most high.
func highest(high, width int) int { return high >> (8 * (width - 1)) }

func TestDecodeNumbersOutOfBounds(t *testing.T) {
	for _, c := range numbers {
		for b := range 256 {
			body := fullBody()
			body[c.at] = byte(b)
			what := fmt.Sprintf("P5: %s with the byte %d", c.name, b)
			if b < c.low || b > highest(c.high, c.width) {
				wantNoFrame(t, what, sealed(body...))
				continue
			}
			f := full()
			wide := 0
			for _, x := range body[c.at : c.at+c.width] {
				wide = wide<<8 | int(x)
			}
			c.set(&f, wide)
			wantSame(t, what, mustDecode(t, sealed(body...)), f)
		}
	}
}

func TestDecodeWrongCounts(t *testing.T) {
	for name, at := range map[string]int{"Row": 16, "Cut": 20, "Msgs": 23, "first Time": 26, "first Text": 30, "last Time": 36, "last Text": 37} {
		for n := range 256 {
			body := fullBody()
			if int(body[at]) == n {
				continue
			}
			body[at] = byte(n)
			wantReadBack(t, fmt.Sprintf("P5: %s of %d", name, n), sealed(body...))
		}
	}
}

// wantReadBack: the bytes are either no frame, or those of the frame that is read out of them.
func wantReadBack(t *testing.T, what string, s string) bool {
	t.Helper()
	f, e := wire.Decode(s)
	if e != api.OK {
		wantNoFrame(t, what, s)
		return false
	}
	if again, e := wire.Encode(f); again != s || e != api.OK {
		t.Errorf("%s: Decode(%x) = %+v, of which Encode is %x, %d", what, s, f, again, e)
	}
	return true
}

func TestDecodeListsTooLong(t *testing.T) {
	head := []byte{4, 1, 2, 3, 0, 0, 0, 1, 0, 0, 0, 2, 0, 0, 0, 3}
	long := func(n int) []byte { return append([]byte{byte(n)}, make([]byte, n)...) }
	join := func(l ...[]byte) string {
		body := append([]byte{}, head...)
		for _, x := range l {
			body = append(body, x...)
		}
		return sealed(body...)
	}
	none, one := []byte{0}, []byte{1, 0, 1}
	for n := range 256 {
		for what, s := range map[string]string{
			"Row":  join(long(n), none, none),
			"Cut":  join(none, long(n), none),
			"Time": join(none, none, one, long(n), none),
			"Text": join(none, none, one, none, long(n)),
			"Msgs": join(none, none, []byte{byte(n)}, []byte(strings.Repeat("\x00\x01\x00\x00", n))),
		} {
			good := n <= map[string]int{"Row": 6, "Cut": 6, "Time": 6, "Text": 16, "Msgs": 200}[what]
			if wantReadBack(t, fmt.Sprintf("P5: %s of %d", what, n), s) != good {
				t.Errorf("P5: %s of %d: a frame: %v, want %v", what, n, !good, good)
			}
		}
	}
}

func TestDecodeSpoiltByte(t *testing.T) {
	for _, f := range []api.Frame{{Kind: 1}, {Kind: 2, To: 1, View: 2, Row: []int{3, 4}}, full()} {
		s := mustEncode(t, f)
		for at := range len(s) {
			for bits := 1; bits < 256; bits++ {
				b := []byte(s)
				b[at] ^= byte(bits)
				wantNoFrame(t, fmt.Sprintf("P16: byte %d spoilt by %d", at, bits), string(b))
			}
		}
	}
}

func TestDecodeSpoiltByteOfLargest(t *testing.T) {
	s := mustEncode(t, largest())
	for at := range len(s) {
		b := []byte(s)
		b[at] ^= byte(1 + at%255)
		wantNoFrame(t, fmt.Sprintf("P16: byte %d spoilt", at), string(b))
	}
}

func TestDecodeBackAndForth(t *testing.T) {
	r := rand.New(rand.NewSource(5))
	list := func() []int {
		l := make([]int, r.Intn(7))
		for i := range l {
			l[i] = r.Intn(21)
		}
		return l
	}
	for range 3000 {
		f := api.Frame{Kind: 1 + r.Intn(7), From: r.Intn(6), To: r.Intn(6), Members: r.Intn(64), View: r.Intn(1 << 31), Ballot: r.Intn(1 << 31), Voted: r.Intn(1 << 31), Row: list(), Cut: list()}
		for range r.Intn(8) {
			text := make([]byte, r.Intn(17))
			r.Read(text)
			f.Msgs = append(f.Msgs, api.Msg{Sender: r.Intn(6), Seq: 1 + r.Intn(20), Time: list(), Text: string(text)})
		}
		wantSame(t, "P16: back and forth", mustDecode(t, mustEncode(t, f)), f)
	}
}

func TestDecodeDrawnBytes(t *testing.T) {
	r := rand.New(rand.NewSource(7))
	for range 20000 {
		l := make([]byte, r.Intn(80))
		for i := range l {
			l[i] = byte(r.Intn(4))
		}
		wantReadBack(t, "P5: drawn bytes", string(l))
		wantReadBack(t, "P5: drawn bytes with their sum", sealed(l...))
	}
}

func FuzzDecode(f *testing.F) {
	f.Add("")
	f.Add(sealed(fullBody()...))
	f.Add(sealed(fullBody()[:30]...))
	f.Fuzz(func(t *testing.T, s string) {
		wantReadBack(t, "P5", s)
		wantReadBack(t, "P5: with a sum", sealed([]byte(s)...))
		if len(s) >= 4 {
			wantReadBack(t, "P5: with another sum", reseal(s))
		}
	})
}

// roomOf is a list with all the room behind it.
func roomOf(l []int) []int { return l[:cap(l)] }

func fill(l []int, n int) {
	for i := range l {
		l[i] = n
	}
}

func TestDecodeListsShareNoRoom(t *testing.T) {
	f := largest()
	s := mustEncode(t, f)
	a, b := mustDecode(t, s), mustDecode(t, s)
	lists := [][]int{a.Row, a.Cut}
	for _, m := range a.Msgs {
		lists = append(lists, m.Time)
	}
	for i, l := range lists {
		fill(roomOf(l), 1000+i)
	}
	for i, l := range lists {
		for _, n := range roomOf(l) {
			if n != 1000+i {
				t.Fatalf("P2: list %d shares room with list %d", i, n-1000)
			}
		}
	}
	for i := range a.Msgs[:cap(a.Msgs)] {
		a.Msgs[:cap(a.Msgs)][i] = api.Msg{}
	}
	wantSame(t, "P2: another answer", b, f)
	wantSame(t, "P2: a later answer", mustDecode(t, s), f)
}

func TestDecodeKeepsNoBytes(t *testing.T) {
	s := mustEncode(t, full())
	text := mustDecode(t, s).Msgs[0].Text
	start := uintptr(unsafe.Pointer(unsafe.StringData(s)))
	at := uintptr(unsafe.Pointer(unsafe.StringData(text)))
	if start <= at && at < start+uintptr(len(s)) {
		t.Errorf("P2: a text is a piece of the bytes that were handed in")
	}
}
