package wire_test

import (
	"hash/crc32"
	"math/rand"
	"testing"

	"chorus/wire"
)

func TestSumOfExamples(t *testing.T) {
	for s, want := range map[string]uint32{
		"":                 0,
		"123456789":        0xCBF43926,
		"\x00":             0xD202EF8D,
		"\x00\x00\x00\x00": 0x2144DF1C,
		"\xff\xff\xff\xff": 0xFFFFFFFF,
	} {
		if got := wire.Sum(s); got != want {
			t.Errorf("P3: Sum(%q) = %#x, want %#x", s, got, want)
		}
	}
}

func TestSumOfEveryByte(t *testing.T) {
	for b := range 256 {
		for _, l := range [][]byte{{byte(b)}, {'x', byte(b)}, {byte(b), 'x', byte(b)}} {
			if got, want := wire.Sum(string(l)), crc32.ChecksumIEEE(l); got != want {
				t.Errorf("P3: Sum(%x) = %#x, want %#x", l, got, want)
			}
		}
	}
}

func TestSumOfDrawnBytes(t *testing.T) {
	r := rand.New(rand.NewSource(3))
	for n := range 600 {
		l := make([]byte, n)
		r.Read(l)
		if got, want := wire.Sum(string(l)), crc32.ChecksumIEEE(l); got != want {
			t.Fatalf("P3: Sum(%x) = %#x, want %#x", l, got, want)
		}
	}
}
