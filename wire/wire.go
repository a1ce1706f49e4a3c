// Package wire: frames as bytes: see DOC.md.
package wire

import "chorus/api"

// Sum is the check sum of some bytes (P3).
func Sum(s string) uint32 {
	word := ^uint32(0)
	for i := range len(s) {
		word ^= uint32(s[i])
		for range 8 {
			word = shiftOut(word)
		}
	}
	return ^word
}

// Encode writes a frame as bytes (P4).
func Encode(f api.Frame) (string, api.Errno) {
	if !frameFits(f) {
		return "", api.ErrFrame
	}
	body := appendFrame(nil, f)
	return string(appendWord(body, Sum(string(body)))), api.OK
}

// Decode reads a frame out of bytes (P5).
func Decode(s string) (api.Frame, api.Errno) {
	r := reader{rest: s}
	f := r.frame()
	// Writing the frame again asks all at once that can be wrong with s: its length, its sum and every bound of P4.
	if again, e := Encode(f); e != api.OK || again != s {
		return api.Frame{}, api.ErrFrame
	}
	return f, api.OK
}

// shiftOut is one bit's work of Sum.
func shiftOut(word uint32) uint32 {
	if word&1 == 1 {
		return word>>1 ^ 0xEDB88320
	}
	return word >> 1
}
