package wire

import "chorus/api"

// The functions here lean on frameFits: every number that they write as a byte is one.

func appendFrame(b []byte, f api.Frame) []byte {
	b = append(b, byte(f.Kind), byte(f.From), byte(f.To), byte(f.Members))
	b = appendWord(b, uint32(f.View))
	b = appendWord(b, uint32(f.Ballot))
	b = appendWord(b, uint32(f.Voted))
	b = appendList(b, f.Row)
	b = appendList(b, f.Cut)
	b = append(b, byte(len(f.Msgs)))
	for _, m := range f.Msgs {
		b = appendMsg(b, m)
	}
	return b
}

func appendMsg(b []byte, m api.Msg) []byte {
	b = append(b, byte(m.Sender), byte(m.Seq))
	b = appendList(b, m.Time)
	b = append(b, byte(len(m.Text)))
	return append(b, m.Text...)
}

func appendList(b []byte, l []int) []byte {
	b = append(b, byte(len(l)))
	for _, n := range l {
		b = append(b, byte(n))
	}
	return b
}

func appendWord(b []byte, w uint32) []byte {
	return append(b, byte(w>>24), byte(w>>16), byte(w>>8), byte(w))
}
