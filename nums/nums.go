// Package nums is layer 1: numbers of 64 bits as bytes, and parts of them.
package nums

const (
	wordBytes = 8
	wordBits  = 64
	byteBits  = 8
)

// Num is a text's number: its first eight bytes, the lowest one first.
func Num(s string) uint64 {
	var v uint64
	for i := range min(len(s), wordBytes) {
		v |= uint64(s[i]) << (byteBits * i)
	}
	return v
}

// Bytes is the text of a number's n lowest bytes, the lowest one first.
func Bytes(v uint64, n int) string {
	if n < 0 || n > wordBytes {
		return ""
	}
	var b [wordBytes]byte
	for i := range n {
		b[i] = byte(v >> (byteBits * i))
	}
	return string(b[:n])
}

// Low is a number's lowest bits.
func Low(v uint64, bits int) uint64 {
	switch {
	case bits <= 0:
		return 0
	case bits >= wordBits:
		return v
	}
	return v & (1<<bits - 1)
}

// Sign is a number's lowest bits, their sign told on.
func Sign(v uint64, bits int) uint64 {
	switch {
	case bits <= 0:
		return 0
	case bits >= wordBits:
		return v
	}
	up := wordBits - bits
	return uint64(int64(v<<up) >> up)
}
