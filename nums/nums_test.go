package nums_test

import (
	"strings"
	"testing"

	"firewall/nums"
)

// some are numbers whose bits lie at all kinds of places.
var some = []uint64{0, 1, 2, 5, 127, 128, 255, 256, 513, 1<<15 - 1, 1 << 15, 1<<31 - 1, 1 << 31, 1 << 32, 1<<32 + 7, 1<<63 - 1, 1 << 63, 1<<64 - 128, 1<<64 - 1, 0x0123456789abcdef, 0xfedcba9876543210}

func TestNum(t *testing.T) {
	for s, want := range map[string]uint64{
		"":                                     0,
		"\x01":                                 1,
		"\x01\x02":                             513,
		"\xff":                                 255,
		"\x00\x00\x00\x80":                     1 << 31,
		"\x08\x07\x06\x05\x04\x03\x02\x01":     0x0102030405060708,
		strings.Repeat("\xff", 9):              1<<64 - 1,
		"\x05\x00\x00\x00\x00\x00\x00\x00\x09": 5,
		"\x01\x00\x00\x00\x00\x00\x00\x80" + "tail": 1<<63 + 1,
	} {
		if v := nums.Num(s); v != want {
			t.Errorf("Num(%q) = %d, want %d", s, v, want)
		}
	}
}

func TestBytes(t *testing.T) {
	for _, x := range []struct {
		v    uint64
		n    int
		want string
	}{
		{513, 2, "\x01\x02"}, {513, 1, "\x01"}, {513, 0, ""}, {513, 9, ""}, {513, -1, ""}, {513, 1 << 40, ""}, {513, -1 << 63, ""},
		{0x0102030405060708, 8, "\x08\x07\x06\x05\x04\x03\x02\x01"}, {0x0102030405060708, 7, "\x08\x07\x06\x05\x04\x03\x02"},
		{1<<64 - 1, 3, "\xff\xff\xff"}, {0, 4, "\x00\x00\x00\x00"},
	} {
		if s := nums.Bytes(x.v, x.n); s != x.want {
			t.Errorf("Bytes(%d, %d) = %q, want %q", x.v, x.n, s, x.want)
		}
	}
}

func TestLowAndSign(t *testing.T) {
	for _, x := range []struct {
		v         uint64
		bits      int
		low, sign uint64
	}{
		{513, 8, 1, 1}, {513, 64, 513, 513}, {513, -1, 0, 0}, {513, 0, 0, 0}, {513, 65, 513, 513},
		{128, 8, 128, 1<<64 - 128}, {127, 8, 127, 127}, {1, 1, 1, 1<<64 - 1}, {5, 0, 0, 0}, {2, 1, 0, 0},
		{1 << 31, 32, 1 << 31, 1<<64 - 1<<31}, {1<<40 + 7, 32, 7, 7}, {1 << 63, 64, 1 << 63, 1 << 63}, {1 << 63, 63, 0, 0},
		{3 << 62, 63, 1 << 62, 3 << 62}, {1<<64 - 1, 1 << 40, 1<<64 - 1, 1<<64 - 1}, {7, -1 << 63, 0, 0},
	} {
		if v := nums.Low(x.v, x.bits); v != x.low {
			t.Errorf("Low(%d, %d) = %d, want %d", x.v, x.bits, v, x.low)
		}
		if v := nums.Sign(x.v, x.bits); v != x.sign {
			t.Errorf("Sign(%d, %d) = %d, want %d", x.v, x.bits, v, x.sign)
		}
	}
}

func TestThereAndBack(t *testing.T) {
	for _, v := range some {
		for n := range 9 {
			s := nums.Bytes(v, n)
			if nums.Num(s) != nums.Low(v, 8*n) || nums.Bytes(nums.Num(s), n) != s || len(s) != n {
				t.Errorf("%d in %d bytes is %q", v, n, s)
			}
		}
		for bits := -2; bits < 70; bits++ {
			l, s := nums.Low(v, bits), nums.Sign(v, bits)
			if nums.Low(l, bits) != l || nums.Sign(s, bits) != s || nums.Low(s, bits) != l || nums.Sign(l, bits) != s {
				t.Errorf("%d in %d bits: %d, %d", v, bits, l, s)
			}
		}
	}
}
