package conds_test

import (
	"testing"

	"firewall/api"
	"firewall/conds"
)

var some = []uint64{0, 1, 2, 6, 7, 1<<31 - 1, 1 << 31, 1<<31 + 1, 1<<32 - 1, 1 << 32, 1<<32 + 1, 1<<32 + 1<<31, 1<<63 - 1, 1 << 63, 1<<63 + 1, 1<<64 - 2, 1<<64 - 1, 0xffffffff00000000, 0x0123456789abcdef}

func TestExamples(t *testing.T) {
	for _, x := range []struct {
		op   uint8
		wide bool
		a, b uint64
		want bool
	}{
		{api.JmpGt, true, 1 << 63, 1, true}, {api.JmpSgt, true, 1 << 63, 1, false},
		{api.JmpSlt, false, 1 << 31, 0, true}, {api.JmpSlt, true, 1 << 31, 0, false},
		{api.JmpSet, true, 6, 2, true}, {api.JmpSet, true, 6, 1, false}, {api.JmpAlways, true, 0, 0, true}, {api.JmpCall, true, 0, 0, false}, {api.JmpExit, true, 0, 0, false},
		{api.JmpEq, false, 1<<32 + 1, 1, true}, {api.JmpEq, true, 1<<32 + 1, 1, false}, {api.JmpSet, false, 1 << 32, 1 << 32, false}, {api.JmpSet, true, 0, 0, false},
	} {
		if h := conds.Holds(x.op, x.wide, x.a, x.b); h != x.want {
			t.Errorf("Holds(%#x, %v, %d, %d) = %v", x.op, x.wide, x.a, x.b, h)
		}
	}
}

// of tells a condition of numbers as Go has them.
func of[U uint32 | uint64, S int32 | int64](op uint8, a, b U, x, y S) bool {
	switch op {
	case api.JmpAlways:
		return true
	case api.JmpEq:
		return a == b
	case api.JmpNe:
		return a != b
	case api.JmpGt:
		return a > b
	case api.JmpGe:
		return a >= b
	case api.JmpLt:
		return a < b
	case api.JmpLe:
		return a <= b
	case api.JmpSgt:
		return x > y
	case api.JmpSge:
		return x >= y
	case api.JmpSlt:
		return x < y
	case api.JmpSle:
		return x <= y
	case api.JmpSet:
		return a&b != 0
	}
	return false
}

func TestAllOps(t *testing.T) {
	for op := range 256 {
		o := uint8(op)
		for _, a := range some {
			for _, b := range some {
				if h := conds.Holds(o, true, a, b); h != of(o, a, b, int64(a), int64(b)) {
					t.Errorf("Holds(%#x, wide, %d, %d) = %v", o, a, b, h)
				}
				if h := conds.Holds(o, false, a, b); h != of(o, uint32(a), uint32(b), int32(a), int32(b)) {
					t.Errorf("Holds(%#x, not wide, %d, %d) = %v", o, a, b, h)
				}
			}
		}
	}
}

func TestWhatFollows(t *testing.T) {
	pairs := [][2]uint8{{api.JmpEq, api.JmpNe}, {api.JmpGt, api.JmpLe}, {api.JmpLt, api.JmpGe}, {api.JmpSgt, api.JmpSle}, {api.JmpSlt, api.JmpSge}}
	for _, a := range some {
		for _, b := range some {
			for _, wide := range []bool{true, false} {
				for _, p := range pairs {
					if conds.Holds(p[0], wide, a, b) == conds.Holds(p[1], wide, a, b) {
						t.Errorf("of %#x and %#x not one holds: %d, %d", p[0], p[1], a, b)
					}
				}
				if conds.Holds(api.JmpGt, wide, a, b) != conds.Holds(api.JmpLt, wide, b, a) {
					t.Errorf("the other way about: %d, %d", a, b)
				}
			}
			if a>>63 == b>>63 && conds.Holds(api.JmpGt, true, a, b) != conds.Holds(api.JmpSgt, true, a, b) {
				t.Errorf("with like highest bits: %d, %d", a, b)
			}
		}
	}
}
