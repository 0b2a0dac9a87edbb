package alu_test

import (
	"math/big"
	"testing"

	"firewall/alu"
	"firewall/api"
)

var ops = []uint8{api.OpAdd, api.OpSub, api.OpMul, api.OpDiv, api.OpOr, api.OpAnd, api.OpLsh, api.OpRsh, api.OpNeg, api.OpMod, api.OpXor, api.OpMov, api.OpArsh}

var some = []uint64{0, 1, 2, 3, 7, 9, 31, 32, 33, 63, 64, 65, 100, 255, 256, 1<<31 - 1, 1 << 31, 1<<31 + 1, 1<<32 - 2, 1<<32 - 1, 1 << 32, 1<<32 + 1, 1<<32 + 7, 1<<63 - 1, 1 << 63, 1<<63 + 1, 1<<64 - 2, 1<<64 - 1, 0x0123456789abcdef, 0xfedcba9876543210}

func TestExamples(t *testing.T) {
	for _, x := range []struct {
		op      uint8
		wide    bool
		a, b, r uint64
	}{
		{api.OpSub, true, 1, 2, 1<<64 - 1}, {api.OpSub, false, 1, 2, 1<<32 - 1},
		{api.OpDiv, true, 7, 2, 3}, {api.OpDiv, true, 7, 0, 0}, {api.OpMod, true, 7, 2, 1}, {api.OpMod, true, 7, 0, 7},
		{api.OpMod, false, 1<<32 + 7, 1 << 32, 7}, {api.OpDiv, false, 7, 1 << 32, 0}, {api.OpDiv, true, 1<<64 - 1, 2, 1<<63 - 1},
		{api.OpLsh, true, 1, 65, 2}, {api.OpLsh, false, 1, 33, 2}, {api.OpLsh, false, 1 << 31, 1, 0}, {api.OpLsh, true, 3, 1<<64 - 1, 1 << 63},
		{api.OpArsh, true, 1 << 63, 63, 1<<64 - 1}, {api.OpRsh, true, 1 << 63, 63, 1}, {api.OpArsh, false, 1 << 31, 31, 1<<32 - 1}, {api.OpArsh, false, 1<<32 + 1<<30, 29, 2}, {api.OpArsh, true, 1 << 62, 61, 2},
		{api.OpRsh, false, 1<<33 + 4, 1, 2}, {api.OpRsh, false, 8, 35, 1},
		{api.OpNeg, false, 1, 9, 1<<32 - 1}, {api.OpNeg, true, 1, 9, 1<<64 - 1}, {api.OpNeg, true, 1 << 63, 0, 1 << 63}, {api.OpMov, false, 1, 1<<32 + 9, 9}, {api.OpMov, true, 1, 1<<32 + 9, 1<<32 + 9},
		{api.OpMul, false, 1 << 31, 2, 0}, {api.OpMul, true, 1 << 32, 1 << 31, 1 << 63}, {api.OpAdd, true, 1<<64 - 1, 1, 0}, {api.OpAdd, false, 1<<32 - 1, 1, 0},
		{api.OpOr, true, 12, 10, 14}, {api.OpAnd, true, 12, 10, 8}, {api.OpXor, true, 12, 10, 6}, {1, true, 5, 6, 0},
	} {
		if r := alu.Do(x.op, x.wide, x.a, x.b); r != x.r {
			t.Errorf("Do(%#x, %v, %d, %d) = %d, want %d", x.op, x.wide, x.a, x.b, r, x.r)
		}
	}
}

// told is what arithmetic comes to, by numbers without an end.
func told(op uint8, wide bool, a, b uint64) uint64 {
	bits := uint(64)
	if !wide {
		bits, a, b = 32, a%(1<<32), b%(1<<32)
	}
	x, y, r := new(big.Int).SetUint64(a), new(big.Int).SetUint64(b), new(big.Int)
	move := uint(b % uint64(bits))
	switch op {
	case api.OpAdd:
		r.Add(x, y)
	case api.OpSub:
		r.Sub(x, y)
	case api.OpMul:
		r.Mul(x, y)
	case api.OpDiv:
		if b != 0 {
			r.Div(x, y)
		}
	case api.OpMod:
		if r = x; b != 0 {
			r = new(big.Int).Mod(x, y)
		}
	case api.OpOr:
		r.Or(x, y)
	case api.OpAnd:
		r.And(x, y)
	case api.OpXor:
		r.Xor(x, y)
	case api.OpLsh:
		r.Lsh(x, move)
	case api.OpRsh:
		r.Rsh(x, move)
	case api.OpArsh:
		if x.Bit(int(bits)-1) == 1 {
			x.Sub(x, new(big.Int).Lsh(big.NewInt(1), bits))
		}
		r.Rsh(x, move)
	case api.OpNeg:
		r.Neg(x)
	case api.OpMov:
		r = y
	}
	return r.Mod(r, new(big.Int).Lsh(big.NewInt(1), bits)).Uint64()
}

func TestAgainstLongNumbers(t *testing.T) {
	for _, op := range ops {
		for _, wide := range []bool{true, false} {
			for _, a := range some {
				for _, b := range some {
					if r, w := alu.Do(op, wide, a, b), told(op, wide, a, b); r != w {
						t.Errorf("Do(%#x, %v, %d, %d) = %d, want %d", op, wide, a, b, r, w)
					}
				}
			}
		}
	}
}

func TestOtherOps(t *testing.T) {
	known := map[int]int{}
	for _, op := range ops {
		known[int(op)] = 1
	}
	for op := range 256 {
		for _, wide := range []bool{true, false} {
			if r := alu.Do(uint8(op), wide, 5, 3); known[op] == 0 && r != 0 {
				t.Errorf("Do(%#x, %v) = %d", op, wide, r)
			}
		}
	}
}

func TestWhatFollows(t *testing.T) {
	for _, a := range some {
		for _, b := range some {
			if alu.Do(api.OpSub, true, alu.Do(api.OpAdd, true, a, b), b) != a || alu.Do(api.OpXor, true, alu.Do(api.OpXor, true, a, b), b) != a {
				t.Errorf("%d and %d do not lead back", a, b)
			}
			if alu.Do(api.OpAdd, true, alu.Do(api.OpMul, true, b, alu.Do(api.OpDiv, true, a, b)), alu.Do(api.OpMod, true, a, b)) != a {
				t.Errorf("%d by %d", a, b)
			}
			for _, op := range ops {
				r := alu.Do(op, false, a, b)
				if r>>32 != 0 || alu.Do(op, false, a^7<<40, b^5<<33) != r {
					t.Errorf("op %#x of the lowest 32 bits of %d and %d: %d", op, a, b, r)
				}
			}
		}
	}
}
