package cpu_test

import (
	"math/big"
	"testing"

	"firewall/api"
	"firewall/codec"
	"firewall/cpu"
)

var some = []uint64{0, 1, 2, 3, 5, 31, 32, 33, 63, 64, 100, 1<<31 - 1, 1 << 31, 1<<31 + 1, 1<<32 - 1, 1 << 32, 1<<32 + 1, 1<<62 + 3, 1<<63 - 1, 1 << 63, 1<<63 + 1, 1<<64 - 2, 1<<64 - 1, 0x0123456789abcdef, 0xfedcba9876543210}

// at is a state with numbers everywhere, and some registers as they are told.
func at(regs map[int]uint64) cpu.State {
	s := cpu.State{PC: 77, Z: true, C: true}
	for i := range s.R {
		s.R[i] = uint64(i)<<40 + 9
	}
	for r, v := range regs {
		s.R[r] = v
	}
	return s
}

func TestExamples(t *testing.T) {
	type flags struct{ z, s, c, o bool }
	for n, x := range []struct {
		x      api.X
		before map[int]uint64
		behind map[int]uint64
		f      flags
	}{
		{api.X{Kind: api.XAlu, Alu: api.AluAdd, Wide: true, Src: api.RBX}, map[int]uint64{0: 1<<64 - 1, 3: 1}, map[int]uint64{0: 0}, flags{z: true, c: true}},
		{api.X{Kind: api.XAluImm, Alu: api.AluSub, Imm: 1}, map[int]uint64{0: 1 << 32}, map[int]uint64{0: 1<<32 - 1}, flags{s: true, c: true}},
		{api.X{Kind: api.XAlu, Alu: api.AluCmp, Wide: true, Src: api.RBX}, map[int]uint64{0: 1 << 63, 3: 1}, nil, flags{o: true}},
		{api.X{Kind: api.XAlu, Alu: api.AluCmp, Src: api.RBX}, map[int]uint64{0: 7<<40 + 5, 3: 5}, nil, flags{z: true}},
		{api.X{Kind: api.XNeg, Wide: true}, map[int]uint64{0: 1 << 63}, map[int]uint64{0: 1 << 63}, flags{s: true, c: true, o: true}},
		{api.X{Kind: api.XNeg}, map[int]uint64{0: 7 << 40}, map[int]uint64{0: 0}, flags{z: true}},
		{api.X{Kind: api.XMul, Wide: true, Dst: api.RBX}, map[int]uint64{0: 1 << 63, 3: 4}, map[int]uint64{0: 0, 2: 2}, flags{z: true, c: true}},
		{api.X{Kind: api.XMul, Dst: api.RBX}, map[int]uint64{0: 5<<32 + 1<<31, 3: 6<<32 + 4}, map[int]uint64{0: 0, 2: 2}, flags{z: true, c: true}},
		{api.X{Kind: api.XDiv, Dst: api.RBX}, map[int]uint64{0: 7, 2: 0, 3: 2}, map[int]uint64{0: 3, 2: 1}, flags{z: true, c: true}},
		{api.X{Kind: api.XDiv, Dst: api.RBX}, map[int]uint64{0: 9<<32 + 7, 2: 9<<32 + 1, 3: 8<<32 + 2}, map[int]uint64{0: 1<<31 + 3, 2: 1}, flags{z: true, c: true}},
		{api.X{Kind: api.XDiv, Wide: true, Dst: api.RBX}, map[int]uint64{0: 5, 2: 1, 3: 1 << 63}, map[int]uint64{0: 2, 2: 5}, flags{z: true, c: true}},
		{api.X{Kind: api.XMov, Dst: api.R9, Src: api.RAX}, map[int]uint64{0: 1<<63 + 5}, map[int]uint64{9: 5}, flags{z: true, c: true}},
		{api.X{Kind: api.XMov, Wide: true, Dst: api.R9, Src: api.RAX}, map[int]uint64{0: 1<<63 + 5}, map[int]uint64{9: 1<<63 + 5}, flags{z: true, c: true}},
		{api.X{Kind: api.XImm, Wide: true, Imm: -1}, nil, map[int]uint64{0: 1<<64 - 1}, flags{z: true, c: true}},
		{api.X{Kind: api.XAbs, Wide: true, Imm: -1 << 63}, nil, map[int]uint64{0: 1 << 63}, flags{z: true, c: true}},
		{api.X{Kind: api.XFence}, nil, nil, flags{z: true, c: true}},
		{api.X{Kind: api.XTest, Dst: 1, Src: 2}, map[int]uint64{1: 7<<32 + 1<<31, 2: 1<<31 + 1}, nil, flags{s: true}},
		{api.X{Kind: api.XTest, Wide: true, Dst: 1, Src: 2}, map[int]uint64{1: 4, 2: 3}, nil, flags{z: true}},
		{api.X{Kind: api.XImul, Dst: 1, Src: 2}, map[int]uint64{1: 1<<40 + 3, 2: 1<<31 + 5}, map[int]uint64{1: 1<<31 + 15}, flags{z: true, c: true}},
		{api.X{Kind: api.XShiftCl, Alu: api.ShiftLeft, Dst: api.RCX}, map[int]uint64{1: 33}, map[int]uint64{1: 66}, flags{z: true, c: true}},
		{api.X{Kind: api.XShiftCl, Alu: api.ShiftLeft, Wide: true, Dst: api.RBX}, map[int]uint64{1: 65, 3: 3}, map[int]uint64{3: 6}, flags{z: true, c: true}},
		{api.X{Kind: api.XShift, Alu: api.ShiftArith, Dst: api.RBX, Imm: 4}, map[int]uint64{3: 5<<32 + 1<<31}, map[int]uint64{3: 0xf8000000}, flags{z: true, c: true}},
		{api.X{Kind: api.XShift, Alu: api.ShiftRight, Dst: api.RBX}, map[int]uint64{3: 5<<32 + 7}, map[int]uint64{3: 7}, flags{z: true, c: true}},
	} {
		s := at(x.before)
		want := s
		for r, v := range x.behind {
			want.R[r] = v
		}
		want.Z, want.S, want.C, want.O = x.f.z, x.f.s, x.f.c, x.f.o
		if got, e := cpu.Exec(x.x, s); got != want || e != api.OK {
			t.Errorf("%d: %+v: %+v, %v, want %+v", n, x.x, got, e, want)
		}
	}
}

func TestErrors(t *testing.T) {
	for _, x := range []struct {
		x      api.X
		before map[int]uint64
		e      api.Errno
	}{
		{api.X{}, nil, api.ErrArg}, {api.X{Kind: 99}, nil, api.ErrArg}, {api.X{Kind: api.XMov, Dst: 16}, nil, api.ErrArg}, {api.X{Kind: api.XAlu, Alu: 2}, nil, api.ErrArg}, {api.X{Kind: api.XImm}, nil, api.ErrArg}, {api.X{Kind: api.XFence, Dst: 1}, nil, api.ErrArg}, {api.X{Kind: api.XShift, Alu: 4, Imm: 32}, nil, api.ErrArg},
		{api.X{Kind: api.XLoad, Size: 4}, nil, api.ErrArg}, {api.X{Kind: api.XStore, Size: 4}, nil, api.ErrArg}, {api.X{Kind: api.XJmp}, nil, api.ErrArg}, {api.X{Kind: api.XJcc, Cond: 2}, nil, api.ErrArg}, {api.X{Kind: api.XPush}, nil, api.ErrArg}, {api.X{Kind: api.XPop}, nil, api.ErrArg}, {api.X{Kind: api.XRet}, nil, api.ErrArg}, {api.X{Kind: api.XCall}, nil, api.ErrArg},
		{api.X{Kind: api.XDiv, Dst: 3}, map[int]uint64{2: 0, 3: 0}, api.ErrDiv}, {api.X{Kind: api.XDiv, Dst: 3}, map[int]uint64{2: 0, 3: 1 << 32}, api.ErrDiv}, {api.X{Kind: api.XDiv, Dst: 3}, map[int]uint64{2: 5, 3: 5}, api.ErrDiv}, {api.X{Kind: api.XDiv, Wide: true, Dst: 3}, map[int]uint64{2: 5, 3: 4}, api.ErrDiv}, {api.X{Kind: api.XDiv, Wide: true, Dst: 3}, map[int]uint64{2: 0, 3: 0}, api.ErrDiv}, {api.X{Kind: api.XDiv, Wide: true, Dst: 2}, map[int]uint64{2: 7}, api.ErrDiv},
		{api.X{Kind: api.XDiv, Dst: 3}, map[int]uint64{2: 5 << 32, 3: 5}, api.OK},
	} {
		s, e := cpu.Exec(x.x, at(x.before))
		if e != x.e || e != api.OK && s != (cpu.State{}) {
			t.Errorf("%+v: %+v, %v", x.x, s, e)
		}
	}
}

// exact tells what two numbers come to, as numbers without an end.
func exact(alu int, a, b *big.Int) *big.Int {
	r := new(big.Int)
	switch alu {
	case api.AluAdd:
		return r.Add(a, b)
	case api.AluSub, api.AluCmp:
		return r.Sub(a, b)
	case api.AluOr:
		return r.Or(a, b)
	case api.AluAnd:
		return r.And(a, b)
	}
	return r.Xor(a, b)
}

// TestAlu holds arithmetic and flags against numbers without an end.
func TestAlu(t *testing.T) {
	for _, alu := range []int{api.AluAdd, api.AluOr, api.AluAnd, api.AluSub, api.AluXor, api.AluCmp} {
		for _, wide := range []bool{true, false} {
			bits := uint(32)
			if wide {
				bits = 64
			}
			end, half := new(big.Int).Lsh(big.NewInt(1), bits), new(big.Int).Lsh(big.NewInt(1), bits-1)
			read := func(v uint64) (plain, signed *big.Int) {
				plain = new(big.Int).Mod(new(big.Int).SetUint64(v), end)
				signed = new(big.Int).Set(plain)
				if plain.Cmp(half) >= 0 {
					signed.Sub(signed, end)
				}
				return
			}
			for _, a := range some {
				for _, b := range some {
					x := api.X{Kind: api.XAlu, Alu: alu, Wide: wide, Dst: 6, Src: 9}
					s := at(map[int]uint64{6: a, 9: b})
					got, e := cpu.Exec(x, s)
					pa, sa := read(a)
					pb, sb := read(b)
					whole := exact(alu, pa, pb)
					r := new(big.Int).Mod(whole, end)
					want := s
					if alu != api.AluCmp {
						want.R[6] = r.Uint64()
					}
					want.Z, want.S = r.Sign() == 0, r.Cmp(half) >= 0
					want.C = whole.Cmp(r) != 0
					sum := exact(alu, sa, sb)
					want.O = sum.Cmp(half) >= 0 || sum.Cmp(new(big.Int).Neg(half)) < 0
					if got != want || e != api.OK {
						t.Fatalf("%+v of %d and %d: %+v, want %+v", x, a, b, got, want)
					}
					if imm := int64(int32(b)); uint64(imm) == b {
						x = api.X{Kind: api.XAluImm, Alu: alu, Wide: wide, Dst: 6, Imm: imm}
						if g, _ := cpu.Exec(x, s); g != want {
							t.Fatalf("%+v of %d: %+v, want %+v", x, a, g, want)
						}
					}
				}
			}
		}
	}
}

func TestMulAndDiv(t *testing.T) {
	for _, a := range some {
		for _, b := range some {
			s := at(map[int]uint64{api.RAX: a, api.RBX: b})
			got, _ := cpu.Exec(api.X{Kind: api.XMul, Wide: true, Dst: api.RBX}, s)
			p := new(big.Int).Mul(new(big.Int).SetUint64(a), new(big.Int).SetUint64(b))
			high := new(big.Int).Rsh(p, 64)
			want := s
			want.R[api.RAX], want.R[api.RDX] = a*b, high.Uint64()
			if got != want {
				t.Errorf("%d times %d: %+v", a, b, got)
			}
			narrow, _ := cpu.Exec(api.X{Kind: api.XMul, Dst: api.RBX}, s)
			q := uint64(uint32(a)) * uint64(uint32(b))
			want.R[api.RAX], want.R[api.RDX] = uint64(uint32(q)), q>>32
			if narrow != want {
				t.Errorf("%d times %d, not wide: %+v", a, b, narrow)
			}
			if b == 0 {
				continue
			}
			// What was multiplied, and something below b, is divided again.
			got.R[api.RDX], got.R[api.RAX] = a%b, b/2
			d, e := cpu.Exec(api.X{Kind: api.XDiv, Wide: true, Dst: api.RBX}, got)
			n := new(big.Int).Add(new(big.Int).Lsh(new(big.Int).SetUint64(a%b), 64), new(big.Int).SetUint64(b/2))
			quo, rem := new(big.Int).QuoRem(n, new(big.Int).SetUint64(b), new(big.Int))
			want = got
			want.R[api.RAX], want.R[api.RDX] = quo.Uint64(), rem.Uint64()
			if d != want || e != api.OK {
				t.Errorf("%v by %d: %+v, %v", n, b, d, e)
			}
		}
	}
}

func TestTaken(t *testing.T) {
	for n := range 16 {
		s := cpu.State{Z: n&1 > 0, S: n&2 > 0, C: n&4 > 0, O: n&8 > 0, PC: 9}
		want := map[int]bool{api.CcB: s.C, api.CcE: s.Z, api.CcBe: s.C || s.Z, api.CcL: s.S != s.O, api.CcLe: s.Z || s.S != s.O}
		for _, c := range []int{api.CcB, api.CcE, api.CcBe, api.CcL, api.CcLe} {
			want[c+1] = !want[c]
		}
		for c := -1; c < 20; c++ {
			if k := cpu.Taken(c, s); k != want[c] {
				t.Errorf("Taken(%d, %+v) = %v", c, s, k)
			}
		}
	}
	for _, a := range some {
		for _, b := range some {
			for _, wide := range []bool{true, false} {
				s, _ := cpu.Exec(api.X{Kind: api.XAlu, Alu: api.AluCmp, Wide: wide, Dst: 1, Src: 2}, at(map[int]uint64{1: a, 2: b}))
				u, v, x, y := a, b, int64(a), int64(b)
				if !wide {
					u, v, x, y = uint64(uint32(a)), uint64(uint32(b)), int64(int32(a)), int64(int32(b))
				}
				for c, want := range map[int]bool{api.CcB: u < v, api.CcAe: u >= v, api.CcE: u == v, api.CcNe: u != v, api.CcBe: u <= v, api.CcA: u > v, api.CcL: x < y, api.CcGe: x >= y, api.CcLe: x <= y, api.CcG: x > y} {
					if cpu.Taken(c, s) != want {
						t.Errorf("behind %d and %d (%v) the condition %d is %v", a, b, wide, c, !want)
					}
				}
			}
		}
	}
}

// TestOthersStay: what is not wide leaves the upper half 0; registers that are not named stay.
func TestOthersStay(t *testing.T) {
	for _, kind := range []int{api.XMov, api.XAlu, api.XAluImm, api.XNeg, api.XImul, api.XShift, api.XShiftCl, api.XMul, api.XDiv, api.XTest} {
		for dst := range 16 {
			x := api.X{Kind: kind, Dst: dst}
			switch kind {
			case api.XShift, api.XShiftCl:
				x.Alu = api.ShiftRight
			case api.XAlu, api.XMov, api.XImul:
				x.Src = 15 - dst
			}
			if !codec.Valid(x) {
				t.Fatal(x)
			}
			s := at(map[int]uint64{api.RDX: 1, dst: 1<<40 + 1<<20})
			got, e := cpu.Exec(x, s)
			if dst == api.RDX && kind == api.XDiv {
				continue
			}
			if e != api.OK || got.PC != s.PC {
				t.Fatal(x, e)
			}
			for r := range 16 {
				named := r == dst && kind != api.XTest || (kind == api.XMul || kind == api.XDiv) && (r == api.RAX || r == api.RDX)
				if !named && got.R[r] != s.R[r] {
					t.Errorf("%+v: register %d was %#x, and is %#x", x, r, s.R[r], got.R[r])
				}
				if r == dst && kind != api.XMul && kind != api.XDiv && kind != api.XTest && got.R[r]>>32 != 0 {
					t.Errorf("%+v: the upper half of %#x", x, got.R[r])
				}
			}
		}
	}
}
