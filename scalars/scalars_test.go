package scalars_test

import (
	"testing"

	"firewall/alu"
	"firewall/api"
	"firewall/conds"
	"firewall/scalars"
	"firewall/spans"
	"firewall/tnums"
)

type N = scalars.N

const most = 1<<64 - 1

var seed = uint64(33)

func next(n int) int {
	seed = seed*6364136223846793005 + 1442695040888963407
	return int(seed>>33) % n
}

var points = []uint64{0, 1, 2, 3, 5, 7, 8, 31, 32, 33, 63, 64, 255, 1<<31 - 1, 1 << 31, 1<<31 + 7, 1<<32 - 1, 1 << 32, 1<<32 + 5, 1<<33 + 1, 1<<63 - 1, 1 << 63, 1<<63 + 1, most - 1<<31, most - 9, most - 1, most}

func point() uint64 { return points[next(len(points))] }

// some is an N with a few unknown bits, and ends that have some of its numbers between them.
func some() N {
	var t tnums.T
	for range next(5) {
		t.Mask |= 1 << []int{0, 1, 2, 3, 5, 30, 31, 32, 33, 62, 63}[next(11)]
	}
	t.Value = point() &^ t.Mask
	n := N{T: t, S: spans.Any()}
	l := all(n)
	a, b := l[next(len(l))], l[next(len(l))]
	switch next(5) {
	case 0:
		n.S.Lo, n.S.Hi = min(a, b), max(a, b)
	case 1:
		n.S.SLo, n.S.SHi = min(int64(a), int64(b)), max(int64(a), int64(b))
	case 2:
		n.S.Lo, n.S.SHi = a, int64(a)
	case 3:
		n.S = spans.Const(a)
	}
	return n
}

// all is all numbers of an N with a few unknown bits.
func all(n N) []uint64 {
	var l []uint64
	for sub := n.T.Mask; ; sub = (sub - 1) & n.T.Mask {
		if v := n.T.Value | sub; spans.Has(n.S, v) {
			l = append(l, v)
		}
		if sub == 0 {
			return l
		}
	}
}

func TestWords(t *testing.T) {
	if scalars.Const(7) != (N{tnums.Const(7), spans.Const(7)}) || scalars.Any() != (N{tnums.Any(), spans.Any()}) {
		t.Error("Const, Any")
	}
	for n := -2; n < 12; n++ {
		b := scalars.Bytes(n)
		for _, v := range append(points, 255, 256, 1<<16-1, 1<<16, 1<<24-1, 1<<24, 1<<40-1, 1<<40, 1<<56-1, 1<<56) {
			want := n < 0 || n > 7 || v < 1<<(8*n)
			if scalars.Has(b, v) != want {
				t.Errorf("Bytes(%d) = %v: %d", n, b, v)
			}
		}
	}
	five := scalars.Const(5)
	if scalars.Has(N{five.T, spans.Const(6)}, 5) || scalars.Has(N{five.T, spans.Const(6)}, 6) || !scalars.Has(five, 5) {
		t.Error("a number has to be in both")
	}
	for _, x := range []struct {
		a, b N
		want bool
	}{
		{scalars.Any(), five, true}, {five, scalars.Any(), false}, {five, five, true}, {scalars.Bytes(1), five, true}, {scalars.Bytes(1), scalars.Bytes(2), false},
		{scalars.Any(), scalars.Any(), true}, {N{tnums.Any(), spans.Const(5)}, five, true}, {N{tnums.Const(5), spans.Any()}, five, true}, {N{tnums.Const(5), spans.Any()}, N{tnums.Any(), spans.Const(5)}, false}, {N{tnums.Any(), spans.Const(5)}, N{tnums.Const(5), spans.Any()}, false},
	} {
		if scalars.In(x.a, x.b) != x.want {
			t.Errorf("In(%v, %v)", x.a, x.b)
		}
	}
	if v, ok := scalars.One(five); v != 5 || !ok {
		t.Error(v, ok)
	}
	for _, n := range []N{scalars.Any(), {tnums.T{Value: 4, Mask: 1}, spans.Any()}} {
		if v, ok := scalars.One(n); v != 0 || ok {
			t.Error(n, v, ok)
		}
	}
}

func TestTight(t *testing.T) {
	for range 30000 {
		a := some()
		n, ok := scalars.Tight(a)
		if !ok || !scalars.In(a, n) || !tnums.Valid(n.T) || !spans.Valid(n.S) {
			t.Fatalf("Tight(%v) = %v, %v", a, n, ok)
		}
		for _, v := range all(a) {
			if !scalars.Has(n, v) {
				t.Fatalf("Tight(%v) = %v has not %d", a, n, v)
			}
		}
		// Whatever it is told of, it tells nothing only where there is nothing.
		x := point()
		b := N{T: a.T, S: spans.S{Lo: min(x, point()), Hi: max(x, point()), SLo: int64(point()), SHi: int64(point())}}
		if spans.Valid(b.S) {
			n, ok := scalars.Tight(b)
			if !ok && (len(all(b)) > 0 || n != (N{})) || ok && !scalars.In(b, n) {
				t.Fatalf("Tight(%v) = %v, %v", b, n, ok)
			}
		}
	}
	if _, ok := scalars.Tight(N{tnums.Const(5), spans.Const(6)}); ok {
		t.Error("5 and 6")
	}
}

var ops = []uint8{api.OpAdd, api.OpSub, api.OpMul, api.OpDiv, api.OpOr, api.OpAnd, api.OpLsh, api.OpRsh, api.OpNeg, api.OpMod, api.OpXor, api.OpMov, api.OpArsh, 0xd0, 0x07}

func TestDo(t *testing.T) {
	for _, op := range ops {
		for range 6000 {
			a, b, wide := some(), some(), next(2) == 0
			if next(6) == 0 {
				b = scalars.Any()
			}
			r := scalars.Do(op, wide, a, b)
			if !tnums.Valid(r.T) || !spans.Valid(r.S) {
				t.Fatalf("Do(%#x, %v, %v, %v) = %v is none", op, wide, a, b, r)
			}
			ys := points
			if b != scalars.Any() {
				ys = all(b)
			}
			for _, x := range all(a) {
				for _, y := range ys {
					if v := alu.Do(op, wide, x, y); !scalars.Has(r, v) {
						t.Fatalf("Do(%#x, %v, %v, %v) = %v has not %d of %d and %d", op, wide, a, b, r, v, x, y)
					}
				}
			}
		}
	}
	if r := scalars.Do(api.OpAnd, true, scalars.Any(), scalars.Const(7)); scalars.Has(r, 8) || !scalars.Has(r, 7) || !scalars.Has(r, 0) {
		t.Error(r)
	}
	if r := scalars.Do(api.OpAdd, false, scalars.Const(1<<32-1), scalars.Const(1)); !scalars.Has(r, 0) {
		t.Error(r)
	}
}

func TestDoOfNumbers(t *testing.T) {
	for _, op := range []uint8{api.OpAdd, api.OpSub, api.OpAnd, api.OpOr, api.OpXor, api.OpMul, api.OpMov, api.OpNeg} {
		for _, x := range points {
			for _, y := range points {
				want := scalars.Const(alu.Do(op, true, x, y))
				// A number may be one by its bits, or by its ends.
				for _, a := range []N{scalars.Const(x), {tnums.Const(x), spans.Any()}, {tnums.Any(), spans.Const(x)}} {
					if r := scalars.Do(op, true, a, scalars.Const(y)); r != want {
						t.Fatalf("Do(%#x, %v, %d) = %v", op, a, y, r)
					}
				}
			}
		}
	}
}

var jumps = []uint8{api.JmpAlways, api.JmpEq, api.JmpGt, api.JmpGe, api.JmpSet, api.JmpNe, api.JmpSgt, api.JmpSge, api.JmpCall, api.JmpExit, api.JmpLt, api.JmpLe, api.JmpSlt, api.JmpSle, 0xe0, 0xff, 3}

func TestAssume(t *testing.T) {
	oks := 0
	for _, op := range jumps {
		for range 8000 {
			a, b, wide, holds := some(), some(), next(2) == 0, next(2) == 0
			x, y, ok := scalars.Assume(op, wide, holds, a, b)
			if !ok && (x != (N{}) || y != (N{})) {
				t.Fatalf("Assume(%#x, %v, %v, %v, %v) = %v, %v, false", op, wide, holds, a, b, x, y)
			}
			for _, v := range all(a) {
				for _, w := range all(b) {
					if conds.Holds(op, wide, v, w) == holds && !(ok && scalars.Has(x, v) && scalars.Has(y, w)) {
						t.Fatalf("Assume(%#x, %v, %v, %v, %v) = %v, %v, %v has not %d and %d", op, wide, holds, a, b, x, y, ok, v, w)
					}
				}
			}
			ta, _ := scalars.Tight(a)
			tb, _ := scalars.Tight(b)
			if x, y, ok := scalars.Assume(op, true, holds, ta, tb); ok {
				oks++
				if !scalars.In(ta, x) || !scalars.In(tb, y) {
					t.Fatalf("Assume(%#x, wide, %v, %v, %v) = %v, %v", op, holds, ta, tb, x, y)
				}
			}
		}
	}
	if oks < 1000 {
		t.Error(oks)
	}
}

// TestAssumeOfNumbers: of two numbers it is told whether it is so.
func TestAssumeOfNumbers(t *testing.T) {
	for _, op := range jumps {
		for _, v := range points {
			for _, w := range points {
				for n := range 4 {
					wide, holds := n&1 > 0, n&2 > 0
					_, _, ok := scalars.Assume(op, wide, holds, scalars.Const(v), scalars.Const(w))
					if want := conds.Holds(op, wide, v, w) == holds; want && !ok {
						t.Fatalf("Assume(%#x, %v, %v, %d, %d) = %v", op, wide, holds, v, w, ok)
					}
				}
			}
		}
	}
	x, _, ok := scalars.Assume(api.JmpGt, true, false, scalars.Any(), scalars.Const(7))
	if !ok || scalars.Has(x, 8) || scalars.Has(x, most) || !scalars.Has(x, 0) || !scalars.Has(x, 7) {
		t.Error(x, ok)
	}
	x, _, ok = scalars.Assume(api.JmpEq, true, true, scalars.Any(), scalars.Const(7))
	if v, one := scalars.One(x); !ok || !one || v != 7 {
		t.Error(x, ok)
	}
}

// TestNone: of N's that are none there is an answer.
func TestNone(t *testing.T) {
	for _, none := range []N{{tnums.T{Value: 7, Mask: 5}, spans.Any()}, {tnums.Any(), spans.S{Lo: 5, Hi: 4}}, {tnums.T{Value: most, Mask: most}, spans.S{SLo: 1}}, {tnums.Const(3), spans.Const(4)}} {
		scalars.Tight(none)
		scalars.One(none)
		for _, b := range []N{none, scalars.Any(), scalars.Const(0)} {
			scalars.In(none, b)
			for n := range 4 {
				for _, op := range ops {
					scalars.Do(op, n&1 > 0, none, b)
					scalars.Do(op, n&1 > 0, b, none)
				}
				for _, op := range jumps {
					scalars.Assume(op, n&1 > 0, n&2 > 0, none, b)
					scalars.Assume(op, n&1 > 0, n&2 > 0, b, none)
				}
			}
		}
	}
}
