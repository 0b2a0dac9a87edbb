package spans_test

import (
	"testing"

	"firewall/spans"
)

type S = spans.S

const (
	most    = 1<<64 - 1
	signMax = 1<<63 - 1
	signMin = -1 << 63
)

var seed = uint64(21)

func next(n int) int {
	seed = seed*6364136223846793005 + 1442695040888963407
	return int(seed>>33) % n
}

// points are numbers near which ends lie.
var points = []uint64{0, 1, 2, 3, 7, 8, 9, 10, 63, 64, 255, 1<<31 - 1, 1 << 31, 1<<32 - 1, 1 << 32, 1<<32 + 5, 1<<33 + 1, 1<<62 - 1, 1<<63 - 2, 1<<63 - 1, 1 << 63, 1<<63 + 1, 3 << 62, most - 1<<32, most - 9, most - 1, most}

func point() uint64 { return points[next(len(points))] + uint64(next(3)) - 1 }

// some is an S with something in it, its ends drawn or not.
func some() S {
	switch next(5) {
	case 0:
		return spans.Const(point())
	case 1:
		return spans.Upto(point())
	}
	for {
		s := spans.Any()
		if next(3) > 0 {
			s.Lo, s.Hi = point(), point()
		}
		if next(3) > 0 {
			s.SLo, s.SHi = int64(point()), int64(point())
		}
		if spans.Valid(s) && len(all(s)) > 0 {
			return s
		}
	}
}

// all is numbers of an S: its ends, and all points that it has.
func all(s S) []uint64 {
	var l []uint64
	for _, v := range append([]uint64{s.Lo, s.Hi, uint64(s.SLo), uint64(s.SHi), s.Lo + 1, s.Hi - 1}, points...) {
		if s.Lo <= v && v <= s.Hi && s.SLo <= int64(v) && int64(v) <= s.SHi {
			l = append(l, v)
		}
	}
	return l
}

func TestWords(t *testing.T) {
	if spans.Const(1<<63) != (S{1 << 63, 1 << 63, signMin, signMin}) || spans.Const(5) != (S{5, 5, 5, 5}) || spans.Any() != (S{0, most, signMin, signMax}) {
		t.Error("Const, Any")
	}
	if spans.Upto(9) != (S{0, 9, 0, 9}) {
		t.Error(spans.Upto(9))
	}
	for _, hi := range points {
		s := spans.Upto(hi)
		for _, v := range points {
			if spans.Has(s, v) != (v <= hi) || !spans.Valid(s) {
				t.Errorf("Upto(%d) = %v: %d", hi, s, v)
			}
		}
	}
	for _, x := range []struct {
		s     S
		valid bool
		v     uint64
		has   bool
	}{
		{S{5, 5, 5, 5}, true, 5, true}, {S{5, 4, 5, 5}, false, 5, false}, {S{5, 5, 6, 5}, false, 5, false}, {S{5, 5, 7, 7}, true, 5, false}, {S{5, 5, 7, 7}, true, 7, false},
		{S{0, most, -3, 3}, true, most - 2, true}, {S{0, most, -3, 3}, true, most - 3, false}, {S{0, most, -3, 3}, true, 3, true}, {S{0, most, -3, 3}, true, 4, false},
		{S{1, most, -3, 3}, true, 0, false}, {S{0, 9, signMin, signMax}, true, 10, false}, {S{4, 9, signMin, signMax}, true, 3, false}, {S{4, 9, signMin, signMax}, true, 4, true},
	} {
		if spans.Valid(x.s) != x.valid || spans.Has(x.s, x.v) != x.has {
			t.Errorf("%v: %v, %d: %v", x.s, spans.Valid(x.s), x.v, spans.Has(x.s, x.v))
		}
	}
}

func TestIn(t *testing.T) {
	a := S{10, 20, 10, 20}
	for _, x := range []struct {
		b    S
		want bool
	}{
		{a, true}, {S{11, 19, 11, 19}, true}, {S{9, 20, 10, 20}, false}, {S{10, 21, 10, 20}, false}, {S{10, 20, 9, 20}, false}, {S{10, 20, 10, 21}, false}, {spans.Const(10), true}, {spans.Const(9), false}, {spans.Any(), false},
	} {
		if spans.In(a, x.b) != x.want {
			t.Errorf("In(%v, %v)", a, x.b)
		}
	}
	if !spans.In(spans.Any(), a) || !spans.In(spans.Any(), spans.Any()) || spans.In(spans.Upto(most), spans.Const(0)) != true {
		t.Error("In of Any")
	}
}

func TestTightAndBoth(t *testing.T) {
	if s, ok := spans.Both(spans.Upto(9), S{10, most, signMin, signMax}); ok || s != (S{}) {
		t.Error(s, ok)
	}
	for _, none := range []S{{5, 4, 0, 0}, {0, 9, 3, 2}, {9, 0, 9, 0}} {
		if s, ok := spans.Tight(none); ok || s != (S{}) {
			t.Errorf("Tight(%v) = %v, %v", none, s, ok)
		}
		if s, ok := spans.Both(none, spans.Any()); ok || s != (S{}) {
			t.Errorf("Both(%v, Any) = %v, %v", none, s, ok)
		}
		if s, ok := spans.Both(spans.Any(), none); ok || s != (S{}) {
			t.Errorf("Both(Any, %v) = %v, %v", none, s, ok)
		}
	}
	founds := 0
	for range 30000 {
		a, b := some(), some()
		s, ok := spans.Tight(a)
		if !ok || !spans.In(a, s) || !spans.Valid(s) {
			t.Fatalf("Tight(%v) = %v, %v", a, s, ok)
		}
		for _, v := range all(a) {
			if !spans.Has(s, v) {
				t.Fatalf("Tight(%v) = %v has not %d", a, s, v)
			}
		}
		r, ok := spans.Both(a, b)
		if ok && (!spans.In(a, r) || !spans.In(b, r) || !spans.Valid(r)) || !ok && r != (S{}) {
			t.Fatalf("Both(%v, %v) = %v, %v", a, b, r, ok)
		}
		for _, v := range append(all(a), all(b)...) {
			if spans.Has(a, v) && spans.Has(b, v) {
				founds++
				if !ok || !spans.Has(r, v) {
					t.Fatalf("Both(%v, %v) = %v, %v has not %d", a, b, r, ok, v)
				}
			}
		}
		// What may not be valid may be nothing, but is answered.
		spans.Tight(S{point(), point(), int64(point()), int64(point())})
	}
	if founds < 1000 {
		t.Error(founds)
	}
}

type operation struct {
	name string
	s    func(a, b S) S
	v    func(a, b uint64) uint64
}

func divided(a, b uint64) uint64 {
	if b == 0 {
		return 0
	}
	return a / b
}

func rest(a, b uint64) uint64 {
	if b == 0 {
		return a
	}
	return a % b
}

var operations = []operation{
	{"Add", spans.Add, func(a, b uint64) uint64 { return a + b }},
	{"Sub", spans.Sub, func(a, b uint64) uint64 { return a - b }},
	{"Mul", spans.Mul, func(a, b uint64) uint64 { return a * b }},
	{"And", spans.And, func(a, b uint64) uint64 { return a & b }},
	{"Or", spans.Or, func(a, b uint64) uint64 { return a | b }},
	{"Xor", spans.Xor, func(a, b uint64) uint64 { return a ^ b }},
	{"Div", spans.Div, divided},
	{"Mod", spans.Mod, rest},
}

func TestOperations(t *testing.T) {
	for _, o := range operations {
		for range 6000 {
			a, b := some(), some()
			r := o.s(a, b)
			if !spans.Valid(r) {
				t.Fatalf("%s(%v, %v) = %v is none", o.name, a, b, r)
			}
			for _, x := range all(a) {
				for _, y := range all(b) {
					if v := o.v(x, y); !spans.Has(r, v) {
						t.Fatalf("%s(%v, %v) = %v has not %d of %d and %d", o.name, a, b, r, v, x, y)
					}
				}
			}
		}
	}
	if r := spans.Add(spans.Upto(9), spans.Const(1)); r.Lo != 1 || r.Hi != 10 || r.SLo != 1 || r.SHi != 10 {
		t.Error(r)
	}
	if r := spans.Sub(spans.Upto(9), spans.Const(10)); !spans.Has(r, most) {
		t.Error(r)
	}
}

// TestSmall goes through all small spans, and all their numbers.
func TestSmall(t *testing.T) {
	for _, o := range operations {
		for n := range 4 * 4 * 4 * 4 {
			from := []int64{-2, 0, 5, 62}
			lo, x, other, y := from[n%4], int64(n/4%4), from[n/16%4], int64(n/64)
			a, _ := spans.Tight(S{0, most, lo, lo + x})
			b, _ := spans.Tight(S{0, most, other, other + y})
			r := o.s(a, b)
			for i := lo; i <= lo+x; i++ {
				for j := other; j <= other+y; j++ {
					if v := o.v(uint64(i), uint64(j)); !spans.Has(r, v) {
						t.Fatalf("%s(%v, %v) = %v has not %d of %d and %d", o.name, a, b, r, v, i, j)
					}
				}
			}
		}
	}
}

func TestShifts(t *testing.T) {
	for _, o := range []struct {
		name string
		s    func(S, int) S
		v    func(uint64, int) uint64
	}{
		{"Lsh", spans.Lsh, func(v uint64, n int) uint64 { return v << (n & 63) }},
		{"Rsh", spans.Rsh, func(v uint64, n int) uint64 { return v >> (n & 63) }},
		{"Arsh", spans.Arsh, func(v uint64, n int) uint64 { return uint64(int64(v) >> (n & 63)) }},
		{"Low32", func(s S, _ int) S { return spans.Low32(s) }, func(v uint64, _ int) uint64 { return v % (1 << 32) }},
	} {
		for range 20000 {
			a, n := some(), next(140)-70
			r := o.s(a, n)
			if !spans.Valid(r) || o.name == "Low32" && r.Hi >= 1<<32 {
				t.Fatalf("%s(%v, %d) = %v", o.name, a, n, r)
			}
			for _, x := range all(a) {
				if v := o.v(x, n); !spans.Has(r, v) {
					t.Fatalf("%s(%v, %d) = %v has not %d of %d", o.name, a, n, r, v, x)
				}
			}
		}
		for _, n := range []int{1 << 40, -1 << 63, 1<<63 - 1} {
			if !spans.Has(o.s(spans.Const(5), n), o.v(5, n)) {
				t.Errorf("%s by %d", o.name, n)
			}
		}
	}
}

func TestHowNear(t *testing.T) {
	for _, x := range points {
		for _, y := range points {
			a, b := spans.Upto(x), spans.Upto(y)
			if r := spans.And(a, b); r.Hi > x || r.Hi > y {
				t.Errorf("And of up to %d and %d: %v", x, y, r)
			}
			if r := spans.Div(a, b); r.Hi > x {
				t.Errorf("Div of up to %d and %d: %v", x, y, r)
			}
			if r := spans.Mod(a, b); r.Hi > x {
				t.Errorf("Mod of up to %d and %d: %v", x, y, r)
			}
		}
		if r := spans.Low32(spans.Upto(x)); r.Hi >= 1<<32 {
			t.Errorf("Low32 of up to %d: %v", x, r)
		}
	}
}

// TestNone: of S's that are none there is an answer.
func TestNone(t *testing.T) {
	for _, none := range []S{{5, 4, 0, 0}, {0, 9, 3, 2}, {9, 0, 9, 0}, {5, 5, 7, 7}} {
		for _, b := range []S{none, spans.Any(), spans.Const(0)} {
			for _, o := range operations {
				o.s(none, b)
				o.s(b, none)
			}
		}
		for _, n := range []int{-1, 0, 64} {
			spans.Lsh(none, n)
			spans.Rsh(none, n)
			spans.Arsh(none, n)
		}
		spans.Low32(none)
	}
}
