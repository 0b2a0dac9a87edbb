package tnums_test

import (
	"testing"

	"firewall/tnums"
)

type T = tnums.T

var seed = uint64(12)

func next(n int) int {
	seed = seed*6364136223846793005 + 1442695040888963407
	return int(seed>>33) % n
}

// some is a T with a few unknown bits, and numbers of all kinds.
func some() T {
	var t T
	for range next(6) {
		t.Mask |= 1 << []int{0, 1, 2, 3, 7, 8, 30, 31, 32, 33, 61, 62, 63}[next(13)]
	}
	switch next(4) {
	case 0:
		t.Value = uint64(next(16))
	case 1:
		t.Value = ^uint64(next(16))
	case 2:
		t.Value = seed ^ seed<<20
	default:
		t.Value = 1 << next(64)
	}
	t.Value &^= t.Mask
	return t
}

// all is all numbers of a T with a few unknown bits.
func all(t T) []uint64 {
	l := []uint64{t.Value}
	for sub := t.Mask; sub != 0; sub = (sub - 1) & t.Mask {
		l = append(l, t.Value|sub)
	}
	return l
}

// least is the T that knows most of some numbers.
func least(l []uint64) T {
	t := T{Value: l[0]}
	for _, v := range l {
		t.Mask |= v ^ l[0]
	}
	t.Value &^= t.Mask
	return t
}

func TestWords(t *testing.T) {
	for _, x := range []struct {
		t     T
		valid bool
		has   []uint64
		not   []uint64
	}{
		{tnums.Const(5), true, []uint64{5}, []uint64{4, 0, 1<<63 + 5}},
		{tnums.Const(0), true, []uint64{0}, []uint64{1}},
		{tnums.Any(), true, []uint64{0, 1, 1<<64 - 1, 1 << 63}, nil},
		{T{Value: 4, Mask: 3}, true, []uint64{4, 5, 6, 7}, []uint64{0, 3, 8, 12}},
		{T{Value: 5, Mask: 3}, false, nil, []uint64{0, 4, 5, 6, 7}},
		{T{Value: 1 << 63, Mask: 1 << 63}, false, nil, []uint64{0, 1 << 63}},
		{T{Value: 4, Mask: 1 << 63}, true, []uint64{4, 1<<63 + 4}, []uint64{5}},
	} {
		if tnums.Valid(x.t) != x.valid {
			t.Errorf("Valid(%v)", x.t)
		}
		for _, v := range x.has {
			if !tnums.Has(x.t, v) {
				t.Errorf("%v has %d", x.t, v)
			}
		}
		for _, v := range x.not {
			if tnums.Has(x.t, v) {
				t.Errorf("%v has not %d", x.t, v)
			}
		}
	}
	if tnums.Const(9) != (T{Value: 9}) || tnums.Any() != (T{Mask: 1<<64 - 1}) {
		t.Error("Const, Any")
	}
}

func TestIn(t *testing.T) {
	ins := 0
	for range 30000 {
		a, b := some(), some()
		if next(2) == 0 {
			b = T{Value: a.Value, Mask: a.Mask & uint64(seed)}
			if next(4) == 0 {
				a, b = b, a
			}
		}
		want := true
		for _, v := range all(b) {
			want = want && tnums.Has(a, v)
		}
		if tnums.In(a, b) != want {
			t.Fatalf("In(%v, %v) = %v", a, b, !want)
		}
		if want {
			ins++
		}
	}
	if ins < 1000 {
		t.Error(ins)
	}
	if !tnums.In(tnums.Any(), tnums.Any()) || tnums.In(tnums.Const(1), tnums.Any()) || !tnums.In(tnums.Any(), tnums.Const(7)) {
		t.Error("In of Any")
	}
}

type operation struct {
	name string
	t    func(a, b T) T
	v    func(a, b uint64) uint64
	best bool
}

var operations = []operation{
	{"Add", tnums.Add, func(a, b uint64) uint64 { return a + b }, false},
	{"Sub", tnums.Sub, func(a, b uint64) uint64 { return a - b }, false},
	{"Mul", tnums.Mul, func(a, b uint64) uint64 { return a * b }, false},
	{"And", tnums.And, func(a, b uint64) uint64 { return a & b }, true},
	{"Or", tnums.Or, func(a, b uint64) uint64 { return a | b }, true},
	{"Xor", tnums.Xor, func(a, b uint64) uint64 { return a ^ b }, true},
}

func TestOperations(t *testing.T) {
	for _, o := range operations {
		for range 4000 {
			a, b := some(), some()
			r := o.t(a, b)
			if !tnums.Valid(r) {
				t.Fatalf("%s(%v, %v) = %v is none", o.name, a, b, r)
			}
			var l []uint64
			for _, x := range all(a) {
				for _, y := range all(b) {
					v := o.v(x, y)
					if !tnums.Has(r, v) {
						t.Fatalf("%s(%v, %v) = %v has not %d", o.name, a, b, r, v)
					}
					l = append(l, v)
				}
			}
			if (o.best || len(l) == 1) && r != least(l) {
				t.Fatalf("%s(%v, %v) = %v, want %v", o.name, a, b, r, least(l))
			}
		}
	}
	for _, v := range []uint64{4, 5, 6, 7} {
		if !tnums.Has(tnums.Add(T{Value: 4, Mask: 3}, tnums.Const(1)), v+1) {
			t.Error("4 to 7, and 1")
		}
	}
	if r := tnums.And(tnums.Any(), tnums.Const(7)); r != (T{Mask: 7}) {
		t.Error(r)
	}
}

func TestShifts(t *testing.T) {
	shifts := []struct {
		name string
		t    func(T, int) T
		v    func(uint64, int) uint64
	}{
		{"Lsh", tnums.Lsh, func(v uint64, n int) uint64 { return v << (n & 63) }},
		{"Rsh", tnums.Rsh, func(v uint64, n int) uint64 { return v >> (n & 63) }},
		{"Arsh", tnums.Arsh, func(v uint64, n int) uint64 { return uint64(int64(v) >> (n & 63)) }},
		{"Low", tnums.Low, func(v uint64, n int) uint64 {
			if n < 1 {
				return 0
			}
			if n >= 64 {
				return v
			}
			return v % (1 << n)
		}},
	}
	for _, s := range shifts {
		for range 4000 {
			a, n := some(), next(140)-70
			r := s.t(a, n)
			var l []uint64
			for _, x := range all(a) {
				l = append(l, s.v(x, n))
			}
			if r != least(l) {
				t.Fatalf("%s(%v, %d) = %v, want %v", s.name, a, n, r, least(l))
			}
		}
		for _, n := range []int{1 << 40, -1 << 63, 1<<63 - 1} {
			if r := s.t(tnums.Const(5), n); r != tnums.Const(s.v(5, n)) {
				t.Errorf("%s by %d: %v", s.name, n, r)
			}
		}
	}
	if tnums.Low(tnums.Any(), 64) != tnums.Any() || tnums.Low(tnums.Any(), 0) != tnums.Const(0) || tnums.Arsh(tnums.Any(), 63) != tnums.Any() {
		t.Error("of Any")
	}
}

func TestRange(t *testing.T) {
	for _, x := range []struct {
		lo, hi uint64
		want   T
	}{{4, 7, T{Value: 4, Mask: 3}}, {5, 5, T{Value: 5}}} {
		if r := tnums.Range(x.lo, x.hi); r != x.want {
			t.Errorf("Range(%d, %d) = %v", x.lo, x.hi, r)
		}
	}
	for range 5000 {
		lo := some().Value
		hi := lo + uint64(next(70))
		if hi < lo {
			continue
		}
		r := tnums.Range(lo, hi)
		for v := lo; v <= hi && v >= lo; v++ {
			if !tnums.Has(r, v) || !tnums.Valid(r) {
				t.Fatalf("Range(%d, %d) = %v has not %d", lo, hi, r, v)
			}
		}
	}
	for _, r := range []T{tnums.Range(0, 1<<64-1), tnums.Range(1, 1<<63)} {
		for _, v := range []uint64{1, 1 << 62, 1<<63 - 1, 1 << 63} {
			if !tnums.Has(r, v) {
				t.Errorf("%v has not %d", r, v)
			}
		}
	}
	if r := tnums.Range(1<<63, 1<<64-1); !tnums.Has(r, 1<<63) || !tnums.Has(r, 1<<64-1) || !tnums.Has(r, 3<<62) {
		t.Error(r)
	}
}

func TestBothAndEither(t *testing.T) {
	if r, ok := tnums.Both(T{Value: 4, Mask: 1}, tnums.Const(5)); r != tnums.Const(5) || !ok {
		t.Error(r, ok)
	}
	if r, ok := tnums.Both(T{Value: 4, Mask: 1}, tnums.Const(2)); r != (T{}) || ok {
		t.Error(r, ok)
	}
	oks := 0
	for range 20000 {
		a, b := some(), some()
		if next(2) == 0 {
			b.Value = a.Value &^ b.Mask
		}
		r, ok := tnums.Both(a, b)
		either := tnums.Either(a, b)
		if !tnums.Valid(r) || !tnums.Valid(either) {
			t.Fatal("none", a, b, r, either)
		}
		common := false
		for _, v := range all(a) {
			common = common || tnums.Has(b, v)
			if tnums.Has(b, v) && !(ok && tnums.Has(r, v)) || !tnums.Has(either, v) {
				t.Fatalf("of %v and %v: %v, %v, %v: %d", a, b, r, ok, either, v)
			}
		}
		for _, v := range all(b) {
			if !tnums.Has(either, v) {
				t.Fatalf("Either(%v, %v) = %v has not %d", a, b, either, v)
			}
		}
		if ok != common {
			t.Fatalf("Both(%v, %v) = %v, %v", a, b, r, ok)
		}
		if ok {
			oks++
		}
	}
	if oks < 1000 {
		t.Error(oks)
	}
}

// TestNone: of T's that are none there is an answer.
func TestNone(t *testing.T) {
	none := T{Value: 7, Mask: 5}
	for _, b := range []T{none, tnums.Any(), tnums.Const(3)} {
		for _, o := range operations {
			o.t(none, b)
			o.t(b, none)
		}
		tnums.Both(none, b)
		tnums.Either(b, none)
		tnums.In(none, b)
	}
	for _, n := range []int{-1, 0, 5, 99} {
		tnums.Lsh(none, n)
		tnums.Rsh(none, n)
		tnums.Arsh(none, n)
		tnums.Low(none, n)
	}
	tnums.Range(9, 3)
}
