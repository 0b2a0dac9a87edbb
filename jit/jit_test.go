package jit_test

import (
	"slices"
	"strings"
	"testing"

	"firewall/api"
	"firewall/codec"
	"firewall/emit"
	"firewall/jit"
	"firewall/lines"
	"firewall/progs"
)

var (
	layout = api.Layout{Maps: []api.Map{{Kind: api.MapArray, Key: 4, Value: 8, Max: 2}, {Kind: api.MapHash, Key: 4, Value: 8, Max: 2}}}
	exit   = api.Insn{Op: api.Exit}
)

func read(t *testing.T, text string) []api.Insn {
	t.Helper()
	l, line, e := lines.Read(strings.ReplaceAll(text, " / ", "\n"))
	if e != api.OK {
		t.Fatalf("%q: line %d, %v", text, line, e)
	}
	return l
}

// decoded is code's instructions, and where each one lies.
func decoded(t *testing.T, s string) (l []api.X, at []int) {
	t.Helper()
	for n := 0; n < len(s); {
		x, k, e := codec.Decode(s, n)
		if e != api.OK {
			t.Fatalf("at %d of %x: %v", n, s, e)
		}
		l, at = append(l, x), append(at, n)
		n += k
	}
	return l, append(at, len(s))
}

// held holds code against the parts that it has to be made of.
func held(t *testing.T, l []api.Insn, m api.Layout, arrays []int, s string) {
	t.Helper()
	parts := emit.Head()
	starts := make([]int, len(l))
	for pc := 0; pc < len(l); pc++ {
		starts[pc] = len(parts)
		var in *emit.Array
		if l[pc].Op == api.Call && l[pc].Imm == api.HeLookup && pc < len(arrays) && arrays[pc] > 0 && arrays[pc] <= len(m.Maps) && m.Maps[arrays[pc]-1].Kind == api.MapArray {
			in = &emit.Array{N: arrays[pc] - 1, Map: m.Maps[arrays[pc]-1]}
		}
		p, e := emit.Slot(l, pc, in)
		if e != api.OK {
			t.Fatalf("%v at %d: %v", l, pc, e)
		}
		parts = append(parts, p...)
		if l[pc].Op == api.LdImm {
			pc++
		}
	}
	xs, at := decoded(t, s)
	if len(xs) != len(parts) {
		t.Fatalf("%d instructions, and %d parts", len(xs), len(parts))
	}
	for i, x := range xs {
		p := parts[i]
		switch {
		case p.To >= 0:
			rel := at[starts[p.To]] - at[i+1]
			if int(x.Rel) != rel {
				t.Fatalf("the jump %d leads to %d, want %d", i, x.Rel, rel)
			}
			// Alone, as a short one, a long jump would not reach: what it leads over is then as long as it is now, and itself shorter.
			near := rel
			if rel < 0 {
				near = rel + at[i+1] - at[i] - 2
			}
			if x.Short != (rel >= -128 && rel <= 127) && (x.Short || near >= -128 && near <= 127) {
				t.Fatalf("the jump %d by %d is short: %v", i, rel, x.Short)
			}
			x.Short, x.Rel = false, 0
		case p.Help >= 0:
			if int(x.Rel) != api.HelperBase+p.Help-api.CodeBase-at[i+1] {
				t.Fatalf("the call %d leads to %d", i, x.Rel)
			}
			x.Rel = 0
		}
		p.X.Short, p.X.Rel = false, 0
		if x != p.X {
			t.Fatalf("the part %d is %+v, want %+v", i, x, p.X)
		}
	}
}

func code(t *testing.T, l []api.Insn, m api.Layout, arrays []int) string {
	t.Helper()
	s, e := jit.Code(l, m, arrays)
	if e != api.OK || len(s) > api.MaxImage {
		t.Fatalf("%v: %d bytes, %v", l, len(s), e)
	}
	held(t, l, m, arrays, s)
	return s
}

func TestPrograms(t *testing.T) {
	code(t, read(t, "mov64 r0 1 / exit"), api.Layout{}, nil)
	code(t, read(t, "nospec / ldimm r0 99999999999 / call 7 / jeq64 r0 1 +2 / ldmap r1 1 / exit"), layout, nil)
	l := read(t, "mov64 r2 r10 / ldmap r1 0 / call 1 / call 1 / call 2 / exit")
	with := code(t, l, layout, []int{1, 1, 1, 1, 1, 1, 1})
	without := code(t, l, layout, nil)
	if with == without || strings.Count(with, "\xe8") >= strings.Count(without, "\xe8")+1 {
		t.Error("a lookup that is in an array is called")
	}
	for _, other := range [][]int{{}, {1, 1, 1}, {0, 0, 0, 0, 0, 0}, {0, 0, 0, 2, 2, 2}, {0, 0, 0, 3, 3, 3}, {0, 0, 0, -1, -1, -1}, {0, 0, 0, 1 << 62, -1 << 63}} {
		if s := code(t, l, layout, other); s != without {
			t.Errorf("%v makes a difference", other)
		}
	}
	if s := code(t, l, layout, []int{0, 0, 0, 1}); s == without || s == with {
		t.Error("the first lookup alone")
	}
}

func TestErrors(t *testing.T) {
	for n, x := range []struct {
		l []api.Insn
		m api.Layout
		e api.Errno
	}{
		{nil, layout, api.ErrArg}, {read(t, "mov64 r0 1"), layout, api.ErrArg}, {read(t, "exit / exit"), layout, api.ErrArg}, {read(t, "ldmap r0 1 / exit"), layout, api.OK}, {read(t, "ldmap r0 2 / exit"), layout, api.ErrArg}, {read(t, "ldmap r0 0 / exit"), api.Layout{}, api.ErrArg}, {read(t, "nospec / exit"), layout, api.OK}, {read(t, "mov64 r10 1 / exit"), layout, api.ErrArg},
		{append(slices.Repeat(read(t, "mov64 r0 1"), 191), exit), layout, api.OK}, {append(slices.Repeat(read(t, "mov64 r0 1"), 192), exit), layout, api.ErrArg},
		{append(slices.Repeat(read(t, "mov32 r0 -1"), 191), exit), layout, api.OK},
	} {
		if s, e := jit.Code(x.l, x.m, nil); e != x.e || e != api.OK && s != "" {
			t.Errorf("%d: %d bytes, %v", n, len(s), e)
		}
	}
}

// TestLengths: programs of at most 60 slots are never too long; what is told is at most MaxImage long.
func TestLengths(t *testing.T) {
	for _, line := range []string{"mod64 r3 r0", "div32 r0 r3", "mod64 r3 -7", "lsh64 r4 r4", "stx8 r10 -8 r9", "st8 r10 -8 5", "mov32 r9 -1", "jset64 r9 5 +0", "call 1", "mul64 r9 -1", "nospec", "exit"} {
		for _, n := range []int{58, 59, 120, 191} {
			l := slices.Repeat(read(t, line), n)
			if line == "exit" {
				l = append(slices.Repeat(read(t, "jeq64 r0 0 +0"), n), l[0])
			} else {
				l = append(l, exit)
			}
			arrays := slices.Repeat([]int{1}, n)
			s, e := jit.Code(l, layout, arrays)
			if len(l) <= 60 && e != api.OK || e != api.OK && (e != api.ErrImage || s != "") || len(s) > api.MaxImage {
				t.Errorf("%d times %q: %d bytes, %v", n, line, len(s), e)
			}
			if e == api.OK {
				held(t, l, layout, arrays, s)
			}
		}
	}
}

// TestLongest: code of just MaxImage bytes is not too long, one byte more is.
func TestLongest(t *testing.T) {
	sizeOf := func(line string) int {
		return len(code(t, read(t, line+" / exit"), api.Layout{}, nil)) - len(code(t, []api.Insn{exit}, api.Layout{}, nil))
	}
	long, small := "mod64 r0 r3", []string{"neg32 r1", "neg64 r1"} // of 2 bytes, and of 3
	for _, want := range []int{api.MaxImage, api.MaxImage + 1} {
		left := want - len(code(t, []api.Insn{exit}, api.Layout{}, nil))
		n := (left - 10) / sizeOf(long)
		l := slices.Repeat(read(t, long), n)
		for left -= n * sizeOf(long); left > 0; {
			line := small[1]
			if left%3 != 0 {
				line = small[0]
			}
			l = append(l, read(t, line)...)
			left -= sizeOf(line)
		}
		if left != 0 {
			t.Fatal("it does not come to", want)
		}
		l = append(l, exit)
		s, e := jit.Code(l, api.Layout{}, nil)
		if want == api.MaxImage && (e != api.OK || len(s) != want) || want > api.MaxImage && (e != api.ErrImage || s != "") {
			t.Errorf("%d bytes: %d, %v", want, len(s), e)
		}
	}
}

// TestJumps makes jumps of all lengths, on and back, that hang on one another.
func TestJumps(t *testing.T) {
	seed := uint64(2)
	next := func(n int) int {
		seed = seed*6364136223846793005 + 1442695040888963407
		return int(seed>>33) % n
	}
	longs, shorts := 0, 0
	for range 1500 {
		n := 10 + next(100)
		var l []api.Insn
		for range n {
			switch next(4) {
			case 0, 1:
				l = append(l, api.Insn{Op: uint8([]int{api.ClJmp | api.JmpEq, api.ClJmp32 | api.JmpSgt | api.FromReg}[next(2)]), Dst: 1, Off: int16(next(121) - 60)})
			case 2:
				l = append(l, api.Insn{Op: api.ClAlu64 | api.OpMov, Dst: 1, Imm: 5})
			default:
				l = append(l, api.Insn{Op: api.ClAlu | api.OpNeg, Dst: 1})
			}
		}
		l = append(l, exit)
		for pc := range l {
			to := pc + 1 + int(l[pc].Off)
			if to < 0 || to > n {
				l[pc].Off = 0
			}
		}
		if _, e := progs.Check(l, 0, true); e != api.OK {
			t.Fatal(e)
		}
		xs, _ := decoded(t, code(t, l, api.Layout{}, nil))
		for _, x := range xs {
			if x.Kind == api.XJcc && x.Short {
				shorts++
			} else if x.Kind == api.XJcc {
				longs++
			}
		}
	}
	if longs < 300 || shorts < 300 {
		t.Error(longs, shorts)
	}
	// A jump over just so many bytes: XImm has 7, XNeg 2 or 3.
	for pad, wantLong := range map[string]int{
		strings.Repeat("mov64 r1 5 / ", 18):                                    0, // 126
		strings.Repeat("mov64 r1 5 / ", 18) + "neg64 r1 / ":                    1, // 129
		strings.Repeat("mov64 r1 5 / ", 17) + strings.Repeat("neg32 r1 / ", 4): 0, // 127
		strings.Repeat("mov64 r1 5 / ", 16) + strings.Repeat("neg32 r1 / ", 8): 1, // 128
	} {
		n := strings.Count(pad, "/")
		l := read(t, pad+"mov64 r0 0 / exit")
		l = append([]api.Insn{{Op: api.ClJmp32 | api.JmpEq | api.FromReg, Off: int16(n)}}, l...)
		s := code(t, l, api.Layout{}, nil)
		xs, _ := decoded(t, s)
		long := 0
		for _, x := range xs {
			if x.Kind == api.XJcc && !x.Short {
				long++
			}
		}
		if long != wantLong {
			t.Errorf("over %q: %d are long", pad, long)
		}
	}
}
