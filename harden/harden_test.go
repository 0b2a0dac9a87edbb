package harden_test

import (
	"slices"
	"strings"
	"testing"

	"firewall/api"
	"firewall/harden"
	"firewall/helpers"
	"firewall/interp"
	"firewall/lines"
	"firewall/progs"
)

func read(t *testing.T, text string) []api.Insn {
	t.Helper()
	l, line, e := lines.Read(strings.ReplaceAll(text, " / ", "\n"))
	if e != api.OK {
		t.Fatalf("%q: line %d, %v", text, line, e)
	}
	return l
}

// isCond tells of jumps that may be taken or not, and isAlways of those that are.
func isCond(in api.Insn) bool {
	c, op := in.Op&7, in.Op&0xf0
	return c == api.ClJmp32 || c == api.ClJmp && op != api.JmpAlways && op != api.JmpCall && op != api.JmpExit
}

func isAlways(in api.Insn) bool { return in.Op == api.ClJmp|api.JmpAlways }

func TestHarden(t *testing.T) {
	for _, x := range []struct {
		text   string
		stores []bool
		want   string
		from   []int
	}{
		{"mov64 r0 1 / jeq64 r0 1 +1 / mov64 r0 2 / exit", nil, "mov64 r0 1 / jeq64 r0 1 +2 / nospec / mov64 r0 2 / nospec / exit", []int{0, 1, -1, 2, -1, 3}},
		{"mov64 r0 42 / exit", []bool{true, true, true}, "mov64 r0 42 / exit", []int{0, 1}},
		{"st8 r10 -8 1 / mov64 r0 1 / exit", []bool{true}, "st8 r10 -8 1 / nospec / mov64 r0 1 / exit", []int{0, -1, 1, 2}},
		{"st8 r10 -8 1 / mov64 r0 1 / exit", []bool{false, true, true}, "st8 r10 -8 1 / mov64 r0 1 / exit", []int{0, 1, 2}},
		{"st8 r10 -8 1 / mov64 r0 1 / exit", nil, "st8 r10 -8 1 / mov64 r0 1 / exit", []int{0, 1, 2}},
		{"mov64 r0 1 / stx1 r10 -8 r0 / stx8 r10 -8 r1 / exit", []bool{false, true, true}, "mov64 r0 1 / stx1 r10 -8 r0 / nospec / stx8 r10 -8 r1 / nospec / exit", []int{0, 1, -1, 2, -1, 3}},
		{"mov64 r0 0 / ldx8 r2 r10 -8 / neg64 r0 / exit", []bool{true, true, true, true}, "mov64 r0 0 / ldx8 r2 r10 -8 / neg64 r0 / exit", []int{0, 1, 2, 3}},
		{"st8 r10 -8 1 / jeq64 r0 1 +0 / exit", []bool{true}, "st8 r10 -8 1 / nospec / jeq64 r0 1 +0 / nospec / exit", []int{0, -1, 1, -1, 2}},
		{"mov64 r0 0 / jne32 r0 5 -2 / exit", nil, "nospec / mov64 r0 0 / jne32 r0 5 -3 / nospec / exit", []int{-1, 0, 1, -1, 2}},
		{"jeq64 r1 0 +2 / ldimm r0 5 / exit", nil, "jeq64 r1 0 +3 / nospec / ldimm r0 5 / nospec / exit", []int{0, -1, 1, 2, -1, 3}},
		{"jeq64 r1 0 +1 / ja +0 / call 7 / ja -3", nil, "jeq64 r1 0 +2 / nospec / ja +0 / nospec / call 7 / ja -4", nil},
		{"mov64 r0 0 / ja +1 / exit / ja -2", nil, "mov64 r0 0 / ja +1 / exit / ja -2", []int{0, 1, 2, 3}},
	} {
		out, from, e := harden.Harden(read(t, x.text), x.stores)
		if x.from == nil { // of a jump always it is not said whether it leads to the barrier
			if e != api.OK || len(out) != 6 || out[1].Op != api.Nospec || out[3].Op != api.Nospec {
				t.Errorf("%q: %s, %v", x.text, lines.Show(out), e)
			}
			continue
		}
		if e != api.OK || !slices.Equal(out, read(t, x.want)) || !slices.Equal(from, x.from) {
			t.Errorf("%q: %s, %v, %v", x.text, lines.Show(out), from, e)
		}
	}
}

func TestRefused(t *testing.T) {
	for _, l := range [][]api.Insn{nil, read(t, "mov64 r0 0"), read(t, "exit / exit"), read(t, "nospec / exit"), read(t, "ldmap r1 4 / exit"), read(t, "ja +5 / exit"), read(t, "mov64 r10 0 / exit"), slices.Repeat(read(t, "mov64 r0 0"), 65)} {
		if out, from, e := harden.Harden(l, []bool{true}); e != api.ErrArg || out != nil || from != nil {
			t.Errorf("%v: %v, %v, %v", l, out, from, e)
		}
	}
	if _, _, e := harden.Harden(read(t, "ldmap r1 3 / mov64 r0 0 / exit"), nil); e != api.OK {
		t.Error("the fourth map:", e)
	}
}

// TestWhatFollows makes programs by a rule, and holds them against what the document says of barriers.
func TestWhatFollows(t *testing.T) {
	names := []string{"mov64 r0 %n", "add64 r0 r3", "jeq64 r0 %n %j", "jgt32 r3 r0 %j", "ja %j", "st8 r10 -8 %n", "stx2 r10 -4 r0", "ldimm r3 77", "call 7", "ldx8 r2 r1 16", "exit"}
	seed := uint64(19)
	next := func(n int) int {
		seed = seed*6364136223846793005 + 1442695040888963407
		return int(seed>>33) % n
	}
	ok, ends := 0, map[api.Errno]int{}
	for range 60000 {
		text := ""
		for range 1 + next(8) {
			line := strings.ReplaceAll(names[next(len(names))], "%n", string(rune('0'+next(3))))
			text += strings.ReplaceAll(line, "%j", []string{"-3", "-2", "+0", "+1", "+2", "+3"}[next(6)]) + "\n"
		}
		l := read(t, "mov64 r3 2\nmov64 r0 1\n"+text+"mov64 r4 1\nexit")
		stores := make([]bool, next(len(l)+2))
		for i := range stores {
			stores[i] = next(2) == 0
		}
		out, from, e := harden.Harden(l, stores)
		if _, f := progs.Check(l, 4, false); (f == api.OK) != (e == api.OK) {
			t.Fatalf("%q: %v, and %v", text, f, e)
		}
		if e != api.OK {
			continue
		}
		ok++
		held(t, l, stores, out, from)
		world := func() *helpers.World {
			w, _ := helpers.New(api.Layout{}, api.Start{Draws: []uint64{0, 1, 2}}, nil)
			return w
		}
		a, b := world(), world()
		x, e := interp.Run(l, a, 50)
		y, f := interp.Run(out, b, 150)
		ends[e]++
		if e != f && e != api.ErrBudget || e == api.OK && (x.R0 != y.R0 || x.Steps > y.Steps) || e != api.ErrBudget && !slices.Equal(a.Memory().Regions(), b.Memory().Regions()) {
			t.Fatalf("%q: %v, %v, and hardened %v, %v", text, x, e, y, f)
		}
	}
	if ok < 1000 || ends[api.OK] < 200 {
		t.Errorf("too little was looked at: %d, %v", ok, ends)
	}
}

// held holds a program with barriers against the words of the document.
func held(t *testing.T, l []api.Insn, stores []bool, out []api.Insn, from []int) {
	t.Helper()
	if _, e := progs.Check(out, 4, true); e != api.OK || len(from) != len(out) {
		t.Fatalf("%v: %v, %d of %d", l, e, len(from), len(out))
	}
	want := make([]bool, len(l))
	for pc, in := range l {
		half := pc > 0 && l[pc-1].Op == api.LdImm
		if !half && isCond(in) {
			want[pc+1], want[pc+1+int(in.Off)] = true, true
		}
		if c := in.Op & 7; !half && (c == api.ClSt || c == api.ClStx) && pc < len(stores) && stores[pc] {
			want[pc+1] = true
		}
	}
	at := make([]int, len(l))
	next := 0
	for i, pc := range from {
		if pc < 0 {
			if out[i] != (api.Insn{Op: api.Nospec}) || i+1 == len(out) || from[i+1] < 0 {
				t.Fatalf("%v: the barrier %d of %v", l, i, from)
			}
			continue
		}
		if pc != next {
			t.Fatalf("%v: %v", l, from)
		}
		at[pc] = i
		next++
		if ahead := i > 0 && from[i-1] < 0; ahead != want[pc] {
			t.Fatalf("%v: a barrier ahead of %d: %v", l, pc, ahead)
		}
	}
	if next != len(l) {
		t.Fatalf("%v: %v", l, from)
	}
	for pc, in := range l {
		now := out[at[pc]]
		if isCond(in) || isAlways(in) && in.Op == api.ClJmp {
			to, was := at[pc]+1+int(now.Off), pc+1+int(in.Off)
			if to != at[was] && !(want[was] && to == at[was]-1) || isCond(in) && want[was] && to == at[was] {
				t.Fatalf("%v: the jump at %d leads to %d of %v", l, pc, to, from)
			}
			now.Off = in.Off
		}
		if now != in {
			t.Fatalf("%v: %d became %v", l, pc, now)
		}
	}
}
