package progs_test

import (
	"slices"
	"strings"
	"testing"

	"firewall/api"
	"firewall/insns"
	"firewall/lines"
	"firewall/progs"
)

func read(t *testing.T, text string) []api.Insn {
	t.Helper()
	l, line, e := lines.Read(strings.ReplaceAll(text, " / ", "\n"))
	if e != api.OK {
		t.Fatalf("%q: line %d, %v", text, line, e)
	}
	return l
}

func many(n int, in api.Insn) []api.Insn {
	l := slices.Repeat([]api.Insn{in}, n)
	return append(l, api.Insn{Op: api.Exit})
}

func TestDecode(t *testing.T) {
	for n, want := range map[int]api.Errno{0: api.ErrLong, 1: api.ErrForm, 7: api.ErrForm, 8: api.OK, 12: api.ErrForm, 16: api.OK, 504: api.OK, 512: api.OK, 513: api.ErrForm, 519: api.ErrForm, 520: api.ErrLong, 8000: api.ErrLong} {
		s := make([]byte, n)
		for i := range s {
			s[i] = byte(i*7 + i/8)
		}
		l, e := progs.Decode(string(s))
		if e != want || e != api.OK && l != nil {
			t.Fatalf("%d bytes: %v, %v", n, l, e)
		}
		if e != api.OK {
			continue
		}
		if len(l) != n/8 || progs.Encode(l) != string(s) {
			t.Errorf("%d bytes: %v", n, l)
		}
		for i, in := range l {
			if d, _ := insns.Decode(string(s[8*i : 8*i+8])); d != in {
				t.Errorf("slot %d of %d bytes: %v", i, n, in)
			}
		}
	}
	if s := progs.Encode(nil); s != "" {
		t.Errorf("no slots: %q", s)
	}
	if s := progs.Encode(many(99, api.Insn{Op: 7, Dst: 1})); len(s) != 800 || s[:2] != "\x07\x01" {
		t.Errorf("a hundred slots: %d bytes", len(s))
	}
}

func TestCheck(t *testing.T) {
	for _, x := range []struct {
		text  string
		maps  int
		inner bool
		pc    int
		e     api.Errno
	}{
		{"mov64 r0 0 / exit", 0, false, 0, api.OK},
		{"exit / exit", 0, false, 1, api.ErrReach},
		{"mov64 r0 0", 0, false, 0, api.ErrEnd},
		{"ja +1 / ldimm r0 5 / exit", 0, false, 0, api.ErrHalf},
		{"ja -1", 0, false, 0, api.OK},
		{"call 4 / exit / ldmap r1 0", 0, false, 0, api.ErrHelper},
		{"exit / ldmap r1 0", 0, false, 1, api.ErrMap},
		{"jeq64 r1 0 +1 / exit", 0, false, 0, api.ErrJump},
		// the errors of instructions, slot by slot, ahead of where they lead
		{"ja +9 / mov64 r10 0", 0, false, 1, api.ErrReg},
		{"raw 7 1 0 1 0 / raw 255 0 0 0 0", 0, false, 0, api.ErrField},
		{"mov64 r0 0 / raw 255 0 0 0 0", 0, false, 1, api.ErrOp},
		{"nospec / exit", 0, false, 0, api.ErrOp},
		{"nospec / exit", 0, true, 0, api.OK},
		{"div64 r0 0 / exit", 0, true, 0, api.ErrImm},
		// halves
		{"raw 24 0 0 0 0", 0, false, 0, api.ErrHalf},
		{"raw 24 0 0 0 0 / exit", 0, false, 0, api.ErrHalf},
		{"raw 24 0 0 0 0 / raw 0 1 0 0 0 / exit", 0, false, 0, api.ErrHalf},
		{"raw 24 0 0 0 0 / raw 0 0 1 0 0 / exit", 0, false, 0, api.ErrHalf},
		{"raw 24 0 0 0 0 / raw 0 0 0 1 0 / exit", 0, false, 0, api.ErrHalf},
		{"raw 24 0 1 0 9 / raw 0 0 0 1 0 / exit", 1, false, 0, api.ErrHalf},
		{"ldimm r0 8589934592 / exit", 0, false, 0, api.OK},
		{"exit / raw 0 0 0 0 0", 0, false, 1, api.ErrOp},
		// maps
		{"ldmap r1 0 / mov64 r0 0 / exit", 1, false, 0, api.OK},
		{"ldmap r1 1 / mov64 r0 0 / exit", 1, false, 0, api.ErrMap},
		{"ldmap r1 1 / mov64 r0 0 / exit", 2, false, 0, api.OK},
		{"ldmap r1 -1 / mov64 r0 0 / exit", 9, false, 0, api.ErrMap},
		{"ldmap r1 0 / mov64 r0 0 / exit", -1, false, 0, api.ErrMap},
		{"raw 24 1 1 0 0 / raw 0 0 0 0 1 / exit", 1, false, 0, api.ErrMap},
		// helpers
		{"call 1 / call 2 / call 3 / call 7 / exit", 0, false, 0, api.OK},
		{"call 1 / call 0 / exit", 0, false, 1, api.ErrHelper},
		{"call 5 / exit", 0, false, 0, api.ErrHelper},
		{"call 8 / exit", 0, false, 0, api.ErrHelper},
		{"call -1 / exit", 0, false, 0, api.ErrHelper},
		// where jumps lead
		{"ja -2 / exit", 0, false, 0, api.ErrJump},
		{"ja +1 / exit", 0, false, 0, api.ErrJump},
		{"ja +0 / exit", 0, false, 0, api.OK},
		{"jeq64 r1 0 -1 / exit", 0, false, 0, api.OK},
		{"jeq32 r1 0 +1 / exit / jgt32 r1 r2 -9", 0, false, 2, api.ErrJump},
		{"jeq64 r1 0 +1 / ldimm r0 5 / exit", 0, false, 0, api.ErrHalf},
		{"ldimm r0 5 / jeq64 r1 0 -2 / exit", 0, false, 2, api.ErrHalf},
		{"ldimm r0 5 / jeq64 r1 0 -3 / exit", 0, false, 0, api.OK},
		{"mov64 r0 0 / jeq64 r1 0 +5", 0, false, 1, api.ErrJump},
		{"mov64 r0 0 / jeq64 r1 0 -1", 0, false, 1, api.ErrEnd},
		{"mov64 r0 0 / call 7", 0, false, 1, api.ErrEnd},
		{"mov64 r0 0 / ldimm r0 5", 0, false, 1, api.ErrEnd},
		{"mov64 r0 0 / stx8 r10 -8 r1", 0, false, 1, api.ErrEnd},
		{"mov64 r0 0 / jeq64 r1 0 +0 / ja -3", 0, false, 0, api.OK},
		// ways
		{"ja +1 / mov64 r0 0 / exit", 0, false, 1, api.ErrReach},
		{"ja +2 / mov64 r0 0 / ja -2 / exit", 0, false, 1, api.ErrReach},
		{"ja +2 / ldimm r0 5 / exit", 0, false, 1, api.ErrReach},
		{"ja -1 / exit", 0, false, 1, api.ErrReach},
		{"jeq64 r1 0 +2 / mov64 r0 0 / exit / mov64 r0 1 / ja -3", 0, false, 0, api.OK},
	} {
		if pc, e := progs.Check(read(t, x.text), x.maps, x.inner); pc != x.pc || e != x.e {
			t.Errorf("Check(%q, %d, %v) = %d, %v, want %d, %v", x.text, x.maps, x.inner, pc, e, x.pc, x.e)
		}
	}
}

func TestCheckOfLengths(t *testing.T) {
	mov := api.Insn{Op: api.ClAlu64 | api.OpMov}
	for _, x := range []struct {
		l     []api.Insn
		inner bool
		e     api.Errno
	}{
		{nil, false, api.ErrLong}, {nil, true, api.ErrLong}, {many(0, mov), false, api.OK},
		{many(63, mov), false, api.OK}, {many(64, mov), false, api.ErrLong}, {many(64, mov), true, api.OK},
		{many(191, mov), true, api.OK}, {many(192, mov), true, api.ErrLong}, {many(5000, mov), true, api.ErrLong},
		{many(64, api.Insn{Op: 255}), false, api.ErrLong},
	} {
		if pc, e := progs.Check(x.l, 0, x.inner); pc != 0 || e != x.e {
			t.Errorf("%d slots, %v: %d, %v", len(x.l), x.inner, pc, e)
		}
	}
}

func TestNext(t *testing.T) {
	l := []api.Insn{
		{Op: api.ClJmp, Off: 1},             // ja to 2
		{Op: api.ClJmp | api.JmpEq, Off: 3}, // to 2 and 5
		{Op: api.LdImm},                     // to 4
		{},                                  // to 4
		{Op: api.Exit},                      // nowhere
		{Op: api.ClJmp32 | api.JmpExit | api.FromReg},              // an exit, too
		{Op: api.Call, Off: 1},                                     // to 7
		{Op: api.ClJmp32 | api.JmpCall, Off: -9},                   // a call, too
		{Op: api.ClJmp32 | api.FromReg, Off: -9},                   // always, to 0
		{Op: api.ClJmp | 0xe0, Off: -1},                            // a jump that is none, to 10 and 9
		{Op: api.ClJmp32 | api.JmpLt, Off: 0},                      // to 11, twice
		{Op: api.ClAlu64 | api.JmpEq, Off: -5},                     // no jump
		{Op: api.ClJmp | api.JmpEq, Off: -14},                      // out in front
		{Op: api.ClJmp | api.JmpEq | api.FromReg, Src: 1, Off: 99}, // out behind
		{Op: api.ClJmp, Off: 32767},                                // nowhere
		{Op: api.ClJmp | api.JmpSle, Off: -1 << 15},                // to 16
		{Op: api.Nospec},                                           // to 17
		{Op: api.LdImm},                                            // nowhere
	}
	want := [][]int{{2}, {2, 5}, {4}, {4}, nil, nil, {7}, {8}, {0}, {10, 9}, {11, 11}, {12}, {13}, {14}, nil, {16}, {17}, nil}
	for pc := range l {
		if n := progs.Next(l, pc); !slices.Equal(n, want[pc]) {
			t.Errorf("Next of %d: %v, want %v", pc, n, want[pc])
		}
	}
	for _, pc := range []int{-1, len(l), 1 << 60, -1 << 63, 1<<63 - 1} {
		if n := progs.Next(l, pc); len(n) != 0 {
			t.Errorf("Next of %d: %v", pc, n)
		}
	}
	if n := progs.Next(l[:3], 2); len(n) != 0 {
		t.Errorf("Next of an LdImm at the end: %v", n)
	}
}

func TestConst(t *testing.T) {
	l := []api.Insn{{Op: api.LdImm, Imm: -2}, {Imm: -1}, {Op: api.LdImm, Imm: 5}, {Imm: 1 << 30}, {Op: api.LdImm, Src: 1, Imm: 5}, {}, {Op: api.LdxD, Imm: 5}, {Op: api.LdImm, Imm: 7}, {Op: api.LdImm, Imm: 9}}
	want := []uint64{1<<64 - 2, 0, 1<<62 + 5, 0, 0, 0, 0, 9<<32 + 7, 0}
	for pc := range l {
		if v := progs.Const(l, pc); v != want[pc] {
			t.Errorf("Const at %d: %d, want %d", pc, v, want[pc])
		}
	}
	for _, pc := range []int{-1, len(l), 1<<63 - 1, -1 << 63} {
		if v := progs.Const(l, pc); v != 0 {
			t.Errorf("Const at %d: %d", pc, v)
		}
	}
}

// TestWhatFollows goes through programs that are made by a rule, and looks at what must be so of those that are OK.
func TestWhatFollows(t *testing.T) {
	seed := uint64(3)
	next := func(n int) int {
		seed = seed*6364136223846793005 + 1442695040888963407
		return int(seed>>33) % n
	}
	some := []api.Insn{{Op: api.ClAlu64 | api.OpMov}, {Op: api.ClJmp}, {Op: api.ClJmp | api.JmpEq}, {Op: api.ClJmp32 | api.JmpSlt}, {Op: api.Exit}, {Op: api.LdImm, Src: 1}, {Op: api.LdImm}, {}, {}, {Op: api.Call, Imm: 7}, {Op: api.Nospec}}
	fine := 0
	for range 30000 {
		l := make([]api.Insn, 1+next(6))
		for i := range l {
			l[i] = some[next(len(some))]
			if c := l[i].Op & 7; (c == api.ClJmp || c == api.ClJmp32) && l[i].Op != api.Exit && l[i].Op != api.Call {
				l[i].Off = int16(next(7) - 3)
			}
		}
		_, inside := progs.Check(l, 1, true)
		if _, e := progs.Check(l, 1, false); e == api.OK && inside != api.OK {
			t.Fatalf("%v is OK outside alone", l)
		}
		if inside != api.OK {
			continue
		}
		fine++
		if _, e := progs.Check(l, 2, true); e != api.OK {
			t.Fatalf("%v is not OK with more maps", l)
		}
		seen := make([]bool, len(l))
		work := []int{0}
		for len(work) > 0 {
			pc := work[0]
			work = work[1:]
			if seen[pc] {
				continue
			}
			seen[pc] = true
			behind := progs.Next(l, pc)
			if (len(behind) == 0) != (l[pc].Op == api.Exit) {
				t.Fatalf("%v ends at %d", l, pc)
			}
			work = append(work, behind...)
		}
		for pc := range l {
			half := pc > 0 && seen[pc-1] && l[pc-1].Op == api.LdImm
			if seen[pc] == half {
				t.Fatalf("%v: slot %d", l, pc)
			}
		}
	}
	if fine < 100 {
		t.Fatalf("only %d programs were OK", fine)
	}
}
