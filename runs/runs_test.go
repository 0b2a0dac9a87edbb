package runs_test

import (
	"reflect"
	"slices"
	"strings"
	"testing"

	"firewall/api"
	"firewall/helpers"
	"firewall/interp"
	"firewall/lines"
	"firewall/load"
	"firewall/machine"
	"firewall/progs"
	"firewall/runs"
	"firewall/spec"
)

const minus = 1<<64 - 1

var layout = api.Layout{
	Maps:   []api.Map{{Kind: api.MapArray, Key: 4, Value: 16, Max: 3}, {Kind: api.MapHash, Key: 8, Value: 4, Max: 2}},
	Packet: 8,
}

func start(n int) api.Start {
	marks := []uint64{0, 1, 5, 255, 1 << 31, 1<<63 + 1, minus}
	return api.Start{Packet: "\x00\x01\x7f\xff abc", Mark: marks[n%7], Draws: []uint64{marks[n%7], uint64(n), minus, 3}, Maps: [][]api.Entry{{{Key: string([]byte{byte(n % 3), 0, 0, 0}), Value: "abcdefghijklmnop"}}, {{Key: "\x05\x00\x00\x00\x00\x00\x00\x00", Value: "1234"}}}}
}

// around is other memory that lies right behind, and ahead of, all that a program has.
func around(b string) []api.Region {
	var l []api.Region
	for _, base := range []uint64{0, api.CtxBase - 64, api.CtxBase + api.CtxSize, api.StackBase - 64, api.StackBase + api.StackSize, api.PacketBase - 64, api.PacketBase + 8, api.NativeBase - 64, api.NativeBase + api.NativeSize, api.MapBase - 64, api.MapBase + 48, api.MapBase + api.MapStep - 64, api.MapBase + api.MapStep + 8} {
		l = append(l, api.Region{Base: base, Data: strings.Repeat(b, 64), Write: base%3 == 0})
	}
	return l
}

func program(t *testing.T, text string) load.Program {
	t.Helper()
	p, e := loaded(t, text)
	if e != api.OK {
		t.Fatalf("%q: %v", text, e)
	}
	return p
}

func loaded(t *testing.T, text string) (load.Program, api.Errno) {
	t.Helper()
	l, line, e := lines.Read(strings.ReplaceAll(text, " / ", "\n"))
	if e != api.OK {
		t.Fatalf("%q: line %d, %v", text, line, e)
	}
	p, _, e := load.Load(progs.Encode(l), layout)
	return p, e
}

func TestExample(t *testing.T) {
	p, _, _ := load.Load("\xb7\x00\x00\x00\x2a\x00\x00\x00\x95\x00\x00\x00\x00\x00\x00\x00", api.Layout{})
	s := api.Start{Mark: 7}
	a, e := runs.Slots(p, s)
	b, f := runs.Code(p, s, nil)
	c, trace, squashed, g := runs.Guess(p, s, runs.Guesses{Window: 4, Script: []uint8{1, 1}})
	if e != api.OK || f != api.OK || g != api.OK || squashed != 0 || len(trace) == 0 {
		t.Fatal(e, f, g, squashed, trace)
	}
	for _, x := range []runs.End{a, b, c} {
		if x.Out.R0 != 42 || x.Left.Mark != 7 || x.Left.Packet != "" || len(x.Left.Maps) != 0 || len(x.Left.Draws) != 0 || !runs.Same(a, x) {
			t.Error(x)
		}
	}
	if a.Out.Steps != 2 {
		t.Error(a)
	}
}

// TestAgainstTheLayers: each of the three is what its layer tells, and what is left in the world.
func TestAgainstTheLayers(t *testing.T) {
	p := program(t, "ldx8 r2 r1 0 / ldx8 r3 r1 8 / mov64 r6 r1 / mov64 r4 r2 / add64 r4 8 / jgt64 r4 r3 +2 / st1 r2 2 9 / st8 r6 16 77 / st8 r10 -8 6 / call 7 / mov64 r6 r0 / mov64 r2 r10 / add64 r2 -8 / mov64 r3 r2 / mov64 r4 0 / ldmap r1 1 / call 2 / add64 r0 r6 / exit")
	more := around("x")
	s := start(2)
	world := func(l []api.Region) *helpers.World {
		w, e := helpers.New(layout, s, l)
		if e != api.OK {
			t.Fatal(e)
		}
		return w
	}
	left := func(w *helpers.World) api.Start {
		packet, _ := w.Memory().Text(api.PacketBase, 8)
		mark, _ := w.Memory().Read(api.CtxBase+16, 8)
		return api.Start{Packet: packet, Mark: mark, Maps: [][]api.Entry{w.Maps().Entries(0), w.Maps().Entries(1)}}
	}
	w := world(nil)
	out, _ := interp.Run(p.Slots, w, api.MaxSteps)
	if end, e := runs.Slots(p, s); e != api.OK || !reflect.DeepEqual(end, runs.End{Out: out, Left: left(w)}) {
		t.Error("Slots", end, e)
	}
	w = world(more)
	out, _, _ = machine.Run(w, p.Code, 40*api.MaxSteps)
	if end, e := runs.Code(p, s, more); e != api.OK || !reflect.DeepEqual(end, runs.End{Out: out, Left: left(w)}) {
		t.Error("Code", end, e)
	}
	w = world(more)
	script := []uint8{1, 0, 2, 1, 1, 1, 3}
	out, told, _ := spec.Run(w, p.Code, 9, script, 40*api.MaxSteps)
	end, trace, squashed, e := runs.Guess(p, s, runs.Guesses{Window: 9, Script: script, More: more})
	if e != api.OK || !reflect.DeepEqual(end, runs.End{Out: out, Left: left(w)}) || !slices.Equal(trace, told.Trace) || squashed != told.Squashed || squashed == 0 {
		t.Error("Guess", end, e, squashed)
	}
	if end.Left.Mark != 77 || end.Left.Packet != "\x00\x01\x09\xff abc" || len(end.Left.Maps[0]) != 3 || len(end.Left.Maps[1]) != 2 || end.Left.Draws != nil {
		t.Error(end.Left)
	}
}

func TestErrors(t *testing.T) {
	p := program(t, "mov64 r0 1 / exit")
	all := func(p load.Program, s api.Start, g runs.Guesses) [3]api.Errno {
		t.Helper()
		a, e := runs.Slots(p, s)
		b, f := runs.Code(p, s, g.More)
		c, trace, squashed, h := runs.Guess(p, s, g)
		for i, k := range [3]api.Errno{e, f, h} {
			if x := [3]runs.End{a, b, c}[i]; k != api.OK && !reflect.DeepEqual(x, runs.End{}) {
				t.Errorf("beside an error %v is told", x)
			}
		}
		if h != api.OK && (trace != nil || squashed != 0) {
			t.Error("beside an error there is a trace")
		}
		return [3]api.Errno{e, f, h}
	}
	with := func(f func(p *load.Program)) load.Program {
		q := p
		f(&q)
		return q
	}
	for n, x := range []struct {
		p    load.Program
		s    api.Start
		g    runs.Guesses
		want [3]api.Errno
	}{
		{p, start(0), runs.Guesses{Window: 16}, [3]api.Errno{}},
		{p, api.Start{}, runs.Guesses{}, [3]api.Errno{api.ErrArg, api.ErrArg, api.ErrArg}},
		{p, start(0), runs.Guesses{More: []api.Region{{Base: api.StackBase, Data: "a"}}}, [3]api.Errno{api.OK, api.ErrArg, api.ErrArg}},
		{p, start(0), runs.Guesses{Window: 17}, [3]api.Errno{api.OK, api.OK, api.ErrArg}},
		{p, start(0), runs.Guesses{Window: -1}, [3]api.Errno{api.OK, api.OK, api.ErrArg}},
		{load.Program{}, api.Start{}, runs.Guesses{}, [3]api.Errno{api.ErrLong, api.ErrCode, api.ErrCode}},
		{with(func(p *load.Program) { p.Slots = []api.Insn{{Op: api.ClJmp, Off: -1}} }), start(0), runs.Guesses{}, [3]api.Errno{api.ErrBudget, api.OK, api.OK}},
		{with(func(p *load.Program) { p.Code = "\xeb\xfe" }), start(0), runs.Guesses{}, [3]api.Errno{api.OK, api.ErrBudget, api.ErrBudget}},
		{with(func(p *load.Program) { p.Code = "\xf7\xf3" }), start(0), runs.Guesses{}, [3]api.Errno{api.OK, api.ErrDiv, api.ErrDiv}},
		{with(func(p *load.Program) { p.Layout.Packet = 300 }), start(0), runs.Guesses{}, [3]api.Errno{api.ErrArg, api.ErrArg, api.ErrArg}},
	} {
		if got := all(x.p, x.s, x.g); got != x.want {
			t.Errorf("%d: %v, want %v", n, got, x.want)
		}
	}
}

func TestBudgets(t *testing.T) {
	p := program(t, "mov64 r0 1 / exit")
	// A loop of 2 instructions, so often that it has just as many steps as there may be: 1 + 2 n + 1.
	p.Slots = []api.Insn{{Op: api.ClAlu64 | api.OpMov, Imm: 1999}, {Op: api.ClAlu64 | api.OpSub, Imm: 1}, {Op: api.ClJmp | api.JmpNe, Off: -2}, {Op: api.Exit}}
	if end, e := runs.Slots(p, start(0)); e != api.OK || end.Out.Steps != api.MaxSteps {
		t.Error(end.Out, e)
	}
	if p.Slots[0].Imm++; true {
		if _, e := runs.Slots(p, start(0)); e != api.ErrBudget {
			t.Error(e)
		}
	}
	// dec rax by 1 and jump back: XImm, then 79999 times two, and a return less: 160000 in all.
	p.Code = "\x48\xc7\xc0\x7f\x38\x01\x00" + "\x48\x81\xe8\x01\x00\x00\x00" + "\x75\xf7" + "\xc3"
	if end, e := runs.Code(p, start(0), nil); e != api.OK || end.Out.Steps != 40*api.MaxSteps {
		t.Error(end.Out, e)
	}
	p.Code = "\x48\xc7\xc0\x80\x38\x01\x00" + p.Code[7:]
	if _, e := runs.Code(p, start(0), nil); e != api.ErrBudget {
		t.Error(e)
	}
	if _, _, _, e := runs.Guess(p, start(0), runs.Guesses{}); e != api.ErrBudget {
		t.Error(e)
	}
}

func TestSame(t *testing.T) {
	made := func() runs.End {
		return runs.End{Out: api.Outcome{R0: 1, Steps: 2}, Left: api.Start{Packet: "ab", Mark: 3, Maps: [][]api.Entry{nil, {{Key: "k", Value: "v"}}}}}
	}
	for n, x := range []struct {
		f    func(e *runs.End)
		want bool
	}{
		{func(e *runs.End) {}, true}, {func(e *runs.End) { e.Out.Steps = 9 }, true}, {func(e *runs.End) { e.Left.Maps[0] = []api.Entry{} }, true}, {func(e *runs.End) { e.Left.Draws = []uint64{1} }, true},
		{func(e *runs.End) { e.Out.R0 = 9 }, false}, {func(e *runs.End) { e.Left.Packet = "aB" }, false}, {func(e *runs.End) { e.Left.Mark = 9 }, false},
		{func(e *runs.End) { e.Left.Maps[1][0].Key = "l" }, false}, {func(e *runs.End) { e.Left.Maps[1][0].Value = "" }, false}, {func(e *runs.End) { e.Left.Maps[1] = nil }, false}, {func(e *runs.End) { e.Left.Maps[0] = e.Left.Maps[1] }, false}, {func(e *runs.End) { e.Left.Maps = nil }, false},
	} {
		a, b := made(), made()
		x.f(&b)
		if runs.Same(a, b) != x.want || runs.Same(b, a) != x.want {
			t.Errorf("%d: %v and %v", n, a, b)
		}
	}
	if !runs.Same(runs.End{}, runs.End{Left: api.Start{Maps: [][]api.Entry{}}}) {
		t.Error("a list that is nil, and one that is empty")
	}
}

// kept holds the machine's registers, and all that is not the program's, behind a run against what they were.
func kept(t *testing.T, p load.Program, s api.Start, text string) {
	t.Helper()
	w, _ := helpers.New(layout, s, around("z"))
	before := w.Memory().Regions()
	_, state, e := machine.Run(w, p.Code, 40*api.MaxSteps)
	if e != api.OK {
		t.Fatalf("%q: %v", text, e)
	}
	for _, r := range []int{api.RBX, api.RBP, api.R12, api.R13, api.R14, api.R15} {
		if state.R[r] != 0 {
			t.Fatalf("%q: the register %d has %#x", text, r, state.R[r])
		}
	}
	own := []uint64{api.CtxBase + 16, api.StackBase, api.PacketBase, api.NativeBase, api.MapBase, api.MapBase + api.MapStep}
	for i, r := range w.Memory().Regions() {
		if !slices.Contains(own, r.Base) && r != before[i] {
			t.Fatalf("%q: what lies at %#x changed", text, r.Base)
		}
	}
}

// TestWhatFollows makes programs by a rule: all three runs come to the same end, and other memory makes no difference.
func TestWhatFollows(t *testing.T) {
	names := []string{"add64 r%a r%b", "mov64 r%a r%b", "sub64 r%a %n", "and64 r%a 7", "mod64 r%a r%b", "div32 r%a r%b", "neg32 r%a", "mov64 r%a %n", "rsh64 r%a r%b", "lsh32 r%a r4", "mul32 r%a r%b", "arsh64 r%a 5",
		"jgt64 r%a r%b %j", "jslt64 r%a %n %j", "jset64 r%a 4 %j", "jle32 r%a r%b %j", "jeq64 r%a %n %j", "jne64 r%a %n %j", "ja %j", "jgt64 r7 r8 %j", "jle64 r7 r8 %j", "jset64 r7 r8 %j", "jsle64 r8 r7 %j", "jge64 r0 0 %j", "sub64 r4 1\njne64 r4 0 -2",
		"stx8 r10 -8 r%a", "stx4 r10 -12 r%a", "ldx8 r%a r10 -8", "ldx2 r%a r10 -6", "ldx8 r%a r9 16", "ldx1 r%a r9 16", "stx2 r9 20 r%a", "stx8 r10 -24 r7", "ldx8 r7 r10 -24", "stx8 r10 -32 r%a\nldx8 r%a r10 -32",
		"call 7", "mov64 r7 r6", "mov64 r7 r6\nadd64 r7 4\njgt64 r7 r8 +2\nldx4 r%a r6 0\nstx1 r6 2 r%a", "mov64 r7 r6\nadd64 r7 1\njgt64 r7 r8 +6\nldx1 r3 r6 0\nand64 r3 7\nadd64 r7 r3\nadd64 r7 2\njgt64 r7 r8 +1\nldx2 r%a r7 -2",
		"mov64 r2 r10\nadd64 r2 -16\nldmap r1 0\ncall 1\njeq64 r0 0 +1\nldx4 r3 r0 0\nmov64 r0 0\nmov64 r1 1\nmov64 r2 2", "mov64 r2 r10\nadd64 r2 -16\nldmap r1 0\ncall 1\njeq64 r0 0 +4\nldx1 r1 r0 0\nand64 r1 7\nadd64 r0 r1\nldx1 r3 r0 8\nmov64 r0 0\nmov64 r1 1\nmov64 r2 2",
		"mov64 r2 r10\nadd64 r2 -16\nldmap r1 1\ncall 1\njeq64 r0 0 +2\nst2 r0 1 7\nldx2 r3 r0 0\nmov64 r0 0\nmov64 r1 1\nmov64 r2 2", "mov64 r2 r10\nadd64 r2 -16\nmov64 r3 r2\nmov64 r4 0\nldmap r1 1\ncall 2\nmov64 r1 1\nmov64 r2 2\nmov64 r3 3\nmov64 r4 4", "stx4 r10 -16 r%a"}
	seed := uint64(51)
	next := func(n int) int {
		seed = seed*6364136223846793005 + 1442695040888963407
		return int(seed>>33) % n
	}
	taken, squashed := 0, 0
	for range 1600 {
		text := "mov64 r9 r1\nldx8 r6 r1 0\nldx8 r8 r1 8\nmov64 r7 r6\nmov64 r0 5\nmov64 r1 -3\nldx8 r2 r9 16\nmov64 r3 7\nmov64 r4 3\nst8 r10 -8 9\nst8 r10 -16 1\n"
		for range 1 + next(6) {
			line := names[next(len(names))]
			line = strings.ReplaceAll(line, "%a", string(rune('0'+next(4))))
			line = strings.ReplaceAll(line, "%b", string(rune('0'+next(4))))
			line = strings.ReplaceAll(line, "%j", []string{"+0", "+1", "+1", "+2", "+3"}[next(5)])
			text += strings.ReplaceAll(line, "%n", []string{"0", "1", "-8", "16", "255"}[next(5)]) + "\n"
		}
		if strings.Count(text, "\n")+strings.Count(text, "ldmap") > api.MaxInsns-5 {
			continue
		}
		p, e := loaded(t, text+"mov64 r1 1\nmov64 r1 1\nadd64 r0 r2\nxor64 r0 r3\nexit")
		if e != api.OK {
			continue
		}
		taken++
		s := start(next(50))
		a, e := runs.Slots(p, s)
		b, f := runs.Code(p, s, around("y"))
		if e != api.OK || f != api.OK || !runs.Same(a, b) || a.Out.Steps > p.Visits {
			t.Fatalf("%q: %v, %v, and %v, %v", text, a, e, b, f)
		}
		kept(t, p, s, text)
		for range 4 {
			g := runs.Guesses{Window: next(17), Script: make([]uint8, next(40)), More: around("\x00")}
			set := 0
			for i := range g.Script {
				if g.Script[i] = uint8(next(3)); g.Script[i] != 0 {
					set++
				}
			}
			c, first, n, e := runs.Guess(p, s, g)
			g.More = around("\x7f")
			d, second, m, f := runs.Guess(p, s, g)
			if e != api.OK || f != api.OK || !runs.Same(a, c) || !runs.Same(a, d) || c.Out != b.Out {
				t.Fatalf("%q, guessing: %v, %v, %v", text, c, e, f)
			}
			if !slices.Equal(first, second) || n != m || n > g.Window*set {
				t.Fatalf("%q, %v: other memory is shown", text, g.Script)
			}
			squashed += n
		}
	}
	if taken < 200 || squashed < 200 {
		t.Errorf("too little was looked at: %d, %d", taken, squashed)
	}
}
