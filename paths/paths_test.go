package paths_test

import (
	"slices"
	"strings"
	"testing"

	"firewall/api"
	"firewall/helpers"
	"firewall/interp"
	"firewall/lines"
	"firewall/paths"
	"firewall/progs"
)

const minus = 1<<64 - 1

var layout = api.Layout{
	Maps:   []api.Map{{Kind: api.MapArray, Key: 4, Value: 16, Max: 3}, {Kind: api.MapHash, Key: 8, Value: 4, Max: 2}},
	Packet: 8,
}

func read(t *testing.T, text string) []api.Insn {
	t.Helper()
	l, line, e := lines.Read(strings.ReplaceAll(text, " / ", "\n"))
	if e != api.OK {
		t.Fatalf("%q: line %d, %v", text, line, e)
	}
	return l
}

func TestCheck(t *testing.T) {
	loop := "mov64 r0 0 / add64 r0 1 / jlt64 r0 %n -2 / exit"
	for _, x := range []struct {
		text       string
		visits, pc int
		e          api.Errno
	}{
		{"mov64 r0 1 / exit", 2, 0, api.OK},
		{"ja -1 / exit", 0, 1, api.ErrReach},
		{strings.ReplaceAll(loop, "%n", "3000"), 0, 2, api.ErrVisits},
		{strings.ReplaceAll(loop, "%n", "1999"), 4000, 0, api.OK},
		{strings.ReplaceAll(loop, "%n", "2000"), 0, 2, api.ErrVisits},
		{"mov64 r0 0 / ja -1", 0, 1, api.ErrVisits},
		{"mov64 r0 0 / mov64 r1 0 / ja -2", 0, 2, api.ErrVisits},
		{"exit", 0, 0, api.ErrUninit},
		{"mov64 r0 r1 / exit", 0, 1, api.ErrLeak},
		{"mov64 r0 0 / nospec / exit", 0, 1, api.ErrOp},
		{"mov64 r0 0", 0, 0, api.ErrEnd},
		{"ldmap r1 2 / mov64 r0 0 / exit", 0, 0, api.ErrMap},
		{"mov64 r0 0 / ldx8 r2 r1 0 / ldx1 r0 r2 0 / exit", 0, 2, api.ErrBound},
		{"call 7 / jeq64 r0 1 +1 / exit / mov64 r0 r10 / exit", 0, 4, api.ErrLeak},
		{"mov64 r0 3 / jeq64 r0 1 +1 / exit / mov64 r0 r10 / exit", 3, 0, api.OK},
		{"mov64 r0 0 / mov64 r1 10 / add64 r0 r1 / sub64 r1 1 / jne64 r1 0 -3 / exit", 33, 0, api.OK},
	} {
		told, pc, e := paths.Check(read(t, x.text), layout)
		if told.Visits != x.visits || pc != x.pc || e != x.e {
			t.Errorf("%q: %d visits, at %d: %v; want %d, %d, %v", x.text, told.Visits, pc, e, x.visits, x.pc, x.e)
		}
		if n := len(read(t, x.text)); e == api.OK && (len(told.Stores) != n || len(told.Maps) != n) || e != api.OK && (told.Stores != nil || told.Maps != nil) {
			t.Errorf("%q: %v", x.text, told)
		}
	}
	if _, pc, e := paths.Check(nil, layout); pc != 0 || e != api.ErrLong {
		t.Error(pc, e)
	}
	if _, _, e := paths.Check(slices.Repeat(read(t, "mov64 r0 0"), 65), layout); e != api.ErrLong {
		t.Error(e)
	}
}

func TestTold(t *testing.T) {
	key := "mov64 r2 r10 / add64 r2 -8 / "
	l := read(t, "st8 r1 16 0 / st8 r10 -8 0 / mov64 r6 1 / stx1 r10 -9 r6 / "+key+"ldmap r1 1 / call 1 / "+key+"ldmap r1 0 / call 1 / jeq64 r0 0 +1 / st8 r0 0 1 / mov64 r0 0 / exit")
	told, pc, e := paths.Check(l, layout)
	if e != api.OK {
		t.Fatal(pc, e)
	}
	for pc := range l {
		if told.Stores[pc] != (pc == 1 || pc == 3) || told.Maps[pc] != map[int]int{8: 2, 13: 1}[pc] {
			t.Errorf("of %d: %v, %d", pc, told.Stores[pc], told.Maps[pc])
		}
	}
	// A lookup that is in one map, or in another one.
	l = read(t, "st8 r10 -8 0 / call 7 / ldmap r1 0 / jeq64 r0 5 +2 / ldmap r1 1 / "+key+"call 1 / mov64 r0 0 / exit")
	told, pc, e = paths.Check(l, layout)
	if e != api.OK || told.Maps[9] > 0 {
		t.Error(pc, e, told.Maps)
	}
	// A store to the stack, or to the context, by one instruction.
	l = read(t, "mov64 r6 r10 / add64 r6 -32 / call 7 / jeq64 r0 5 +1 / ja +2 / mov64 r6 r10 / add64 r6 -16 / st8 r6 0 1 / mov64 r0 0 / exit")
	told, pc, e = paths.Check(l, layout)
	if e != api.OK || !told.Stores[7] {
		t.Error(pc, e, told.Stores)
	}
}

// starts are some that the layout may have.
func starts() []api.Start {
	var l []api.Start
	for n, mark := range []uint64{0, 1, 5, 255, 1 << 31, 1<<63 + 1, minus} {
		l = append(l, api.Start{Packet: "\x00\x01\x7f\xff abc", Mark: mark, Draws: []uint64{mark, uint64(n), minus, 3}, Maps: [][]api.Entry{{{Key: string([]byte{byte(n % 3), 0, 0, 0}), Value: "abcdefghijklmnop"}}, {{Key: "\x05\x00\x00\x00\x00\x00\x00\x00", Value: "1234"}}}})
	}
	return l
}

// safe runs a program that was taken, from all starts.
func safe(t *testing.T, l []api.Insn, told paths.Told) {
	t.Helper()
	for _, s := range starts() {
		w, e := helpers.New(layout, s, nil)
		if e != api.OK {
			t.Fatal(e)
		}
		if _, e := interp.Run(l, w, told.Visits); e != api.OK {
			t.Fatalf("%s: %v, after %d visits", lines.Show(l), e, told.Visits)
		}
	}
}

// TestTakenIsSafe makes programs with all kinds of instructions, and jumps on and back, by a rule.
func TestTakenIsSafe(t *testing.T) {
	names := []string{"add64 r%a r%b", "mov64 r%a r%b", "sub64 r%a %n", "and64 r%a 7", "mod64 r%a r%b", "neg32 r%a", "mov64 r%a %n", "rsh64 r%a r%b", "mul32 r%a r%b",
		"jgt64 r%a r%b %j", "jslt64 r%a %n %j", "jset64 r%a 4 %j", "jle32 r%a r%b %j", "jeq64 r%a %n %j", "jne64 r%a %n %j", "ja %j", "jgt64 r7 r8 %j", "jle64 r7 r8 %j", "jset64 r7 r8 %j", "jsle64 r8 r7 %j", "jge64 r0 0 %j", "jeq64 r0 0 %j", "jne64 r0 0 %j", "jne64 r4 0 -4", "sub64 r4 1", "jlt64 r5 6 -3", "add64 r5 1",
		"stx8 r10 -8 r%a", "stx4 r10 -12 r%a", "ldx8 r%a r10 -8", "ldx2 r%a r10 -6", "ldx8 r%a r9 16", "ldx1 r%a r9 16", "stx2 r9 20 r%a", "stx8 r10 -24 r7", "ldx8 r7 r10 -24", "stx8 r10 -32 r0", "ldx8 r0 r10 -32",
		"call 7", "mov64 r7 r6", "add64 r7 4", "add64 r7 1", "ldx1 r%a r7 0", "ldx1 r%a r7 -1", "ldx4 r%a r6 0", "add64 r7 r%a", "ldx8 r6 r9 0",
		"mov64 r2 r10\nadd64 r2 -16\nldmap r1 0\ncall 1\njeq64 r0 0 +1\nldx4 r3 r0 0\nmov64 r0 0\nmov64 r1 1\nmov64 r2 2", "mov64 r2 r10\nadd64 r2 -16\nldmap r1 0\ncall 1\njeq64 r0 0 +4\nldx1 r1 r0 0\nand64 r1 7\nadd64 r0 r1\nldx1 r3 r0 8\nmov64 r0 0\nmov64 r1 1\nmov64 r2 2", "mov64 r2 r10\nadd64 r2 -16\nldmap r1 1\ncall 1\njne64 r0 0 %j\nst1 r0 3 5\nmov64 r0 0\nmov64 r1 1\nmov64 r2 2", "mov64 r0 0", "mov64 r1 1\nmov64 r2 2"}
	seed := uint64(5)
	next := func(n int) int {
		seed = seed*6364136223846793005 + 1442695040888963407
		return int(seed>>33) % n
	}
	taken, back, found := 0, 0, 0
	for range 900 {
		text := "mov64 r9 r1\nldx8 r6 r1 0\nldx8 r8 r1 8\nmov64 r7 r6\nmov64 r0 5\nmov64 r1 -3\nldx8 r2 r9 16\nmov64 r3 7\nmov64 r4 3\nmov64 r5 0\nst8 r10 -8 9\nst8 r10 -16 1\n"
		for range 2 + next(10) {
			line := names[next(len(names))]
			line = strings.ReplaceAll(line, "%a", string(rune('0'+next(4))))
			line = strings.ReplaceAll(line, "%b", string(rune('0'+next(4))))
			line = strings.ReplaceAll(line, "%j", []string{"+0", "+1", "+1", "+2", "+3", "-2", "-3"}[next(7)])
			text += strings.ReplaceAll(line, "%n", []string{"0", "1", "-8", "16", "255"}[next(5)]) + "\n"
		}
		if strings.Count(text, "\n")+strings.Count(text, "ldmap") > api.MaxInsns-3 {
			continue
		}
		l := read(t, text+"mov64 r0 0\nmov64 r0 0\nexit")
		l[len(l)-2] = api.Insn{Op: api.ClAlu64 | api.OpMov | api.FromReg, Src: uint8(next(4) * next(2))}
		told, _, e := paths.Check(l, layout)
		if e != api.OK {
			continue
		}
		taken++
		safe(t, l, told)
		if strings.Contains(text, " -2\n") || strings.Contains(text, " -4\n") || strings.Contains(text, "6 -3\n") {
			back++
		}
		if strings.Contains(text, "call 1\n") {
			found++
		}
	}
	if taken < 60 || back < 3 || found < 5 {
		t.Errorf("too little was looked at: %d, %d, %d", taken, back, found)
	}
}

// TestKnownNumbers: programs whose numbers are known are taken, if they come to an end, and each step is looked at once.
func TestKnownNumbers(t *testing.T) {
	names := []string{"add64 r%a r%b", "sub64 r%a %n", "and64 r%a r%b", "or64 r%a %n", "xor64 r%a r%b", "mul64 r%a %n", "mov64 r%a r%b", "mov64 r%a %n", "neg64 r%a", "add64 r3 1", "add64 r3 1", "jlt64 r3 %m -2", "jne64 r3 %m -3", "jgt64 r%a r%b %j", "jslt64 r%a %n %j", "jset32 r%a 4 %j", "jle32 r%a r%b %j", "jeq64 r%a %n %j", "ja %j"}
	seed := uint64(17)
	next := func(n int) int {
		seed = seed*6364136223846793005 + 1442695040888963407
		return int(seed>>33) % n
	}
	ends := map[api.Errno]int{}
	long := 0
	for range 200 {
		text := "mov64 r0 5\nmov64 r1 -3\nmov64 r2 77\nmov64 r3 0\n"
		for range 2 + next(10) {
			line := names[next(len(names))]
			line = strings.ReplaceAll(line, "%a", string(rune('0'+next(3))))
			line = strings.ReplaceAll(line, "%b", string(rune('0'+next(4))))
			line = strings.ReplaceAll(line, "%j", []string{"+0", "+1", "+2", "+3", "-2"}[next(5)])
			line = strings.ReplaceAll(line, "%m", []string{"3", "60", "1300"}[next(3)])
			text += strings.ReplaceAll(line, "%n", []string{"0", "1", "-8", "16", "255"}[next(5)]) + "\n"
		}
		l := read(t, text+"mov64 r0 0\nmov64 r1 0\nmov64 r1 0\nexit")
		if _, e := progs.Check(l, 2, false); e != api.OK {
			continue
		}
		w, _ := helpers.New(layout, starts()[0], nil)
		out, e := interp.Run(l, w, api.MaxVisits)
		told, pc, f := paths.Check(l, layout)
		ends[e]++
		switch {
		case e == api.OK && (f != api.OK || told.Visits != out.Steps):
			t.Fatalf("%q: %d steps, and %d visits, %v at %d", text, out.Steps, told.Visits, f, pc)
		case e == api.ErrBudget && f != api.ErrVisits:
			t.Fatalf("%q: it does not end, and %v is told", text, f)
		}
		if out.Steps > 1000 {
			long++
		}
	}
	if ends[api.OK] < 30 || ends[api.ErrBudget] < 5 || long < 1 {
		t.Errorf("too little was looked at: %v, %d", ends, long)
	}
}

// TestPacketsAreNotMistaken: what is safe of the packet's first byte is not safe of a place behind it, wherever both meet.
func TestPacketsAreNotMistaken(t *testing.T) {
	for _, text := range []string{
		"ldx8 r8 r1 8 / ldx8 r7 r1 16 / and64 r7 255 / mov64 r9 r1 / ldx8 r6 r1 0 / mov64 r0 0 / jgt64 r7 5 +3 / add64 r6 r7 / mov64 r7 0 / ja +1 / mov64 r7 0 / ldx8 r2 r9 0 / mov64 r3 r2 / add64 r3 8 / jgt64 r3 r8 +1 / ldx1 r0 r6 7 / exit",
		"ldx8 r8 r1 8 / ldx8 r7 r1 16 / and64 r7 255 / mov64 r9 r1 / ldx8 r6 r1 0 / mov64 r0 0 / jle64 r7 5 +2 / mov64 r7 0 / ja +2 / add64 r6 r7 / mov64 r7 0 / ldx8 r2 r9 0 / mov64 r3 r2 / add64 r3 8 / jgt64 r3 r8 +1 / ldx1 r0 r6 7 / exit",
		"ldx8 r8 r1 8 / ldx8 r7 r1 16 / and64 r7 255 / mov64 r9 r1 / ldx8 r6 r1 0 / mov64 r0 0 / stx8 r10 -8 r6 / jgt64 r7 5 +4 / add64 r6 r7 / stx8 r10 -8 r6 / mov64 r7 0 / ja +1 / mov64 r7 0 / mov64 r6 0 / ldx8 r2 r9 0 / mov64 r3 r2 / add64 r3 8 / jgt64 r3 r8 +2 / ldx8 r6 r10 -8 / ldx1 r0 r6 7 / exit",
	} {
		if _, _, e := paths.Check(read(t, text), layout); e == api.OK {
			t.Errorf("%q is taken", text)
		}
	}
}

// TestManyWays: what was looked at is not looked at again, and much that differs is too much.
func TestManyWays(t *testing.T) {
	text := "ldx8 r6 r1 16\nmov64 r0 0\n"
	for range 14 {
		text += "jset64 r6 1 +1\nmov64 r0 0\nrsh64 r6 1\n"
	}
	told, pc, e := paths.Check(read(t, text+"exit"), layout)
	if e == api.OK {
		safe(t, read(t, text+"exit"), told)
	}
	if e != api.OK && e != api.ErrVisits {
		t.Error(pc, e)
	}
}
