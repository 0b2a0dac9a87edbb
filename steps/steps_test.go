package steps_test

import (
	"strings"
	"testing"

	"firewall/api"
	"firewall/conds"
	"firewall/frames"
	"firewall/helpers"
	"firewall/interp"
	"firewall/kinds"
	"firewall/lines"
	"firewall/scalars"
	"firewall/steps"
)

const minus = 1<<64 - 1

var layout = api.Layout{
	Maps:   []api.Map{{Kind: api.MapArray, Key: 4, Value: 8, Max: 2}, {Kind: api.MapHash, Key: 8, Value: 4, Max: 2}, {Kind: api.MapArray, Key: 4, Value: 64, Max: 2}},
	Packet: 16,
}

func read(t *testing.T, text string) []api.Insn {
	t.Helper()
	l, line, e := lines.Read(strings.ReplaceAll(text, " / ", "\n"))
	if e != api.OK {
		t.Fatalf("%q: line %d, %v", text, line, e)
	}
	return l
}

// end is what all ways of a program came to.
type end struct {
	e     api.Errno
	exits []frames.F
	notes map[int]steps.Note
	looks int
}

// explore goes all ways of a program, up to an error.
func explore(l []api.Insn) end {
	out := end{notes: map[int]steps.Note{}}
	work := []steps.Way{{F: frames.Start()}}
	for len(work) > 0 && out.e == api.OK && out.looks < 3000 {
		w := work[len(work)-1]
		work = work[:len(work)-1]
		out.looks++
		ways, note, e := steps.Step(l, layout, w.PC, w.F)
		out.e = e
		if note != (steps.Note{}) {
			out.notes[w.PC] = note
		}
		if e == api.OK && len(ways) == 0 {
			out.exits = append(out.exits, w.F)
		}
		work = append(work, ways...)
	}
	return out
}

func TestArguments(t *testing.T) {
	l := read(t, "ldimm r0 1 / exit")
	for _, x := range []struct {
		l  []api.Insn
		m  api.Layout
		pc int
		e  api.Errno
	}{
		{l, layout, 0, api.OK}, {l, layout, 2, api.ErrUninit}, {l, layout, 3, api.ErrArg}, {l, layout, -1, api.ErrArg}, {l, layout, 1 << 62, api.ErrArg}, {nil, layout, 0, api.ErrArg},
		{read(t, "mov64 r0 1"), layout, 0, api.ErrArg}, {read(t, "mov64 r0 1 / exit / exit"), layout, 0, api.ErrArg}, {read(t, "mov64 r10 1 / exit"), layout, 0, api.ErrArg},
		{read(t, "ldmap r0 2 / exit"), layout, 0, api.OK}, {read(t, "ldmap r0 3 / exit"), layout, 0, api.ErrArg}, {read(t, "ldmap r0 0 / exit"), api.Layout{}, 0, api.ErrArg},
		{read(t, "nospec / exit"), layout, 0, api.OK},
	} {
		ways, note, e := steps.Step(x.l, x.m, x.pc, frames.Start())
		if e != x.e || note != (steps.Note{}) || e != api.OK && ways != nil {
			t.Errorf("Step of %v at %d: %v, %v", x.l, x.pc, e, note)
		}
	}
}

func TestExamples(t *testing.T) {
	ways, note, e := steps.Step(read(t, "mov64 r0 1 / exit"), layout, 0, frames.Start())
	if e != api.OK || len(ways) != 1 || ways[0].PC != 1 || ways[0].F.R[0] != kinds.Number(scalars.Const(1)) || note != (steps.Note{}) {
		t.Error(ways, note, e)
	}
	for text, want := range map[string]api.Errno{
		"add64 r0 r1 / exit":                      api.ErrUninit,
		"ldx8 r0 r10 -8 / exit":                   api.ErrUninit,
		"ldx8 r0 r10 8 / exit":                    api.ErrBound,
		"mov64 r0 r1 / exit":                      api.ErrLeak,
		"ldx8 r2 r1 0 / ldx2 r0 r2 0 / exit":      api.ErrBound,
		"exit":                                    api.ErrUninit,
		"ldx8 r0 r10 -8 / mov64 r0 0 / exit":      api.ErrUninit,
		"mov64 r0 5 / add64 r0 -7 / exit":         api.OK,
		"stx8 r10 -8 r10 / ldx4 r0 r10 -8 / exit": api.ErrLeak,
	} {
		if r := explore(read(t, text)); r.e != want {
			t.Errorf("%q: %v, want %v", text, r.e, want)
		}
	}
}

const (
	pointers = "ldx8 r2 r1 0 / ldx8 r3 r1 8 / "
	look     = "st4 r10 -4 1 / mov64 r2 r10 / add64 r2 -4 / ldmap r1 0 / call 1 / "
	lookLong = "st4 r10 -4 1 / mov64 r2 r10 / add64 r2 -4 / ldmap r1 2 / call 1 / "
	any1     = "ldx1 r6 r1 16 / " // a number of one byte, which is not known
	any8     = "ldx8 r6 r1 16 / "
	update   = "st8 r10 -8 0 / mov64 r2 r10 / add64 r2 -8 / ldmap r1 1 / "
	out      = "mov64 r0 0 / exit"
)

// TestRefused: what the interpreter may tell an error for, and whatever else is done with an address.
func TestRefused(t *testing.T) {
	for _, text := range []string{
		// what has nothing
		"mov64 r0 r2 / " + out, "neg64 r0 / " + out, "add64 r2 1 / " + out, "mov64 r0 0 / jeq64 r2 0 +0 / exit", "mov64 r0 0 / jeq64 r0 r2 +0 / exit", "stx8 r10 -8 r2 / " + out, "st8 r2 0 0 / " + out, "ldx8 r0 r2 0 / " + out,
		"mov64 r2 1 / call 7 / mov64 r3 r2 / exit", "mov64 r1 1 / call 7 / stx8 r10 -8 r1 / exit", "st4 r10 -8 0 / ldx8 r0 r10 -8 / " + out, "st4 r10 -8 0 / ldx2 r0 r10 -5 / " + out,
		// arithmetic of addresses
		"mul64 r1 2 / " + out, "and64 r10 -8 / " + out, "or64 r1 0 / " + out, "xor64 r1 r1 / " + out, "lsh64 r1 0 / " + out, "rsh64 r1 1 / " + out, "arsh64 r1 1 / " + out, "div64 r1 1 / " + out, "mod64 r1 9 / " + out, "neg64 r1 / " + out, "mov64 r2 5 / sub64 r2 r1 / " + out, "mov64 r2 5 / mul64 r2 r1 / " + out,
		"add32 r1 1 / " + out, "sub32 r1 1 / " + out, "mov32 r2 r1 / " + out, "mov64 r2 1 / add32 r2 r1 / " + out, "neg32 r1 / " + out,
		"mov64 r2 r1 / add64 r2 r10 / " + out, "mov64 r2 r1 / sub64 r2 r10 / " + out, "mov64 r2 r1 / sub64 r2 r1 / " + out,
		any1 + "mov64 r2 r10 / add64 r2 r6 / " + out, any1 + "add64 r1 r6 / " + out, any1 + "mov64 r2 r10 / sub64 r2 r6 / " + out, pointers + any1 + "sub64 r2 r6 / " + out, any1 + "add64 r6 r1 / " + out,
		"mov64 r2 r10 / add64 r2 65536 / " + out, pointers + "add64 r2 65536 / " + out, pointers + any8 + "add64 r2 r6 / " + out, pointers + "add64 r3 1 / " + out, pointers + "sub64 r3 1 / " + out, "ldmap r2 0 / add64 r2 1 / " + out, "ldmap r2 0 / add64 r2 0 / " + out, look + "add64 r0 1 / " + out, look + "add64 r0 0 / " + out, look + "sub64 r0 0 / " + out,
		// comparisons of addresses
		"mov64 r0 0 / jeq64 r1 0 +0 / exit", "mov64 r0 0 / jgt64 r10 r1 +0 / exit", "mov64 r0 0 / jeq64 r1 r1 +0 / exit", "mov64 r0 0 / jset64 r1 1 +0 / exit", "mov64 r0 0 / mov64 r2 9 / jlt64 r2 r10 +0 / exit",
		pointers + "mov64 r0 0 / jgt32 r2 r3 +0 / exit", pointers + "mov64 r0 0 / jgt64 r2 r2 +0 / exit", pointers + "mov64 r0 0 / jgt64 r3 r3 +0 / exit", pointers + "mov64 r0 0 / jgt64 r2 5 +0 / exit", pointers + "mov64 r0 0 / jgt64 r3 r10 +0 / exit", pointers + "mov64 r0 0 / jeq64 r3 0 +0 / exit", pointers + "mov64 r0 0 / jeq64 r2 0 +0 / exit",
		look + "jeq32 r0 0 +0 / " + out, look + "jeq64 r0 1 +0 / " + out, any1 + look + "jeq64 r0 r6 +0 / " + out, look + "jeq64 r0 r10 +0 / " + out, "mov64 r0 0 / ldmap r2 0 / jeq64 r2 0 +0 / exit",
		// loads and stores
		"mov64 r2 5 / ldx8 r0 r2 0 / " + out, "mov64 r2 5 / st8 r2 0 0 / " + out, "ldmap r2 0 / ldx1 r0 r2 0 / " + out, "ldmap r2 0 / st1 r2 0 0 / " + out, pointers + "ldx1 r0 r3 0 / " + out, pointers + "ldx1 r0 r3 -1 / " + out, pointers + "st1 r3 -1 0 / " + out,
		"ldx1 r0 r1 0 / " + out, "ldx4 r0 r1 8 / " + out, "ldx8 r0 r1 4 / " + out, "ldx8 r0 r1 12 / " + out, "ldx8 r0 r1 17 / " + out, "ldx1 r0 r1 24 / " + out, "ldx1 r0 r1 -1 / " + out, "st8 r1 0 0 / " + out, "st1 r1 15 0 / " + out, "st8 r1 17 0 / " + out, "st1 r1 24 0 / " + out, "stx8 r1 16 r10 / " + out, "stx1 r1 16 r10 / " + out,
		"st1 r10 0 0 / " + out, "st8 r10 -513 0 / " + out, "st2 r10 -1 0 / " + out, "ldx1 r0 r10 -513 / " + out, "stx4 r10 -8 r1 / " + out, "stx8 r10 -12 r1 / " + out, "stx8 r10 -8 r1 / ldx1 r0 r10 -1 / " + out,
		pointers + "ldx1 r0 r2 0 / " + out, pointers + "st1 r2 0 0 / " + out, pointers + "mov64 r4 r2 / add64 r4 4 / jgt64 r4 r3 +1 / ldx4 r0 r2 1 / " + out, pointers + "mov64 r4 r2 / add64 r4 4 / jgt64 r4 r3 +1 / ldx1 r0 r2 -1 / " + out, pointers + "mov64 r4 r2 / add64 r4 4 / jgt64 r4 r3 +1 / stx4 r2 0 r10 / " + out,
		pointers + "mov64 r4 r2 / add64 r4 4 / jgt64 r4 r3 +0 / ldx4 r0 r2 0 / " + out, pointers + "mov64 r4 r2 / add64 r4 4 / jle64 r4 r3 +1 / ldx4 r0 r2 0 / " + out, pointers + "mov64 r4 r2 / add64 r4 4 / jge64 r4 r3 +1 / ldx1 r0 r2 5 / " + out, pointers + "mov64 r4 r2 / add64 r4 4 / jne64 r4 r3 +1 / ldx1 r0 r2 4 / " + out,
		pointers + any1 + "mov64 r4 r2 / add64 r4 4 / jgt64 r4 r3 +2 / add64 r2 r6 / ldx1 r0 r2 0 / " + out,
		look + "ldx8 r0 r0 0 / " + out, look + "st8 r0 0 0 / " + out, look + "jne64 r0 0 +1 / ldx8 r0 r0 0 / " + out, look + "jeq64 r0 0 +1 / ldx8 r0 r0 1 / " + out, look + "jeq64 r0 0 +1 / ldx1 r0 r0 -1 / " + out, look + "jeq64 r0 0 +1 / stx8 r0 0 r10 / " + out, any1 + look + "jeq64 r0 0 +2 / add64 r0 r6 / ldx1 r0 r0 0 / " + out,
		any1 + "and64 r6 15 / " + lookLong + "jeq64 r0 0 +2 / add64 r0 r6 / ldx8 r0 r0 50 / " + out,
		// calls
		"call 1 / " + out, "ldmap r1 0 / call 1 / " + out, "mov64 r2 r10 / mov64 r1 5 / call 1 / " + out, "st8 r10 -8 0 / mov64 r2 r10 / add64 r2 -8 / mov64 r1 r2 / call 1 / " + out, "ldmap r1 0 / mov64 r2 r10 / call 1 / " + out, "ldmap r1 0 / mov64 r2 r10 / add64 r2 -4 / call 1 / " + out, "ldmap r1 0 / mov64 r2 5 / call 3 / " + out, "st4 r10 -4 0 / mov64 r2 r10 / add64 r2 -4 / ldmap r1 1 / call 3 / " + out, "stx8 r10 -8 r10 / mov64 r2 r10 / add64 r2 -8 / ldmap r1 1 / call 1 / " + out,
		"st8 r10 -8 0 / mov64 r2 r10 / add64 r2 -8 / ldmap r1 1 / call 2 / " + out, "st8 r10 -8 0 / mov64 r2 r10 / add64 r2 -8 / mov64 r3 r2 / ldmap r1 1 / call 2 / " + out, "st8 r10 -8 0 / mov64 r2 r10 / add64 r2 -8 / mov64 r3 r2 / ldmap r1 1 / mov64 r4 r10 / call 2 / " + out, "st8 r10 -8 0 / mov64 r2 r10 / add64 r2 -8 / mov64 r3 r10 / add64 r3 -2 / ldmap r1 1 / mov64 r4 0 / call 2 / " + out, pointers + "st8 r10 -8 0 / mov64 r3 r2 / mov64 r2 r10 / add64 r2 -8 / ldmap r1 1 / mov64 r4 0 / call 2 / " + out,
		update + "mov64 r3 5 / mov64 r4 0 / call 2 / " + out, update + "mov64 r3 r2 / mov64 r5 0 / call 2 / " + out, update + "mov64 r3 r2 / mov64 r4 r10 / mov64 r5 0 / call 2 / " + out, update + "mov64 r4 r2 / mov64 r3 0 / call 2 / " + out,
		"mov64 r1 1 / call 7 / mov64 r0 r1 / exit", "mov64 r2 1 / call 7 / mov64 r0 r2 / exit", "mov64 r3 1 / call 7 / mov64 r0 r3 / exit", "mov64 r4 1 / call 7 / mov64 r0 r4 / exit", "mov64 r5 1 / call 7 / mov64 r0 r5 / exit",
		// one place of the packet is not another one, and one byte behind its end is too far
		pointers + any1 + "ldx1 r7 r1 17 / mov64 r4 r2 / add64 r2 r6 / add64 r4 r7 / mov64 r5 r2 / add64 r5 4 / jgt64 r5 r3 +1 / ldx4 r0 r4 0 / " + out, pointers + "mov64 r0 0 / mov64 r4 r2 / add64 r4 4 / jlt64 r4 r3 +1 / exit / ldx1 r0 r2 5 / exit", pointers + "mov64 r0 0 / mov64 r4 r2 / add64 r4 4 / jle64 r4 r3 +1 / exit / ldx1 r0 r2 4 / exit", pointers + "mov64 r0 0 / mov64 r4 r2 / add64 r4 4 / jeq64 r4 r3 +1 / exit / ldx1 r0 r2 4 / exit",
		look + "jsgt64 r0 0 +1 / exit / " + out, look + "jset64 r0 0 +1 / ldx8 r0 r0 0 / " + out, look + "jeq64 r0 0 +1 / jeq64 r0 1 +0 / " + out, look + "jeq64 r0 0 +1 / jeq32 r0 0 +0 / " + out, look + "jeq64 r0 0 +1 / jgt64 r0 r10 +0 / " + out,
		pointers + "mov64 r4 r2 / add64 r4 4 / jset64 r4 r3 +1 / ldx4 r0 r2 0 / " + out, pointers + "mov64 r4 r2 / add64 r4 4 / jset64 r4 r3 +0 / ldx4 r0 r2 0 / " + out, pointers + "mov64 r4 r2 / add64 r4 4 / jsge64 r3 r4 +1 / ldx4 r0 r2 0 / " + out,
		"mov64 r6 1 / " + look + "jeq64 r6 r0 +0 / " + out, look + "jeq64 r10 r0 +0 / " + out, "mov64 r0 0 / jeq64 r0 r10 +0 / exit", pointers + "mov64 r0 0 / jne64 r0 r3 +0 / exit",
		// exits
		"exit", "mov64 r0 r10 / exit", "ldmap r0 0 / exit", look + "exit", look + "jeq64 r0 0 +1 / exit / " + out, "ldx8 r0 r1 8 / exit",
	} {
		if r := explore(read(t, text)); r.e == api.OK {
			t.Errorf("%q is taken", text)
		}
	}
}

// TestTaken: addresses as the document has them.
func TestTaken(t *testing.T) {
	for _, text := range []string{
		out, "ldx8 r0 r1 16 / exit", "ldx1 r0 r1 23 / exit", "st8 r1 16 5 / " + out, "stx8 r10 -8 r1 / ldx8 r2 r10 -8 / ldx8 r0 r2 16 / exit", "mov64 r2 r1 / add64 r2 8 / ldx8 r0 r2 8 / exit", "mov64 r2 8 / add64 r2 r1 / ldx8 r0 r2 8 / exit", "mov64 r2 r1 / sub64 r2 -8 / ldx8 r0 r2 8 / exit",
		pointers + "mov64 r0 0 / mov64 r4 r2 / add64 r4 4 / jgt64 r4 r3 +1 / ldx4 r0 r2 0 / exit", pointers + "mov64 r0 0 / mov64 r4 r2 / add64 r4 4 / jlt64 r3 r4 +1 / ldx4 r0 r2 0 / exit", pointers + "mov64 r0 0 / mov64 r4 r2 / add64 r4 4 / jle64 r4 r3 +1 / exit / ldx4 r0 r2 0 / exit",
		pointers + any1 + "mov64 r0 0 / add64 r2 r6 / mov64 r4 r2 / add64 r4 4 / jgt64 r4 r3 +1 / ldx4 r0 r2 0 / exit",
		look + "jeq64 r0 0 +1 / ldx8 r0 r0 0 / exit", look + "jne64 r0 0 +1 / exit / ldx8 r0 r0 0 / exit", any1 + "and64 r6 7 / " + lookLong + "jeq64 r0 0 +2 / add64 r0 r6 / ldx8 r0 r0 49 / exit",
		update + "mov64 r3 r2 / mov64 r4 0 / call 2 / exit", update + "call 3 / exit",
		// comparisons that tell nothing, or again what is known
		pointers + "mov64 r0 0 / jset64 r2 r3 +0 / jsgt64 r2 r3 +0 / jsle64 r3 r2 +0 / exit", look + "jsgt64 r0 0 +0 / jge64 r0 0 +0 / jset64 r0 0 +0 / mov64 r0 0 / exit", look + "jeq64 r0 0 +2 / jeq64 r0 0 +1 / ldx8 r0 r0 0 / exit", "mov64 r6 0 / " + look + "jne64 r6 r0 +1 / exit / jne64 r0 r6 +1 / exit / ldx8 r0 r0 0 / exit", "stx8 r10 -16 r1 / " + look + "ldx8 r1 r10 -16 / ldx8 r0 r1 16 / exit",
	} {
		if r := explore(read(t, text)); r.e != api.OK {
			t.Errorf("%q: %v", text, r.e)
		}
	}
}

func TestNotes(t *testing.T) {
	r := explore(read(t, "st8 r1 16 0 / st8 r10 -8 0 / mov64 r6 1 / stx1 r10 -9 r6 / mov64 r2 r10 / add64 r2 -8 / ldmap r1 1 / call 1 / mov64 r2 r10 / add64 r2 -8 / ldmap r1 0 / call 1 / mov64 r2 r10 / add64 r2 -8 / ldmap r1 0 / call 3 / call 7 / exit"))
	if r.e != api.OK {
		t.Fatal(r.e)
	}
	want := map[int]steps.Note{1: {Stack: true}, 3: {Stack: true}, 8: {Map: 2}, 13: {Map: 1}}
	for pc := range 30 {
		if r.notes[pc] != want[pc] {
			t.Errorf("the note at %d: %v, want %v", pc, r.notes[pc], want[pc])
		}
	}
}

// TestKnownNumbers: of a conditional jump whose numbers are known just the way that is taken is told.
func TestKnownNumbers(t *testing.T) {
	for _, op := range []uint8{api.JmpEq, api.JmpGt, api.JmpGe, api.JmpSet, api.JmpNe, api.JmpSgt, api.JmpSge, api.JmpLt, api.JmpLe, api.JmpSlt, api.JmpSle} {
		for _, class := range []uint8{api.ClJmp, api.ClJmp32} {
			for _, a := range []uint64{0, 1, 5, 1 << 31, 1 << 32, 1<<32 + 5, 1 << 63, minus} {
				for _, b := range []uint64{0, 5, 1<<31 - 1, 1<<64 - 1<<31, minus} {
					for _, reg := range []bool{true, false} {
						l := read(t, "jeq64 r1 0 +1 / exit / "+out)
						l[0] = api.Insn{Op: op | class, Dst: 3, Off: 1, Imm: int32(b)}
						if reg {
							l[0].Op, l[0].Src, l[0].Imm = op|class|api.FromReg, 4, 0
						}
						f := frames.Start()
						f.R[3], f.R[4] = kinds.Number(scalars.Const(a)), kinds.Number(scalars.Const(b))
						ways, _, e := steps.Step(l, layout, 0, f)
						want := 1
						if conds.Holds(op, class == api.ClJmp, a, b) {
							want = 2
						}
						if e != api.OK || len(ways) != 1 || ways[0].PC != want {
							t.Fatalf("%v of %d and %d: %v, %v", l[0], a, b, len(ways), e)
						}
					}
				}
			}
		}
	}
}

// TestRunsAreAsTold makes programs by a rule; those whose ways have no error are run, and have to end as one of the frames says.
func TestRunsAreAsTold(t *testing.T) {
	names := []string{"add64 r%a r%b", "mov64 r%a r%b", "sub64 r%a r%b", "mul64 r%a %n", "div64 r%a r%b", "mod32 r%a r%b", "lsh64 r%a 3", "arsh64 r%a r%b", "rsh32 r%a 2", "xor32 r%a r%b", "and64 r%a 255", "and64 r%a %n", "or64 r%a r%b", "neg64 r%a", "neg32 r%a", "mov32 r%a %n", "mov64 r%a %n",
		"jgt64 r%a r%b +1", "jslt64 r%a %n +1", "jset64 r%a 4 +2", "jle32 r%a r%b +1", "jsge32 r%a %n +1", "jeq64 r%a %n +1", "jne64 r%a r%b +1",
		"stx8 r10 -8 r%a", "stx4 r10 -12 r%a", "ldx8 r%a r10 -8", "ldx4 r%a r10 -8", "ldx1 r%a r10 -11", "ldx8 r%a r9 16", "ldx2 r%a r9 17", "ldx1 r%a r9 16", "stx2 r9 20 r%a",
		"call 7", "mov64 r7 r6", "add64 r7 %s", "jgt64 r7 r8 +2", "ldx1 r%a r7 0", "ldx4 r%a r7 -4", "add64 r7 r%a", "ldx4 r%a r6 0"}
	seed := uint64(8)
	next := func(n int) int {
		seed = seed*6364136223846793005 + 1442695040888963407
		return int(seed>>33) % n
	}
	taken, loads := 0, 0
	for range 12000 {
		text := "mov64 r9 r1\nldx8 r6 r1 0\nldx8 r8 r1 8\nmov64 r7 r6\nmov64 r0 5\nmov64 r1 -3\nldx8 r2 r9 16\nmov64 r3 7\nst8 r10 -8 9\nst8 r10 -16 77\n"
		for range 2 + next(9) {
			line := names[next(len(names))]
			line = strings.ReplaceAll(line, "%a", string(rune('0'+next(4))))
			line = strings.ReplaceAll(line, "%b", string(rune('0'+next(4))))
			line = strings.ReplaceAll(line, "%s", []string{"1", "4", "8", "-4"}[next(4)])
			text += strings.ReplaceAll(line, "%n", []string{"0", "1", "-8", "16", "255", "-2147483648"}[next(6)]) + "\n"
		}
		l := read(t, text+"mov64 r0 r0\nmov64 r1 r1\nexit")
		// Each register is looked at: what it has is handed out in the end.
		r := next(4)
		l[len(l)-2] = api.Insn{Op: api.ClAlu64 | api.OpMov | api.FromReg, Src: uint8(r)}
		end := explore(l)
		if end.e != api.OK {
			continue
		}
		taken++
		for n := range 6 {
			w, e := helpers.New(layout, api.Start{Packet: "\x01\x02\x80\xff0123456789ab", Mark: []uint64{0, minus, 300, 1 << 63, 4, 1<<32 + 1}[n], Draws: []uint64{uint64(n), minus, 255}}, nil)
			if e != api.OK {
				t.Fatal(e)
			}
			o, e := interp.Run(l, w, end.looks)
			if e != api.OK {
				t.Fatalf("%q: %v", text, e)
			}
			found := false
			for _, f := range end.exits {
				found = found || f.R[0].Kind == kinds.Num && scalars.Has(f.R[0].N, o.R0)
			}
			if !found {
				t.Fatalf("%q, register %d: %d is not told", text, r, o.R0)
			}
		}
		if strings.Contains(text, "ldx1 r0 r7 0") {
			loads++
		}
	}
	if taken < 1500 || loads < 10 {
		t.Errorf("only %d programs were taken, %d with a load of the packet", taken, loads)
	}
}

// TestAnyFrame: of whatever frame there is an answer.
func TestAnyFrame(t *testing.T) {
	l := read(t, pointers+"add64 r2 r6 / sub64 r2 3 / mul32 r2 r6 / jgt64 r2 r3 +0 / jeq64 r0 0 +0 / stx8 r2 0 r6 / ldx4 r0 r2 5 / call 1 / call 2 / call 3 / neg64 r0 / exit")
	seed := uint64(3)
	next := func(n int) int {
		seed = seed*6364136223846793005 + 1442695040888963407
		return int(seed>>33) % n
	}
	odd := []int{0, 1, 2, 3, -1, 8, -8, 65535, 1 << 62, -1 << 63, 1<<63 - 1}
	for range 20000 {
		var f frames.F
		for r := range f.R {
			f.R[r] = kinds.V{Kind: next(11) - 1, Map: odd[next(len(odd))], ID: odd[next(len(odd))], Off: odd[next(len(odd))], Sure: odd[next(len(odd))], N: scalars.Bytes(next(9))}
			f.R[r].N.T.Value = uint64(odd[next(len(odd))])
			f.S[next(64)].V = f.R[r]
		}
		f.Next = odd[next(len(odd))]
		pc := next(len(l))
		ways, _, e := steps.Step(l, layout, pc, f)
		if e != api.OK && ways != nil {
			t.Fatal("beside an error there are ways")
		}
	}
}
