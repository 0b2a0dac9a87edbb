package corpus_test

import (
	"reflect"
	"slices"
	"strings"
	"testing"

	"firewall/api"
	"firewall/corpus"
	"firewall/helpers"
	"firewall/lines"
	"firewall/load"
	"firewall/machine"
	"firewall/progs"
	"firewall/runs"
)

// told is the table of the document, the lines of a program parted by /.
var told = []struct {
	name, text string
	layout     api.Layout
	start      api.Start
	answer     uint64
}{
	{"answer", "mov64 r0 42 / exit", api.Layout{}, api.Start{}, 42},
	{"sum", "mov64 r0 0 / mov64 r1 10 / add64 r0 r1 / sub64 r1 1 / jne64 r1 0 -3 / exit", api.Layout{}, api.Start{}, 55},
	{"signed", "mov64 r1 -5 / arsh64 r1 1 / jsgt64 r1 -4 +2 / mov64 r0 0 / exit / mov64 r0 1 / exit", api.Layout{}, api.Start{}, 1},
	{"divide", "mov64 r0 100 / mov64 r1 7 / div64 r0 r1 / mov64 r3 0 / mov64 r2 100 / div64 r2 r3 / add64 r0 r2 / mov64 r2 9 / mod64 r2 r3 / add64 r0 r2 / exit", api.Layout{}, api.Start{}, 23},
	{"stack", "mov64 r2 7 / stx8 r10 -8 r2 / ldx8 r0 r10 -8 / exit", api.Layout{}, api.Start{}, 7},
	{"mark", "ldx8 r0 r1 16 / add32 r0 1 / stx8 r1 16 r0 / exit", api.Layout{}, api.Start{Mark: 1<<32 - 1}, 0},
	{"draws", "call 7 / mov64 r6 r0 / call 7 / xor64 r0 r6 / exit", api.Layout{}, api.Start{Draws: []uint64{12, 10}}, 6},
	{"packet", "ldx8 r2 r1 0 / ldx8 r3 r1 8 / mov64 r0 0 / mov64 r4 r2 / add64 r4 4 / jgt64 r4 r3 +1 / ldx4 r0 r2 0 / exit", api.Layout{Packet: 4}, api.Start{Packet: "\x01\x02\x03\x04"}, 67305985},
	{"offset", "ldx8 r2 r1 0 / ldx8 r3 r1 8 / mov64 r0 0 / mov64 r4 r2 / add64 r4 1 / jgt64 r4 r3 +7 / ldx1 r5 r2 0 / and64 r5 7 / add64 r2 r5 / mov64 r4 r2 / add64 r4 2 / jgt64 r4 r3 +1 / ldx2 r0 r2 0 / exit", api.Layout{Packet: 5}, api.Start{Packet: "\x02abcd"}, 25442},
	{"bytes", "ldx8 r6 r1 0 / ldx8 r7 r1 8 / mov64 r0 0 / mov64 r8 4 / mov64 r4 r6 / add64 r4 1 / jgt64 r4 r7 +5 / ldx1 r5 r6 0 / add64 r0 r5 / add64 r6 1 / sub64 r8 1 / jne64 r8 0 -8 / exit", api.Layout{Packet: 3}, api.Start{Packet: "\x01\x02\x03"}, 6},
	{"lookup", "st4 r10 -4 2 / mov64 r2 r10 / add64 r2 -4 / ldmap r1 0 / call 1 / jeq64 r0 0 +1 / ldx8 r0 r0 0 / exit", api.Layout{Maps: []api.Map{{Kind: 1, Key: 4, Value: 8, Max: 4}}}, api.Start{Maps: [][]api.Entry{{{Key: "\x02\x00\x00\x00", Value: "\x09\x00\x00\x00\x00\x00\x00\x00"}}}}, 9},
	{"index", "st4 r10 -4 0 / mov64 r2 r10 / add64 r2 -4 / ldmap r1 0 / call 1 / jeq64 r0 0 +4 / ldx1 r1 r0 0 / and64 r1 7 / add64 r0 r1 / ldx1 r0 r0 8 / exit", api.Layout{Maps: []api.Map{{Kind: 1, Key: 4, Value: 16, Max: 1}}}, api.Start{Maps: [][]api.Entry{{{Key: "\x00\x00\x00\x00", Value: "\x03ABCDEFGHIJKLMNO"}}}}, 75},
	{"update", "mov64 r6 5 / stx8 r10 -8 r6 / st8 r10 -16 77 / mov64 r2 r10 / add64 r2 -8 / mov64 r3 r10 / add64 r3 -16 / mov64 r4 0 / ldmap r1 0 / call 2 / exit", api.Layout{Maps: []api.Map{{Kind: 2, Key: 8, Value: 8, Max: 4}}}, api.Start{}, 0},
}

func read(t *testing.T, text string) []api.Insn {
	t.Helper()
	l, line, e := lines.Read(text)
	if e != api.OK {
		t.Fatalf("%q: line %d, %v", text, line, e)
	}
	return l
}

func loaded(t *testing.T, text string, m api.Layout) (load.Program, int, api.Errno) {
	t.Helper()
	return load.Load(progs.Encode(read(t, strings.ReplaceAll(text, " / ", "\n"))), m)
}

func TestAll(t *testing.T) {
	all := corpus.All()
	if len(all) != len(told) {
		t.Fatalf("there are %d", len(all))
	}
	for i, x := range all {
		w := told[i]
		if x.Name != w.name || x.Text != strings.ReplaceAll(w.text, " / ", "\n")+"\n" || x.Answer != w.answer {
			t.Errorf("%d: %s, %q, %d", i, x.Name, x.Text, x.Answer)
		}
		if !reflect.DeepEqual(x.Layout, w.layout) || !reflect.DeepEqual(x.Start, w.start) {
			t.Errorf("%s: %v, %v", x.Name, x.Layout, x.Start)
		}
	}
	again := corpus.All()
	all[10].Layout.Maps[0].Max, all[10].Start.Maps[0][0].Value, all[6].Start.Draws[0] = 9, "", 9
	if again[10].Layout.Maps[0].Max != 4 || again[10].Start.Maps[0][0].Value == "" || again[6].Start.Draws[0] != 12 || corpus.All()[6].Start.Draws[0] != 12 {
		t.Error("the memory is not new")
	}
}

// around is other memory that lies right behind what a program has.
func around(b string, m api.Layout) []api.Region {
	l := []api.Region{{Base: 0, Data: strings.Repeat(b, 999)}, {Base: api.PacketBase + uint64(m.Packet), Data: strings.Repeat(b, 99)}, {Base: api.StackBase + api.StackSize, Data: strings.Repeat(b, 99)}}
	for i, x := range m.Maps {
		l = append(l, api.Region{Base: api.MapBase + uint64(i)*api.MapStep + uint64(x.Value*x.Max), Data: strings.Repeat(b, 99)})
	}
	return l
}

// TestCorpusIsTakenIn: all three runs of each program end with its answer, and show nothing.
func TestCorpusIsTakenIn(t *testing.T) {
	for _, x := range corpus.All() {
		l := read(t, x.Text)
		p, pc, e := load.Load(progs.Encode(l), x.Layout)
		if e != api.OK {
			t.Errorf("%s: %v at %d", x.Name, e, pc)
			continue
		}
		a, e := runs.Slots(p, x.Start)
		b, f := runs.Code(p, x.Start, nil)
		if e != api.OK || f != api.OK || a.Out.R0 != x.Answer || !runs.Same(a, b) || a.Out.Steps > p.Visits {
			t.Errorf("%s: %v, %v, and %v, %v", x.Name, a, e, b, f)
		}
		for n := range 40 {
			g := runs.Guesses{Window: n % 17, Script: make([]uint8, 40), More: around("\x00", x.Layout)}
			for i := range g.Script {
				g.Script[i] = uint8(n * (i + 1) * 7 % 11 % 3)
			}
			c, first, _, e := runs.Guess(p, x.Start, g)
			g.More = around("\xfe", x.Layout)
			d, second, _, f := runs.Guess(p, x.Start, g)
			if e != api.OK || f != api.OK || !runs.Same(a, c) || !runs.Same(a, d) || !slices.Equal(first, second) {
				t.Errorf("%s, script %v: %v, %v, %v, %v", x.Name, g.Script, c, e, d, f)
			}
		}
	}
}

const fifth = "ldx8 r2 r1 0 / ldx8 r3 r1 8 / mov64 r0 0 / mov64 r4 r2 / add64 r4 1 / jgt64 r4 r3 +1 / ldx1 r0 r2 0 / exit"

// TestExamplesOfTheWhole are the ten of the document.
func TestExamplesOfTheWhole(t *testing.T) {
	refused := func(n int, text string, want ...api.Errno) {
		t.Helper()
		if _, _, e := loaded(t, text, api.Layout{Packet: 4}); e == api.OK || len(want) > 0 && e != want[0] {
			t.Errorf("%d: %v", n, e)
		}
	}
	answers := func(n int, text string, want uint64) {
		t.Helper()
		m, s := api.Layout{Packet: 1}, api.Start{Packet: "\x07"}
		p, pc, e := loaded(t, text, m)
		if e != api.OK {
			t.Errorf("%d: %v at %d", n, e, pc)
		}
		a, _ := runs.Slots(p, s)
		b, _ := runs.Code(p, s, nil)
		c, _, _, _ := runs.Guess(p, s, runs.Guesses{Window: 9, Script: []uint8{1, 1, 1, 1}})
		for _, x := range []runs.End{a, b, c} {
			if x.Out.R0 != want || x.Out.Steps == 0 {
				t.Errorf("%d: %v", n, x)
			}
		}
	}
	answers(1, "mov64 r0 42 / exit", 42)
	refused(2, "exit")
	refused(3, "mov64 r0 r1 / exit")
	refused(4, "ldx8 r2 r1 0 / ldx1 r0 r2 0 / exit", api.ErrBound)
	answers(5, fifth, 7)
	refused(6, "mov64 r0 0 / ja -1")
	answers(7, "mov64 r0 0 / mov64 r1 10 / add64 r0 r1 / sub64 r1 1 / jne64 r1 0 -3 / exit", 55)
	refused(8, "stx8 r10 -8 r10 / ldx4 r0 r10 -8 / exit")
}

// TestFifthExample: hardened, and guessed wrong with a packet of no bytes.
func TestFifthExample(t *testing.T) {
	p, _, e := loaded(t, fifth, api.Layout{})
	if e != api.OK {
		t.Fatal(e)
	}
	hard := lines.Show(p.Hard)
	if hard != "ldx8 r2 r1 0\nldx8 r3 r1 8\nmov64 r0 0\nmov64 r4 r2\nadd64 r4 1\njgt64 r4 r3 +2\nnospec\nldx1 r0 r2 0\nnospec\nexit\n" {
		t.Error(hard)
	}
	_, plain, _, _ := runs.Guess(p, api.Start{}, runs.Guesses{Window: 16})
	_, trace, squashed, e := runs.Guess(p, api.Start{}, runs.Guesses{Window: 16, Script: []uint8{1}})
	if e != api.OK || squashed != 1 || len(trace) != len(plain)+1 {
		t.Fatal(e, squashed, len(trace), len(plain))
	}
	for i := range plain {
		if trace[i] != plain[i] {
			x, _, _ := machine.Fetch(p.Code, trace[i])
			if x.Kind != api.XFence || !slices.Equal(trace[i+1:], plain[i:]) {
				t.Error("more than the barrier is seen", x)
			}
			return
		}
	}
}

// TestWhatIsRefused: each kind of what may not be.
func TestWhatIsRefused(t *testing.T) {
	for name, text := range map[string]string{
		"unknown instruction": "raw 255 0 0 0 0 / exit", "a barrier": "nospec / mov64 r0 0 / exit", "unknown helper": "mov64 r0 0 / call 4 / exit", "out of the program": "mov64 r0 0 / ja +1 / exit", "ahead of it": "mov64 r0 0 / jeq64 r0 0 -3 / exit", "half an instruction": "mov64 r0 0 / jeq64 r0 0 +1 / ldimm r0 5 / exit", "nothing leads to it": "mov64 r0 0 / exit / exit", "passes its end": "mov64 r0 0 / mov64 r0 0", "takes too much looking at": "mov64 r0 0 / add64 r0 1 / jlt64 r0 9000 -2 / exit", "half alone": "raw 24 0 0 0 0", "a field": "raw 183 0 1 0 0 / exit", "no such map": "ldmap r1 1 / mov64 r0 0 / exit",
	} {
		if p, _, e := loaded(t, text, api.Layout{Maps: told[10].layout.Maps}); e == api.OK || !reflect.DeepEqual(p, load.Program{}) {
			t.Errorf("%s: %v, %v", name, e, p)
		}
	}
	for name, s := range map[string]string{"nothing": "", "seven bytes": "1234567", "too long": strings.Repeat("\x95\x00\x00\x00\x00\x00\x00\x00", 65)} {
		if _, _, e := load.Load(s, api.Layout{}); e == api.OK {
			t.Errorf("%s is taken in", name)
		}
	}
}

// TestKept: registers that are kept, and other memory, are as they were.
func TestKept(t *testing.T) {
	for _, x := range corpus.All() {
		p, _, _ := load.Load(progs.Encode(read(t, x.Text)), x.Layout)
		w, e := helpers.New(x.Layout, x.Start, around("q", x.Layout))
		if e != api.OK {
			t.Fatal(e)
		}
		before := w.Memory().Regions()
		_, s, e := machine.Run(w, p.Code, 40*api.MaxSteps)
		if e != api.OK || s.R[api.RBX] != 0 || s.R[api.RBP] != 0 || s.R[api.R12] != 0 || s.R[api.R13] != 0 || s.R[api.R14] != 0 || s.R[api.R15] != 0 || s.R[api.RSP] != api.NativeBase+api.NativeSize {
			t.Errorf("%s: %v, %v", x.Name, s, e)
		}
		for i, r := range w.Memory().Regions() {
			if strings.Contains(r.Data, "qqq") && r != before[i] {
				t.Errorf("%s: what lies at %#x changed", x.Name, r.Base)
			}
		}
	}
}
