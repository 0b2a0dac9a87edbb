package leaks_test

import (
	"slices"
	"strings"
	"testing"

	"firewall/api"
	"firewall/corpus"
	"firewall/jit"
	"firewall/leaks"
	"firewall/lines"
	"firewall/load"
	"firewall/nums"
	"firewall/objects"
	"firewall/progs"
	"firewall/runs"
	"firewall/sessions"
)

func loaded(t *testing.T, text string, m api.Layout) load.Program {
	t.Helper()
	l, line, e := lines.Read(strings.ReplaceAll(text, " / ", "\n"))
	if e != api.OK {
		t.Fatalf("%q: line %d, %v", text, line, e)
	}
	p, pc, e := load.Load(progs.Encode(l), m)
	if e != api.OK {
		t.Fatalf("%q: %v at %d", text, e, pc)
	}
	return p
}

// bare is a program whose code has no barriers: such a one is never told by Load.
func bare(t *testing.T, text string, m api.Layout) load.Program {
	t.Helper()
	p := loaded(t, text, m)
	code, e := jit.Code(p.Slots, m, nil)
	if e != api.OK {
		t.Fatal(e)
	}
	p.Code = code
	return p
}

func one(base uint64, b string) []api.Region { return []api.Region{{Base: base, Data: b}} }

// shown reads a byte of the packet, and goes two ways by it.
const shown = "ldx8 r2 r1 0 / ldx8 r3 r1 8 / mov64 r0 0 / mov64 r4 r2 / add64 r4 1 / jgt64 r4 r3 +6 / ldx1 r5 r2 0 / and64 r5 1 / add64 r2 r5 / mov64 r4 r2 / add64 r4 1 / jgt64 r4 r3 +0 / exit"

// indexed reads a byte of the packet, and one of a map's value that hangs on it.
const indexed = "ldx8 r7 r1 0 / ldx8 r8 r1 8 / st4 r10 -4 0 / mov64 r2 r10 / add64 r2 -4 / ldmap r1 0 / call 1 / mov64 r6 r0 / mov64 r0 0 / jeq64 r6 0 +7 / mov64 r4 r7 / add64 r4 1 / jgt64 r4 r8 +4 / ldx1 r5 r7 0 / and64 r5 7 / add64 r6 r5 / ldx1 r0 r6 0 / exit"

var indexedLayout = api.Layout{Maps: []api.Map{{Kind: api.MapArray, Key: 4, Value: 8, Max: 1}}}

func TestExample(t *testing.T) {
	p := loaded(t, "mov64 r0 42 / exit", api.Layout{})
	more := [2][]api.Region{one(0x600000, "\x01"), one(0x600000, "\x02")}
	at, e := leaks.Compare(p, api.Start{}, [2]runs.Guesses{{Window: 4, More: more[0]}, {Window: 4, More: more[1]}})
	if at != -1 || e != api.OK {
		t.Error(at, e)
	}
	scripts := [][]uint8{nil, {1}, {1, 2, 3}}
	which, at, e := leaks.Search(p, api.Start{}, leaks.Quest{Window: 4, Scripts: scripts, More: more})
	if which != -1 || at != -1 || e != api.OK {
		t.Error(which, at, e)
	}
	which, at, e = leaks.Search(p, api.Start{}, leaks.Quest{Window: 17, Scripts: scripts, More: more})
	if which != 0 || at != 0 || e != api.ErrArg {
		t.Error(which, at, e)
	}
}

func TestErrors(t *testing.T) {
	p := loaded(t, "mov64 r0 42 / exit", api.Layout{})
	bad := p
	bad.Code = "\xf7\xf3"
	overlap := one(api.StackBase, "a")
	for n, x := range []struct {
		p load.Program
		s api.Start
		g [2]runs.Guesses
		e api.Errno
	}{
		{p, api.Start{}, [2]runs.Guesses{{Window: 1}, {Window: 2}}, api.ErrArg},
		{p, api.Start{}, [2]runs.Guesses{{Script: []uint8{1}}, {}}, api.ErrArg},
		{p, api.Start{}, [2]runs.Guesses{{Script: []uint8{1}}, {Script: []uint8{2}}}, api.ErrArg},
		{p, api.Start{}, [2]runs.Guesses{{Script: []uint8{1}}, {Script: []uint8{1, 0}}}, api.ErrArg},
		{bad, api.Start{}, [2]runs.Guesses{{Window: 1}, {Window: 2}}, api.ErrArg},
		{p, api.Start{}, [2]runs.Guesses{{Script: []uint8{}}, {}}, api.OK},
		{p, api.Start{}, [2]runs.Guesses{{Window: 17}, {Window: 17}}, api.ErrArg},
		{p, api.Start{Packet: "a"}, [2]runs.Guesses{}, api.ErrArg},
		{bad, api.Start{}, [2]runs.Guesses{}, api.ErrDiv},
		{bad, api.Start{}, [2]runs.Guesses{{}, {More: overlap}}, api.ErrDiv},
		{bad, api.Start{}, [2]runs.Guesses{{More: overlap}, {}}, api.ErrArg},
		{p, api.Start{}, [2]runs.Guesses{{}, {More: overlap}}, api.ErrArg},
	} {
		at, e := leaks.Compare(x.p, x.s, x.g)
		if e != x.e || e != api.OK && at != 0 || e == api.OK && at != -1 {
			t.Errorf("%d: %d, %v", n, at, e)
		}
	}
	scripts := make([][]uint8, 17)
	if which, at, e := leaks.Search(bad, api.Start{}, leaks.Quest{Window: 99, Scripts: scripts}); which != 0 || at != 0 || e != api.ErrLong {
		t.Error(which, at, e)
	}
	if which, at, e := leaks.Search(p, api.Start{}, leaks.Quest{Scripts: scripts[:16]}); which != -1 || at != -1 || e != api.OK {
		t.Error(which, at, e)
	}
	for _, q := range []leaks.Quest{{}, {Window: 99}} {
		if which, at, e := leaks.Search(bad, api.Start{}, q); which != -1 || at != -1 || e != api.OK {
			t.Error("no scripts:", which, at, e)
		}
	}
}

// TestBareCodeParts: without barriers other memory is shown, from the place on that is told.
func TestBareCodeParts(t *testing.T) {
	p := bare(t, indexed, indexedLayout)
	kinds := [2][]api.Region{one(api.PacketBase, "\x00"), one(api.PacketBase, "\x05")}
	// The first jump is as it is, the second one is guessed wrong.
	script := []uint8{0, 1}
	g := [2]runs.Guesses{{Window: 16, Script: script, More: kinds[0]}, {Window: 16, Script: script, More: kinds[1]}}
	var traces [2][]uint64
	for i := range g {
		var e api.Errno
		if _, traces[i], _, e = runs.Guess(p, api.Start{}, g[i]); e != api.OK {
			t.Fatal(e)
		}
	}
	want := 0
	for traces[0][want] == traces[1][want] {
		want++
	}
	if at, e := leaks.Compare(p, api.Start{}, g); at != want || e != api.OK || traces[1][at] != traces[0][at]+5 {
		t.Error(at, want, e)
	}
	for n, x := range []struct {
		scripts   [][]uint8
		window    int
		which, at int
	}{
		{[][]uint8{nil, {0, 0}, {0, 1}, {0, 2}}, 16, 2, want}, {[][]uint8{{0, 7}}, 16, 0, want}, {[][]uint8{{1}, {0, 0, 1}}, 16, -1, -1}, {[][]uint8{{0, 1}}, 3, -1, -1}, {[][]uint8{{0, 1}}, 0, -1, -1},
	} {
		which, at, e := leaks.Search(p, api.Start{}, leaks.Quest{Window: x.window, Scripts: x.scripts, More: kinds})
		if which != x.which || at != x.at || e != api.OK {
			t.Errorf("%d: %d, %d, %v, want %d, %d", n, which, at, e, x.which, x.at)
		}
	}
	// An error of a later script is told with its number; one that parts ahead of it comes first.
	over := [2][]api.Region{kinds[0], one(api.StackBase, "a")}
	if which, at, e := leaks.Search(p, api.Start{}, leaks.Quest{Window: 16, Scripts: [][]uint8{nil}, More: over}); which != 0 || at != 0 || e != api.ErrArg {
		t.Error(which, at, e)
	}
	same := [2][]api.Region{kinds[1], kinds[1]}
	if which, at, e := leaks.Search(p, api.Start{}, leaks.Quest{Window: 16, Scripts: [][]uint8{script}, More: same}); which != -1 || at != -1 || e != api.OK {
		t.Error("one kind of other memory:", which, at, e)
	}
}

// TestTheShorterOne: where one trace is the beginning of the other one, they part at its end.
func TestTheShorterOne(t *testing.T) {
	p := loaded(t, "mov64 r0 42 / exit", api.Layout{})
	// It returns to where a number of other memory says: to the end, or to one more return.
	p.Code = "\x48\x8b\x80\x00\x00\x00\x00" + "\x50" + "\xc3" + "\xc3"
	g := [2]runs.Guesses{{Window: 9, More: one(0, nums.Bytes(api.Halt, 8))}, {Window: 9, More: one(0, nums.Bytes(api.CodeBase+9, 8))}}
	_, short, _, e := runs.Guess(p, api.Start{}, g[0])
	_, long, _, f := runs.Guess(p, api.Start{}, g[1])
	if e != api.OK || f != api.OK || len(long) <= len(short) || !slices.Equal(long[:len(short)], short) {
		t.Fatal(e, f, long, short)
	}
	place, e := leaks.Compare(p, api.Start{}, g)
	back, f := leaks.Compare(p, api.Start{}, [2]runs.Guesses{g[1], g[0]})
	if e != api.OK || f != api.OK || place != len(short) || back != len(short) {
		t.Error(place, back, e, f)
	}
	q := leaks.Quest{Window: 9, Scripts: [][]uint8{nil}, More: [2][]api.Region{g[1].More, g[0].More}}
	if which, at, e := leaks.Search(p, api.Start{}, q); which != 0 || at != len(short) || e != api.OK {
		t.Error(which, at, e)
	}
}

// TestNothingParts: of programs that were taken in, saved or not, in sessions too.
func TestNothingParts(t *testing.T) {
	around := func(b string, m api.Layout) []api.Region {
		l := []api.Region{{Base: 0, Data: strings.Repeat(b, 999)}, {Base: api.PacketBase + uint64(m.Packet), Data: strings.Repeat(b, 99)}, {Base: api.StackBase + api.StackSize, Data: strings.Repeat(b, 99)}}
		for i, x := range m.Maps {
			l = append(l, api.Region{Base: api.MapBase + uint64(i)*api.MapStep + uint64(x.Value*x.Max), Data: strings.Repeat(b, 99)})
		}
		return l
	}
	programs := map[string]load.Program{"indexed": loaded(t, indexed, indexedLayout), "shown": loaded(t, shown, api.Layout{})}
	starts := map[string]api.Start{}
	for _, x := range corpus.All() {
		p := loaded(t, x.Text, x.Layout)
		file, e := objects.Save(x.Name, p)
		if e != api.OK {
			t.Fatal(e)
		}
		programs[x.Name], _, _ = objects.Take(file)
		starts[x.Name] = x.Start
		s, e := sessions.Open(p, x.Start.Maps)
		if e != api.OK {
			t.Fatal(e)
		}
		if end, e := s.Run(sessions.Event{Packet: x.Start.Packet, Mark: x.Start.Mark, Draws: x.Start.Draws}); e != api.OK || end.Out.R0 != x.Answer {
			t.Errorf("%s: %v, %v", x.Name, end, e)
		}
	}
	for name, p := range programs {
		q := leaks.Quest{More: [2][]api.Region{around("\x01", p.Layout), around("\xfe", p.Layout)}}
		for n := range 16 {
			script := make([]uint8, 40)
			for i := range script {
				script[i] = uint8((n + 1) * (i + 3) * 7 % 13 % 4)
			}
			q.Scripts = append(q.Scripts, script)
		}
		for _, q.Window = range []int{1, 4, 16} {
			if which, at, e := leaks.Search(p, starts[name], q); which != -1 || at != -1 || e != api.OK {
				t.Errorf("%s, window %d: %d, %d, %v", name, q.Window, which, at, e)
			}
		}
	}
}
