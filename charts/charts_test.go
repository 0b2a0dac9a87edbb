package charts_test

import (
	"reflect"
	"slices"
	"strings"
	"testing"

	"firewall/api"
	"firewall/charts"
	"firewall/corpus"
	"firewall/helpers"
	"firewall/interp"
	"firewall/lines"
	"firewall/load"
	"firewall/progs"
)

func read(t *testing.T, text string) []api.Insn {
	t.Helper()
	l, line, e := lines.Read(strings.ReplaceAll(text, " / ", "\n"))
	if e != api.OK {
		t.Fatalf("%q: line %d, %v", text, line, e)
	}
	return l
}

// two loops, one in the other, a diamond in the inner one, and a constant of two slots at a block's end.
const nested = "mov64 r1 3 / mov64 r2 4 / jeq64 r2 2 +2 / mov64 r0 1 / ja +1 / mov64 r0 2 / sub64 r2 1 / jne64 r2 0 -6 / sub64 r1 1 / jne64 r1 0 -9 / ldimm r3 5 / jeq64 r3 5 +0 / exit"

func TestExamples(t *testing.T) {
	for _, x := range []struct {
		text   string
		blocks []charts.Block
		doms   []int
		loops  [][2]int
		show   string
	}{
		{
			"mov64 r0 0 / mov64 r1 10 / add64 r0 r1 / sub64 r1 1 / jne64 r1 0 -3 / exit",
			[]charts.Block{{0, 2, []int{1}}, {2, 5, []int{2, 1}}, {5, 6, nil}}, []int{-1, 0, 1}, [][2]int{{1, 1}},
			"block 0 0 2 near -1 next 1\nblock 1 2 5 near 0 next 2 1\nblock 2 5 6 near 1 next\nloop 1 1\n",
		},
		{"mov64 r0 42 / exit", []charts.Block{{0, 2, nil}}, []int{-1}, nil, "block 0 0 2 near -1 next\n"},
		{
			nested,
			[]charts.Block{{0, 1, []int{1}}, {1, 2, []int{2}}, {2, 3, []int{3, 4}}, {3, 5, []int{5}}, {5, 6, []int{5}}, {6, 8, []int{6, 2}}, {8, 10, []int{7, 1}}, {10, 13, []int{8}}, {13, 14, nil}},
			[]int{-1, 0, 1, 2, 2, 2, 5, 6, 7}, [][2]int{{5, 2}, {6, 1}},
			"block 0 0 1 near -1 next 1\nblock 1 1 2 near 0 next 2\nblock 2 2 3 near 1 next 3 4\nblock 3 3 5 near 2 next 5\nblock 4 5 6 near 2 next 5\nblock 5 6 8 near 2 next 6 2\nblock 6 8 10 near 5 next 7 1\nblock 7 10 13 near 6 next 8\nblock 8 13 14 near 7 next\nloop 5 2\nloop 6 1\n",
		},
		{ // a loop at the front, a call that parts nothing, a constant at a block's end, two exits
			"call 7 / jeq64 r0 1 +1 / ja -3 / ldimm r0 7 / jeq32 r0 7 +1 / exit / exit",
			[]charts.Block{{0, 2, []int{1, 2}}, {2, 3, []int{0}}, {3, 6, []int{3, 4}}, {6, 7, nil}, {7, 8, nil}}, []int{-1, 0, 0, 2, 2}, [][2]int{{1, 0}},
			"block 0 0 2 near -1 next 1 2\nblock 1 2 3 near 0 next 0\nblock 2 3 6 near 0 next 3 4\nblock 3 6 7 near 2 next\nblock 4 7 8 near 2 next\nloop 1 0\n",
		},
		{ // a constant ahead of a front
			"mov64 r1 1 / ldimm r0 7 / sub64 r1 1 / jne64 r1 0 -2 / exit",
			[]charts.Block{{0, 3, []int{1}}, {3, 5, []int{2, 1}}, {5, 6, nil}}, []int{-1, 0, 1}, [][2]int{{1, 1}},
			"block 0 0 3 near -1 next 1\nblock 1 3 5 near 0 next 2 1\nblock 2 5 6 near 1 next\nloop 1 1\n",
		},
		{ // two ways into a loop: none of its blocks is ahead of the other one for sure
			"mov64 r1 5 / jeq64 r1 5 +1 / mov64 r0 1 / mov64 r0 2 / jne64 r0 9 -3 / exit",
			[]charts.Block{{0, 2, []int{1, 2}}, {2, 3, []int{2}}, {3, 5, []int{3, 1}}, {5, 6, nil}}, []int{-1, 0, 0, 2}, nil,
			"block 0 0 2 near -1 next 1 2\nblock 1 2 3 near 0 next 2\nblock 2 3 5 near 0 next 3 1\nblock 3 5 6 near 2 next\n",
		},
	} {
		l := read(t, x.text)
		b, e := charts.Blocks(l, 0)
		d, f := charts.Doms(l, 0)
		w, g := charts.Loops(l, 0)
		s, h := charts.Show(l, 0)
		if e != api.OK || f != api.OK || g != api.OK || h != api.OK {
			t.Fatal(e, f, g, h)
		}
		if !slices.EqualFunc(b, x.blocks, func(a, b charts.Block) bool {
			return a.From == b.From && a.To == b.To && slices.Equal(a.Next, b.Next)
		}) {
			t.Errorf("%q: %v, want %v", x.text, b, x.blocks)
		}
		if !slices.Equal(d, x.doms) || !slices.Equal(w, x.loops) || s != x.show {
			t.Errorf("%q: %v, %v, %s", x.text, d, w, s)
		}
	}
}

func TestErrors(t *testing.T) {
	for n, x := range []struct {
		l    []api.Insn
		maps int
		e    api.Errno
	}{
		{nil, 0, api.ErrLong}, {slices.Repeat(read(t, "exit"), 65), 0, api.ErrLong}, {read(t, "exit / exit"), 0, api.ErrReach}, {read(t, "mov64 r0 1"), 0, api.ErrEnd}, {read(t, "nospec / exit"), 0, api.ErrOp}, {read(t, "ldmap r1 1 / exit"), 1, api.ErrMap}, {read(t, "ldmap r1 0 / exit"), 1, api.OK}, {read(t, "ja +5 / exit"), 1, api.ErrJump}, {read(t, "ldmap r1 0 / exit"), -1, api.ErrMap},
	} {
		b, e := charts.Blocks(x.l, x.maps)
		d, f := charts.Doms(x.l, x.maps)
		w, g := charts.Loops(x.l, x.maps)
		s, h := charts.Show(x.l, x.maps)
		if e != x.e || f != x.e || g != x.e || h != x.e {
			t.Errorf("%d: %v, %v, %v, %v", n, e, f, g, h)
		}
		if x.e != api.OK && (b != nil || d != nil || w != nil || s != "") {
			t.Errorf("%d: beside an error something is told", n)
		}
	}
}

func TestAt(t *testing.T) {
	b := []charts.Block{{2, 5, nil}, {5, 6, nil}, {4, 9, nil}, {20, 10, nil}}
	for pc, want := range map[int]int{-1: -1, 0: -1, 1: -1, 2: 0, 4: 0, 5: 1, 6: 2, 8: 2, 9: -1, 15: -1, 1 << 62: -1, -1 << 63: -1} {
		if i := charts.At(b, pc); i != want {
			t.Errorf("At %d: %d", pc, i)
		}
	}
	if charts.At(nil, 0) != -1 {
		t.Error("no blocks")
	}
}

// reached is the blocks that the first one leads to, without going through one.
func reached(b []charts.Block, without int) []bool {
	seen := make([]bool, len(b))
	work := []int{0}
	for len(work) > 0 {
		i := work[0]
		work = work[1:]
		if seen[i] || i == without {
			continue
		}
		seen[i] = true
		work = append(work, b[i].Next...)
	}
	return seen
}

// TestWhatFollows makes programs by a rule, and holds their charts against the words.
func TestWhatFollows(t *testing.T) {
	names := []string{"mov64 r0 1", "jeq64 r0 0 %j", "jgt32 r0 5 %j", "ja %j", "exit", "ldimm r0 9", "call 7"}
	seed := uint64(23)
	next := func(n int) int {
		seed = seed*6364136223846793005 + 1442695040888963407
		return int(seed>>33) % n
	}
	fine, loops := 0, 0
	for range 120000 {
		text := ""
		for range 2 + next(9) {
			text += strings.ReplaceAll(names[next(len(names))], "%j", []string{"-5", "-4", "-3", "-2", "+0", "+1", "+2", "+3"}[next(8)]) + "\n"
		}
		l := read(t, text+"mov64 r0 1\nexit")
		b, e := charts.Blocks(l, 0)
		if _, f := progs.Check(l, 0, false); f != e {
			t.Fatal(e, f)
		}
		if e != api.OK {
			continue
		}
		fine++
		heldBlocks(t, l, b)
		d, _ := charts.Doms(l, 0)
		w, _ := charts.Loops(l, 0)
		loops += heldDoms(t, text, b, d, w)
	}
	if fine < 1000 || loops < 300 {
		t.Error(fine, loops)
	}
}

func heldBlocks(t *testing.T, l []api.Insn, b []charts.Block) {
	t.Helper()
	fronts := map[int]int{0: 1}
	begins := 0
	for pc := 0; pc < len(l); pc++ {
		in := l[pc]
		if c := in.Op & 7; (c == api.ClJmp || c == api.ClJmp32) && in.Op != api.Call {
			fronts[pc+1] = 1
			if in.Op != api.Exit {
				fronts[pc+1+int(in.Off)] = 1
			}
		}
		if in.Op == api.LdImm {
			pc++
		}
	}
	for i, x := range b {
		if x.From != begins || x.To <= x.From || fronts[x.From] == 0 || charts.At(b, x.From) != i || charts.At(b, x.To-1) != i {
			t.Fatalf("%v: %v", lines.Show(l), b)
		}
		for pc := x.From + 1; pc < x.To; pc++ {
			if fronts[pc] != 0 {
				t.Fatalf("%v: %d is a front", lines.Show(l), pc)
			}
		}
		last := x.To - 1
		if last > x.From && l[last-1].Op == api.LdImm {
			last--
		}
		var want []int
		for _, pc := range progs.Next(l, last) {
			if i := charts.At(b, pc); !slices.Contains(want, i) {
				want = append(want, i)
			}
			if b[charts.At(b, pc)].From != pc {
				t.Fatalf("%v: %d leads into a block", lines.Show(l), last)
			}
		}
		if !slices.Equal(x.Next, want) {
			t.Fatalf("%v: behind %d comes %v, want %v", lines.Show(l), i, x.Next, want)
		}
		begins = x.To
	}
	if begins != len(l) {
		t.Fatalf("%v: %v", lines.Show(l), b)
	}
}

// heldDoms tells how many ways back there are.
func heldDoms(t *testing.T, text string, b []charts.Block, d []int, w [][2]int) int {
	t.Helper()
	ahead := func(a, of int) bool { return a != of && !reached(b, a)[of] }
	for i := range b {
		want := -1
		for a := range b {
			if !ahead(a, i) {
				continue
			}
			last := true
			for c := range b {
				last = last && (c == a || !ahead(c, i) || ahead(c, a))
			}
			if last {
				want = a
			}
		}
		if d[i] != want || (want == -1) != (i == 0) {
			t.Fatalf("%q: the nearest one of %d is %d, want %d", text, i, d[i], want)
		}
	}
	var want [][2]int
	for i, x := range b {
		for _, n := range x.Next {
			if n == i || ahead(n, i) {
				want = append(want, [2]int{i, n})
			}
		}
	}
	if !slices.Equal(w, want) {
		t.Fatalf("%q: %v, want %v", text, w, want)
	}
	return len(w)
}

// TestStraightPrograms: where no block leads to itself, or to one ahead of it, there is no way back, and at most as many steps as slots.
func TestStraightPrograms(t *testing.T) {
	straight, others := 0, 0
	for _, x := range corpus.All() {
		l := read(t, x.Text)
		p, _, e := load.Load(progs.Encode(l), x.Layout)
		if e != api.OK {
			t.Fatal(x.Name, e)
		}
		w, e := helpers.New(x.Layout, x.Start, nil)
		if e != api.OK {
			t.Fatal(e)
		}
		out, e := interp.Run(l, w, api.MaxSteps)
		if e != api.OK || out.Steps > p.Visits {
			t.Errorf("%s: %v, %v", x.Name, out, e)
		}
		b, _ := charts.Blocks(l, len(x.Layout.Maps))
		back, _ := charts.Loops(l, len(x.Layout.Maps))
		goesBack := false
		for i, y := range b {
			for _, n := range y.Next {
				goesBack = goesBack || n <= i
			}
		}
		if goesBack {
			others++
			continue
		}
		straight++
		if len(back) != 0 || out.Steps > len(l) {
			t.Errorf("%s: %v, %d steps of %d slots", x.Name, back, out.Steps, len(l))
		}
	}
	if straight != 11 || others != 2 {
		t.Error(straight, others)
	}
	if b, _ := charts.Blocks(read(t, nested), 0); !reflect.DeepEqual(b[4].Next, []int{5}) {
		t.Error(b)
	}
}
