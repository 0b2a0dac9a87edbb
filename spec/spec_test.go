package spec_test

import (
	"slices"
	"testing"

	"firewall/api"
	"firewall/codec"
	"firewall/helpers"
	"firewall/machine"
	"firewall/spec"
)

const top = api.NativeBase + api.NativeSize - 8

func world(t *testing.T) *helpers.World {
	t.Helper()
	w, e := helpers.New(api.Layout{Packet: 8}, api.Start{Packet: "abcdefgh", Draws: []uint64{5, 6, 7}}, nil)
	if e != api.OK {
		t.Fatal(e)
	}
	return w
}

// built is code, and the place of each of its instructions.
func built(t *testing.T, l ...api.X) (code string, at []uint64) {
	t.Helper()
	for _, x := range l {
		b, e := codec.Encode(x)
		if e != api.OK {
			t.Fatalf("%+v: %v", x, e)
		}
		at = append(at, api.CodeBase+uint64(len(code)))
		code += b
	}
	return
}

var (
	ret   = api.X{Kind: api.XRet}
	fence = api.X{Kind: api.XFence}
	imm   = func(r int, v int64) api.X { return api.X{Kind: api.XImm, Wide: true, Dst: r, Imm: v} }
	jcc   = func(cond int, rel int32) api.X { return api.X{Kind: api.XJcc, Cond: cond, Short: true, Rel: rel} }
	load  = func(n, r, from int, disp int32) api.X {
		return api.X{Kind: api.XLoad, Size: n, Wide: n == 8, Dst: r, Src: from, Disp: disp}
	}
	store = func(n, to int, disp int32, r int) api.X {
		return api.X{Kind: api.XStore, Size: n, Wide: n == 8, Dst: to, Disp: disp, Src: r}
	}
)

type told struct {
	r0       uint64
	squashed int
	trace    []uint64
}

func check(t *testing.T, name, code string, window int, script []uint8, want told) {
	t.Helper()
	out, got, e := spec.Run(world(t), code, window, script, 500)
	if e != api.OK || out.R0 != want.r0 || got.Squashed != want.squashed || !slices.Equal(got.Trace, want.trace) {
		t.Errorf("%s: %d, %d squashed, %#x, %v; want %d, %d, %#x", name, out.R0, got.Squashed, got.Trace, e, want.r0, want.squashed, want.trace)
	}
}

func TestJumps(t *testing.T) {
	c, p := built(t, api.X{Kind: api.XJmp, Short: true}, ret)
	check(t, "a jump always", c, 4, []uint8{1}, told{0, 0, []uint64{p[0], p[1], top}})

	c, p = built(t, jcc(api.CcE, 7), imm(api.RAX, 1), ret)
	straight := []uint64{p[0], p[1], p[2], top}
	check(t, "no script", c, 4, nil, told{1, 0, straight})
	check(t, "an item 0", c, 4, []uint8{0, 1}, told{1, 0, straight})
	check(t, "a window of 0", c, 0, []uint8{1}, told{1, 0, straight})
	for _, item := range []uint8{1, 2, 255} {
		check(t, "guessed as taken", c, 4, []uint8{item}, told{1, 1, []uint64{p[0], p[2], p[1], p[2], top}})
	}

	c, p = built(t, jcc(api.CcNe, 7), imm(api.RAX, 1), ret)
	check(t, "guessed as not taken", c, 4, []uint8{9}, told{0, 2, []uint64{p[0], p[1], p[2], p[2], top}})
	check(t, "a window of 1", c, 1, []uint8{9}, told{0, 1, []uint64{p[0], p[1], p[2], top}})

	c, p = built(t, jcc(api.CcE, 100), ret)
	check(t, "a guess out of the code", c, 4, []uint8{1}, told{0, 0, []uint64{p[0], p[1], top}})

	for _, end := range []api.X{fence, {Kind: api.XCall, Rel: api.HelperBase + api.HeRandom - api.CodeBase - 2 - 5}, ret} {
		c, p = built(t, jcc(api.CcNe, int32(len(mustEncode(t, end)))), end, imm(api.RBX, 1), ret)
		check(t, "what ends a guess is told by its place alone", c, 9, []uint8{1}, told{0, 1, []uint64{p[0], p[1], p[2], p[3], top}})
	}

	c, p = built(t, jcc(api.CcE, 9), jcc(api.CcE, 7), imm(api.RAX, 1), jcc(api.CcE, 7), imm(api.RAX, 2), ret)
	check(t, "a jump in a guess takes an item: 0", c, 2, []uint8{1, 0, 0, 0}, told{2, 2, []uint64{p[0], p[3], p[4], p[1], p[2], p[3], p[4], p[5], top}})
	check(t, "a jump in a guess takes an item: 1", c, 2, []uint8{1, 1, 0, 0}, told{2, 2, []uint64{p[0], p[3], p[5], p[1], p[2], p[3], p[4], p[5], top}})
	check(t, "three guesses", c, 16, []uint8{1, 1, 1, 0, 1}, told{2, 2 + 3 + 1, []uint64{p[0], p[3], p[5], p[1], p[3], p[4], p[5], p[2], p[3], p[5], p[4], p[5], top}})
}

func mustEncode(t *testing.T, x api.X) string {
	t.Helper()
	s, e := codec.Encode(x)
	if e != api.OK {
		t.Fatal(e)
	}
	return s
}

func TestStaleLoads(t *testing.T) {
	c, p := built(t, imm(api.RCX, api.PacketBase), store(8, api.RSP, -8, api.RCX), load(8, api.RAX, api.RSP, -8), load(1, api.RAX, api.RAX, 0), ret)
	run := []uint64{p[0], p[1], top - 8, p[2], top - 8, p[3], api.PacketBase, p[4], top}
	check(t, "as it is", c, 4, nil, told{'a', 0, run})
	check(t, "the second load is at 0", c, 4, []uint8{1}, told{'a', 1, slices.Insert(slices.Clone(run), 5, p[3], 0)})
	check(t, "an item modulo 2: 0", c, 4, []uint8{2}, told{'a', 0, run})
	check(t, "an item modulo 2: 1", c, 4, []uint8{255}, told{'a', 1, slices.Insert(slices.Clone(run), 5, p[3], 0)})
	check(t, "a window of 0", c, 0, []uint8{1}, told{'a', 0, run})
	// The second load takes the second item; what it brings is a, without the store, too.
	check(t, "the second load", c, 4, []uint8{0, 1}, told{'a', 1, slices.Insert(slices.Clone(run), 7, p[4])})

	for _, end := range []api.X{fence, {Kind: api.XCall, Rel: api.HelperBase + api.HeRandom - api.CodeBase - 7 - 8 - 5}} {
		c, p = built(t, imm(api.RBX, api.PacketBase), store(8, api.RSP, -8, api.RBX), end, load(8, api.RBX, api.RSP, -8), load(1, api.RAX, api.RBX, 0), ret)
		check(t, "no store waits", c, 4, []uint8{1, 1}, told{'a', 0, []uint64{p[0], p[1], top - 8, p[2], p[3], top - 8, p[4], api.PacketBase, p[5], top}})
	}

	c, p = built(t, api.X{Kind: api.XPush, Dst: api.RBX}, api.X{Kind: api.XPop, Dst: api.RBX}, load(8, api.RAX, api.RSP, -8), ret)
	check(t, "a push does not wait", c, 4, []uint8{1}, told{0, 0, []uint64{p[0], top - 8, p[1], top - 8, p[2], top - 8, p[3], top}})
}

// TestHowFarBack: stores are undone one by one, the last one first, byte by byte; the address that is asked for behind tells what was loaded.
func TestHowFarBack(t *testing.T) {
	last := load(1, api.RBP, api.RAX, 0) // faults: so it stands behind a jump that is guessed wrong
	c, p := built(t,
		imm(api.RBX, api.PacketBase), imm(api.RCX, 0x1111), imm(api.RDX, 0x2222), imm(api.RSI, 0x3333),
		store(2, api.RBX, 0, api.RCX), // 11 11 c d
		store(2, api.RBX, 1, api.RDX), // 11 22 22 d
		store(1, api.RBX, 1, api.RSI), // 11 33 22 d
		load(4, api.RAX, api.RBX, 0),
		jcc(api.CcNe, int32(len(mustEncode(t, last)))), last, ret)
	begin := []uint64{p[0], p[1], p[2], p[3], p[4], api.PacketBase, p[5], api.PacketBase + 1, p[6], api.PacketBase + 1, p[7], api.PacketBase}
	end := []uint64{p[8], p[10], top}
	for n, want := range []uint64{0x64223311, 0x64222211, 0x64631111, 0x64636261} {
		guess, squashed := []uint64{p[8], p[9], want}, 2
		if n == 0 {
			guess, squashed = nil, 0
		}
		check(t, "so many back", c, 4, []uint8{uint8(n) + 4, uint8(min(n, 1))}, told{0x64223311, squashed, slices.Concat(begin, guess, end)})
	}
}

// TestStoresInAGuess: they wait in it, the stores ahead of it too, and are gone with it.
func TestStoresInAGuess(t *testing.T) {
	over := func(l ...api.X) api.X {
		n := 0
		for _, x := range l {
			n += len(mustEncode(t, x))
		}
		return jcc(api.CcNe, int32(n))
	}
	in := []api.X{store(1, api.RBX, 0, api.RDX), load(1, api.RAX, api.RBX, 0), load(1, api.RBP, api.RAX, 0)}
	c, p := built(t, imm(api.RBX, api.PacketBase), imm(api.RCX, 1), imm(api.RDX, 2), store(1, api.RBX, 0, api.RCX), over(in...), in[0], in[1], in[2], load(1, api.RAX, api.RBX, 0), ret)
	begin := []uint64{p[0], p[1], p[2], p[3], api.PacketBase, p[4]}
	end := []uint64{p[8], api.PacketBase, p[9], top}
	for n, want := range []uint64{2, 1, 'a'} {
		guess := []uint64{p[5], api.PacketBase, p[6], api.PacketBase, p[7], want}
		check(t, "a store in a guess", c, 9, []uint8{1, uint8(n)}, told{1, 3, slices.Concat(begin, guess, end)})
	}

	in = []api.X{store(1, api.RBX, 0, api.RDX), load(1, api.RAX, api.RSI, 0), ret}
	c, p = built(t, imm(api.RBX, api.PacketBase), imm(api.RDX, 2), over(in...), in[0], in[1], in[2], load(1, api.RAX, api.RBX, 0), ret)
	check(t, "a load of what is not there", c, 9, []uint8{1, 1, 1}, told{'a', 2, []uint64{p[0], p[1], p[2], p[3], api.PacketBase, p[4], 0, p[6], api.PacketBase, p[7], top}})
}

func TestErrors(t *testing.T) {
	c, _ := built(t, ret)
	for _, w := range []*helpers.World{nil, {}} {
		if o, d, e := spec.Run(w, c, 99, nil, 9); e != api.ErrNil || o != (api.Outcome{}) || d.Trace != nil {
			t.Error(o, d, e)
		}
	}
	div, _ := built(t, api.X{Kind: api.XDiv, Dst: api.RBX})
	loop, _ := built(t, jcc(api.CcNe, -2))
	for _, x := range []struct {
		code         string
		window, most int
		e            api.Errno
	}{
		{c, 0, 9, api.OK}, {c, 16, 9, api.OK}, {c, 17, 9, api.ErrArg}, {c, -1, 9, api.ErrArg}, {"", 17, 9, api.ErrArg},
		{c, 16, 1, api.OK}, {c, 16, 0, api.ErrBudget}, {loop, 16, 100, api.ErrBudget}, {"", 16, 0, api.ErrBudget}, {"", 16, 9, api.ErrCode}, {div, 16, 9, api.ErrDiv},
	} {
		o, d, e := spec.Run(world(t), x.code, x.window, []uint8{1, 1, 1}, x.most)
		if e != x.e || e != api.OK && (o != (api.Outcome{}) || d.Trace != nil || d.Squashed != 0) {
			t.Errorf("%+v: %v, %v, %v", x, o, d, e)
		}
	}
}

// TestCommitsWhatTheMachineDoes runs code that is made by a rule, with all kinds of scripts.
func TestCommitsWhatTheMachineDoes(t *testing.T) {
	seed := uint64(6)
	next := func(n int) int {
		seed = seed*6364136223846793005 + 1442695040888963407
		return int(seed>>33) % n
	}
	ends, squashed := map[api.Errno]int{}, 0
	for range 3000 {
		l := []api.X{imm(api.RBX, api.PacketBase), imm(api.RCX, api.StackBase+8)}
		for range 4 + next(12) {
			r := []int{api.RAX, api.RDX, api.RSI, api.RBX}[next(7)/2%4]
			switch next(9) {
			case 0, 1:
				l = append(l, store([]int{1, 2, 4, 8}[next(4)], api.RCX, int32(next(5)), r))
			case 2, 3:
				l = append(l, load([]int{1, 2, 4, 8}[next(4)], r, api.RCX, int32(next(5))))
			case 4:
				l = append(l, jcc(api.CcB+next(6), int32(next(3)*8)))
			case 5:
				l = append(l, api.X{Kind: api.XAlu, Alu: api.AluCmp, Dst: r, Src: api.RAX})
			case 6:
				l = append(l, []api.X{fence, {Kind: api.XPush, Dst: r}, load(1, api.RDI, r, 0), load(1, api.RDI, api.RBX, 0)}[next(4)])
			default:
				l = append(l, imm(r, int64(next(300))))
			}
		}
		c, _ := built(t, append(l, ret)...)
		script := make([]uint8, next(20))
		set := 0
		for i := range script {
			script[i] = uint8(next(4))
			if script[i] != 0 {
				set++
			}
		}
		window := next(17)
		a, b := world(t), world(t)
		out, s, e := machine.Run(a, c, 300)
		got, d, f := spec.Run(b, c, window, script, 300)
		ends[e]++
		if got != out || f != e || !slices.Equal(a.Memory().Regions(), b.Memory().Regions()) {
			t.Fatalf("%x: %v, %v, and guessing %v, %v (%v)", c, out, e, got, f, s)
		}
		if d.Squashed > window*set {
			t.Fatalf("%x: %d were squashed, of a window of %d and %d items", c, d.Squashed, window, set)
		}
		squashed += d.Squashed
		for _, quiet := range [][]uint8{nil, make([]uint8, 50)} {
			if _, d, _ := spec.Run(world(t), c, window, quiet, 300); d.Squashed != 0 {
				t.Fatalf("%x: without a guess %d were squashed", c, d.Squashed)
			}
		}
	}
	if ends[api.OK] < 100 || squashed < 1000 {
		t.Errorf("too little was looked at: %v, %d", ends, squashed)
	}
}
