package emit_test

import (
	"slices"
	"strings"
	"testing"

	"firewall/alu"
	"firewall/api"
	"firewall/codec"
	"firewall/conds"
	"firewall/cpu"
	"firewall/emit"
	"firewall/helpers"
	"firewall/insns"
	"firewall/lines"
	"firewall/machine"
	"firewall/nums"
)

const minus = 1<<64 - 1

var (
	machines = []int{api.RAX, api.RDI, api.RSI, api.RDX, api.RCX, api.R8, api.RBX, api.R13, api.R14, api.R15, api.RBP}
	array    = api.Map{Kind: api.MapArray, Key: 4, Value: 24, Max: 3}
	exit     = api.Insn{Op: api.Exit}
)

func read(t *testing.T, text string) []api.Insn {
	t.Helper()
	l, line, e := lines.Read(strings.ReplaceAll(text, " / ", "\n"))
	if e != api.OK {
		t.Fatalf("%q: line %d, %v", text, line, e)
	}
	return l
}

func world(t *testing.T) *helpers.World {
	t.Helper()
	w, e := helpers.New(api.Layout{Maps: []api.Map{array, array, array}, Packet: 16}, api.Start{Packet: "abcdefghijklmnop"}, nil)
	if e != api.OK {
		t.Fatal(e)
	}
	return w
}

// parts is what the first instruction of a program is, after it was looked at that it may be so.
func parts(t *testing.T, in *emit.Array, l ...api.Insn) []emit.Part {
	t.Helper()
	p, e := emit.Slot(l, 0, in)
	if e != api.OK || len(p) == 0 || len(p) > 40 {
		t.Fatalf("%v: %d parts, %v", l, len(p), e)
	}
	for i, x := range p {
		leads := x.X.Kind == api.XJmp || x.X.Kind == api.XJcc
		if !codec.Valid(x.X) || leads && i < len(p)-1 || !leads && x.To != -1 || x.X.Kind != api.XCall && x.Help != -1 {
			t.Fatalf("%v: the part %d: %+v", l, i, x)
		}
	}
	return p
}

// state has numbers of the program's registers, and others in all the machine's.
func state(r [11]uint64) cpu.State {
	s := cpu.State{PC: 5, C: true, O: true}
	for i := range s.R {
		s.R[i] = uint64(i+1) * 0x1111111111111111
	}
	for i, v := range r {
		s.R[machines[i]] = v
	}
	s.R[api.RSP] = api.NativeBase + 64
	return s
}

// done does parts, but jumps.
func done(t *testing.T, w *helpers.World, p []emit.Part, s cpu.State) cpu.State {
	t.Helper()
	for _, x := range p {
		var e api.Errno
		if s, e = machine.Step(w, x.X, 5, s); e != api.OK {
			t.Fatalf("%+v: %v", x, e)
		}
	}
	return s
}

// same holds the program's registers, and rsp, against what they have to be.
func same(t *testing.T, what any, s cpu.State, want [11]uint64) {
	t.Helper()
	for i, v := range want {
		if s.R[machines[i]] != v {
			t.Fatalf("%v: r%d is %#x, want %#x", what, i, s.R[machines[i]], v)
		}
	}
	if s.R[api.RSP] != api.NativeBase+64 {
		t.Fatalf("%v: rsp", what)
	}
}

func TestRegAndHead(t *testing.T) {
	for r := range 256 {
		want := -1
		if r < 11 {
			want = machines[r]
		}
		if emit.Reg(uint8(r)) != want {
			t.Errorf("Reg(%d) = %d", r, emit.Reg(uint8(r)))
		}
	}
	head := emit.Head()
	if len(head) != 8 {
		t.Fatal(len(head))
	}
	for i, r := range []int{api.RBX, api.R12, api.R13, api.R14, api.R15, api.RBP} {
		if head[i].X != (api.X{Kind: api.XPush, Dst: r}) {
			t.Errorf("the part %d: %+v", i, head[i])
		}
	}
	w := world(t)
	s, _ := machine.Begin(w)
	s = done(t, w, head, s)
	if s.R[api.RDI] != api.CtxBase || s.R[api.RBP] != api.StackBase+api.StackSize {
		t.Error(s)
	}
	for _, p := range head {
		if p.To != -1 || p.Help != -1 || !codec.Valid(p.X) {
			t.Error(p)
		}
	}
}

func TestArguments(t *testing.T) {
	l := read(t, "ldimm r0 1 / exit")
	good := emit.Array{N: 3, Map: array}
	with := func(f func(a *emit.Array)) *emit.Array {
		a := good
		f(&a)
		return &a
	}
	for n, x := range []struct {
		l  []api.Insn
		pc int
		in *emit.Array
		e  api.Errno
	}{
		{l, 0, nil, api.OK}, {l, 1, nil, api.ErrArg}, {l, 2, nil, api.OK}, {l, 3, nil, api.ErrArg}, {l, -1, nil, api.ErrArg}, {l, 1<<63 - 1, nil, api.ErrArg},
		{nil, 0, nil, api.ErrArg}, {read(t, "mov64 r0 1"), 0, nil, api.ErrArg}, {read(t, "exit / exit"), 0, nil, api.ErrArg}, {read(t, "ldmap r0 3 / exit"), 0, nil, api.OK}, {read(t, "ldmap r0 4 / exit"), 0, nil, api.ErrArg}, {read(t, "nospec / exit"), 0, nil, api.OK},
		{append(slices.Repeat(read(t, "mov64 r0 1"), 191), exit), 190, nil, api.OK}, {append(slices.Repeat(read(t, "mov64 r0 1"), 192), exit), 190, nil, api.ErrArg},
		{l, 0, &good, api.OK}, {l, 0, with(func(a *emit.Array) { a.N = 0 }), api.OK}, {l, 0, with(func(a *emit.Array) { a.N = 4 }), api.ErrArg}, {l, 0, with(func(a *emit.Array) { a.N = -1 }), api.ErrArg}, {l, 0, with(func(a *emit.Array) { a.Map.Kind = api.MapHash }), api.ErrArg}, {l, 0, with(func(a *emit.Array) { a.Map.Key = 8 }), api.ErrArg},
		{l, 0, with(func(a *emit.Array) { a.Map.Value = 0 }), api.ErrArg}, {l, 0, with(func(a *emit.Array) { a.Map.Value = 64 }), api.OK}, {l, 0, with(func(a *emit.Array) { a.Map.Value = 65 }), api.ErrArg}, {l, 0, with(func(a *emit.Array) { a.Map.Max = 0 }), api.ErrArg}, {l, 0, with(func(a *emit.Array) { a.Map.Max = 16 }), api.OK}, {l, 0, with(func(a *emit.Array) { a.Map.Max = 17 }), api.ErrArg}, {l, 2, &emit.Array{}, api.ErrArg},
	} {
		if p, e := emit.Slot(x.l, x.pc, x.in); e != x.e || e != api.OK && p != nil {
			t.Errorf("%d: %v, %v", n, p, e)
		}
	}
}

var points = []uint64{0, 1, 7, 33, 64, 1<<31 - 1, 1 << 31, 1<<32 - 1, 1 << 32, 1<<32 + 5, 1<<63 + 9, minus}

func TestArithmetic(t *testing.T) {
	w := world(t)
	seed := uint64(4)
	next := func() uint64 {
		seed = seed*6364136223846793005 + 1442695040888963407
		return seed >> 33
	}
	for op := 0; op <= api.OpArsh; op += 0x10 {
		for _, class := range []int{api.ClAlu, api.ClAlu64} {
			for n := range 1400 {
				in := api.Insn{Op: uint8(op | class), Dst: uint8(n % 10)}
				var r [11]uint64
				for i := range r {
					r[i] = points[next()%uint64(len(points))]
				}
				b := uint64(0)
				switch {
				case op == api.OpNeg:
				case n%2 == 0:
					in.Op |= api.FromReg
					in.Src = uint8(n / 10 % 11)
					b = r[in.Src]
				default:
					in.Imm = int32(points[next()%uint64(len(points))])
					if op == api.OpLsh || op == api.OpRsh || op == api.OpArsh {
						in.Imm &= 31
					}
					b = uint64(int64(in.Imm))
				}
				if insns.Check(in, false) != api.OK { // a division by 0
					continue
				}
				want := r
				want[in.Dst] = alu.Do(uint8(op), class == api.ClAlu64, r[in.Dst], b)
				p := parts(t, nil, in, exit)
				same(t, in, done(t, w, p, state(r)), want)
			}
		}
	}
	if p := parts(t, nil, api.Insn{Op: api.ClAlu64 | api.OpLsh, Dst: 1, Imm: 63}, exit); len(p) > 0 {
		same(t, "lsh64 by 63", done(t, w, p, state([11]uint64{1: 3})), [11]uint64{1: 1 << 63})
	}
}

func TestConstants(t *testing.T) {
	w := world(t)
	for _, v := range points {
		l := []api.Insn{{Op: api.LdImm, Dst: 9, Imm: int32(v)}, {Imm: int32(v >> 32)}, exit}
		same(t, v, done(t, w, parts(t, nil, l...), state([11]uint64{})), [11]uint64{9: v})
	}
	for i := range 4 {
		l := []api.Insn{{Op: api.LdImm, Dst: 2, Src: 1, Imm: int32(i)}, {}, exit}
		same(t, i, done(t, w, parts(t, nil, l...), state([11]uint64{})), [11]uint64{2: api.HandleBase + uint64(i)})
	}
}

func TestLoadsAndStores(t *testing.T) {
	for _, r := range []uint8{0, 1, 2, 3, 4, 6, 7, 9} {
		for _, n := range []int{1, 2, 4, 8} {
			up := map[int]uint8{1: 0x70, 2: 0x68, 4: 0x60, 8: 0x78}[n]
			at := r + 1
			if r == 9 {
				at = 10
			}
			var before [11]uint64
			before[at], before[r] = api.PacketBase+8, 0x8877665544332211
			w := world(t)
			want := before
			want[r] = nums.Num("efghijklmnop"[:n])
			same(t, "a load", done(t, w, parts(t, nil, api.Insn{Op: up | api.ClLdx, Dst: r, Src: at, Off: -4}, exit), state(before)), want)
			same(t, "a store", done(t, w, parts(t, nil, api.Insn{Op: up | api.ClStx, Dst: at, Src: r, Off: -4}, exit), state(before)), before)
			if s, _ := w.Memory().Text(api.PacketBase, 16); s != "abcd"+nums.Bytes(before[r], n)+"efghijklmnop"[n:] {
				t.Errorf("a store of %d: %q", n, s)
			}
			same(t, "a store of a value", done(t, w, parts(t, nil, api.Insn{Op: up | api.ClSt, Dst: at, Off: 0, Imm: -5}, exit), state(before)), before)
			if s, _ := w.Memory().Text(api.PacketBase+8, n); s != nums.Bytes(minus-4, n) {
				t.Errorf("a store of a value of %d: %q", n, s)
			}
		}
	}
}

func TestJumps(t *testing.T) {
	w := world(t)
	l := read(t, "jeq64 r0 0 +1 / ja +1 / exit / ja -3")
	if p, e := emit.Slot(l, 1, nil); e != api.OK || len(p) != 1 || p[0].X.Kind != api.XJmp || p[0].To != 3 || p[0].Help != -1 {
		t.Error(p, e)
	}
	if p, e := emit.Slot(l, 3, nil); e != api.OK || len(p) != 1 || p[0].To != 1 {
		t.Error(p, e)
	}
	for _, op := range []uint8{api.JmpEq, api.JmpGt, api.JmpGe, api.JmpSet, api.JmpNe, api.JmpSgt, api.JmpSge, api.JmpLt, api.JmpLe, api.JmpSlt, api.JmpSle} {
		for _, class := range []uint8{api.ClJmp, api.ClJmp32} {
			for n, a := range points {
				for _, b := range points {
					r := [11]uint64{10: b}
					r[n%10] = a
					in := api.Insn{Op: op | class | api.FromReg, Dst: uint8(n % 10), Src: 10, Off: 1}
					if uint64(int64(int32(b))) == b {
						in = api.Insn{Op: op | class, Dst: uint8(n % 10), Off: 1, Imm: int32(b)}
					}
					p := parts(t, nil, in, exit, exit)
					last := p[len(p)-1]
					if last.X.Kind != api.XJcc || last.To != 2 {
						t.Fatalf("%v: %+v", in, last)
					}
					s := done(t, w, p[:len(p)-1], state(r))
					same(t, in, s, r)
					if cpu.Taken(last.X.Cond, s) != conds.Holds(op, class == api.ClJmp, a, b) {
						t.Fatalf("%v of %d and %d: it is taken: %v", in, a, b, cpu.Taken(last.X.Cond, s))
					}
				}
			}
		}
	}
}

func TestCalls(t *testing.T) {
	in := &emit.Array{N: 1, Map: array}
	for _, id := range []int32{api.HeLookup, api.HeUpdate, api.HeDelete, api.HeRandom} {
		for _, a := range []*emit.Array{nil, in} {
			p := parts(t, a, api.Insn{Op: api.Call, Imm: id}, exit)
			if a != nil && id == api.HeLookup {
				continue
			}
			if len(p) != 1 || p[0].X.Kind != api.XCall || p[0].Help != int(id) || p[0].To != -1 {
				t.Errorf("a call of %d: %+v", id, p)
			}
		}
	}
}

// TestLookup: what an array's lookup tells is told without a call, and without a jump.
func TestLookup(t *testing.T) {
	for i := range 4 {
		for _, m := range []api.Map{array, {Kind: api.MapArray, Key: 4, Value: 1, Max: 16}, {Kind: api.MapArray, Key: 4, Value: 64, Max: 1}} {
			p := parts(t, &emit.Array{N: i, Map: m}, api.Insn{Op: api.Call, Imm: api.HeLookup}, exit)
			for _, x := range p {
				if k := x.X.Kind; k == api.XCall || k == api.XJmp || k == api.XJcc || k == api.XRet {
					t.Fatalf("a lookup has %+v", x)
				}
			}
			for _, key := range []uint64{0, 1, 2, 3, 15, 16, 17, 1<<31 - 1, 1 << 31, 1<<32 - 1} {
				w := world(t)
				w.Memory().Write(api.StackBase+16, 8, key|7<<32)
				r := [11]uint64{1: api.HandleBase + uint64(i), 2: api.StackBase + 16, 6: 1, 7: 2, 8: 3, 9: 4, 10: 5}
				s := done(t, w, p, state(r))
				want := uint64(0)
				if key < uint64(m.Max) {
					want = api.MapBase + uint64(i)*api.MapStep + key*uint64(m.Value)
				}
				if s.R[api.RAX] != want {
					t.Fatalf("%v, map %d, key %d: %#x, want %#x", m, i, key, s.R[api.RAX], want)
				}
				for k := 6; k <= 10; k++ {
					if s.R[machines[k]] != r[k] {
						t.Fatalf("a lookup changes r%d", k)
					}
				}
			}
		}
	}
}

// TestNoJumps: divisions have no jump.
func TestNoJumps(t *testing.T) {
	for _, op := range []uint8{api.OpDiv, api.OpMod} {
		for _, class := range []uint8{api.ClAlu, api.ClAlu64} {
			for dst := range uint8(10) {
				for src := range uint8(11) {
					parts(t, nil, api.Insn{Op: op | class | api.FromReg, Dst: dst, Src: src}, exit)
				}
			}
		}
	}
}

func TestExitAndFence(t *testing.T) {
	if p := parts(t, nil, api.Insn{Op: api.Nospec}, exit); len(p) != 1 || p[0].X != (api.X{Kind: api.XFence}) {
		t.Error(p)
	}
	p := parts(t, nil, exit)
	var want []api.X
	for _, r := range []int{api.RBP, api.R15, api.R14, api.R13, api.R12, api.RBX} {
		want = append(want, api.X{Kind: api.XPop, Dst: r})
	}
	want = append(want, api.X{Kind: api.XRet})
	for i, x := range p {
		if len(p) != len(want) || x.X != want[i] {
			t.Fatalf("exit: %+v", p)
		}
	}
}
