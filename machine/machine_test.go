package machine_test

import (
	"slices"
	"strings"
	"testing"

	"firewall/api"
	"firewall/codec"
	"firewall/cpu"
	"firewall/helpers"
	"firewall/machine"
)

const (
	minus = 1<<64 - 1
	top   = api.NativeBase + api.NativeSize - 8
)

func world(t *testing.T) *helpers.World {
	t.Helper()
	w, e := helpers.New(api.Layout{Maps: []api.Map{{Kind: api.MapHash, Key: 1, Value: 2, Max: 2}}, Packet: 4},
		api.Start{Packet: "abcd", Mark: 9, Draws: []uint64{5, minus}, Maps: [][]api.Entry{{{Key: "a", Value: "xy"}}}},
		[]api.Region{{Base: 0x600000, Data: "fixed..."}})
	if e != api.OK {
		t.Fatal(e)
	}
	return w
}

func code(t *testing.T, l ...api.X) string {
	t.Helper()
	s := ""
	for _, x := range l {
		b, e := codec.Encode(x)
		if e != api.OK {
			t.Fatalf("%+v: %v", x, e)
		}
		s += b
	}
	return s
}

var (
	ret  = api.X{Kind: api.XRet}
	push = func(r int) api.X { return api.X{Kind: api.XPush, Dst: r} }
	pop  = func(r int) api.X { return api.X{Kind: api.XPop, Dst: r} }
	imm  = func(r int, v int64) api.X { return api.X{Kind: api.XImm, Wide: true, Dst: r, Imm: v} }
)

func TestFetch(t *testing.T) {
	c := code(t, imm(0, 7), ret)
	for _, x := range []struct {
		pc, next uint64
		x        api.X
		e        api.Errno
	}{
		{api.CodeBase, api.CodeBase + 7, imm(0, 7), api.OK},
		{api.CodeBase + 7, api.CodeBase + 8, ret, api.OK},
		{api.CodeBase + 8, 0, api.X{}, api.ErrCode}, {api.CodeBase - 1, 0, api.X{}, api.ErrCode}, {api.CodeBase + 1, 0, api.X{}, api.ErrCode}, {0, 0, api.X{}, api.ErrCode}, {minus, 0, api.X{}, api.ErrCode}, {api.Halt, 0, api.X{}, api.ErrCode},
	} {
		if y, next, e := machine.Fetch(c, x.pc); y != x.x || next != x.next || e != x.e {
			t.Errorf("Fetch at %#x: %+v, %#x, %v", x.pc, y, next, e)
		}
	}
	if _, _, e := machine.Fetch("", api.CodeBase); e != api.ErrCode {
		t.Error(e)
	}
}

func TestTouch(t *testing.T) {
	var s cpu.State
	for r := range s.R {
		s.R[r] = uint64(r) * 1000
	}
	s.R[api.RAX] = 4
	for _, x := range []struct {
		x    api.X
		addr uint64
		n    int
	}{
		{api.X{Kind: api.XLoad, Size: 4, Dst: 1, Src: 2, Disp: -8}, 1992, 4},
		{api.X{Kind: api.XLoad, Size: 1, Dst: 1, Src: 0, Disp: -5}, minus, 1},
		{api.X{Kind: api.XStore, Size: 8, Wide: true, Dst: 3, Src: 2, Disp: 1<<31 - 1}, 3000 + 1<<31 - 1, 8},
		{push(1), 3992, 8}, {pop(1), 4000, 8}, {ret, 4000, 8},
		{api.X{Kind: api.XCall, Rel: 5}, 0, 0}, {imm(1, 5), 0, 0}, {api.X{Kind: api.XFence}, 0, 0}, {api.X{Kind: api.XJmp}, 0, 0}, {api.X{}, 0, 0}, {api.X{Kind: 77}, 0, 0},
		{api.X{Kind: api.XLoad, Size: 3, Dst: 1, Src: 2}, 0, 0}, {api.X{Kind: api.XLoad, Size: 8, Dst: 1, Src: 99}, 0, 0}, {api.X{Kind: api.XPush, Dst: 16}, 0, 0}, {api.X{Kind: api.XRet, Dst: 1}, 0, 0},
	} {
		if addr, n := machine.Touch(x.x, s); addr != x.addr || n != x.n {
			t.Errorf("Touch of %+v: %d, %d", x.x, addr, n)
		}
	}
}

// step does an instruction from a state with some registers.
func step(t *testing.T, w *helpers.World, x api.X, regs map[int]uint64) (before, s cpu.State, e api.Errno) {
	t.Helper()
	before = cpu.State{PC: 5, S: true}
	for r := range before.R {
		before.R[r] = uint64(r) + 100
	}
	before.R[api.RSP] = top
	for r, v := range regs {
		before.R[r] = v
	}
	s, e = machine.Step(w, x, 1000, before)
	if e != api.OK && s != (cpu.State{}) {
		t.Errorf("%+v: beside %v: %+v", x, e, s)
	}
	return
}

func TestStep(t *testing.T) {
	type regs = map[int]uint64
	helper := func(id int32) api.X { return api.X{Kind: api.XCall, Rel: api.HelperBase + id - 1000} }
	lost := func(answer uint64) regs {
		return regs{api.RAX: answer, api.RCX: 0, api.RDX: 0, api.RSI: 0, api.RDI: 0, api.R8: 0, api.R9: 0, api.R10: 0, api.R11: 0}
	}
	for n, x := range []struct {
		x      api.X
		before regs
		behind regs
		pc     uint64
		e      api.Errno
	}{
		{api.X{Kind: api.XLoad, Size: 2, Dst: 1, Src: 2, Disp: 1}, regs{2: api.PacketBase}, regs{1: 'b' + 'c'<<8}, 1000, api.OK},
		{api.X{Kind: api.XLoad, Size: 1, Dst: 2, Src: 2, Disp: -1}, regs{2: api.PacketBase + 4}, regs{2: 'd'}, 1000, api.OK},
		{api.X{Kind: api.XLoad, Size: 4, Dst: 1, Src: 2, Disp: 1}, regs{2: api.PacketBase}, nil, 0, api.ErrFault},
		{api.X{Kind: api.XLoad, Size: 8, Wide: true, Dst: api.RSP, Src: 2}, regs{2: 0x600000}, regs{api.RSP: 0x2e2e2e6465786966}, 1000, api.OK},
		{api.X{Kind: api.XStore, Size: 4, Dst: 2, Src: 3}, regs{2: api.PacketBase, 3: minus}, regs{}, 1000, api.OK},
		{api.X{Kind: api.XStore, Size: 4, Dst: 2, Src: 3}, regs{2: api.PacketBase + 1}, nil, 0, api.ErrFault},
		{api.X{Kind: api.XStore, Size: 1, Dst: 2, Src: 3}, regs{2: 0x600000}, nil, 0, api.ErrRight},
		{api.X{Kind: api.XStore, Size: 1, Dst: 2, Src: 3}, regs{2: api.CodeBase}, nil, 0, api.ErrFault},
		{push(api.RBX), nil, regs{api.RSP: top - 8}, 1000, api.OK},
		{push(api.RSP), nil, regs{api.RSP: top - 8}, 1000, api.OK},
		{push(api.RBX), regs{api.RSP: api.NativeBase}, nil, 0, api.ErrFault},
		{push(api.RBX), regs{api.RSP: 0x600008}, nil, 0, api.ErrRight},
		{pop(api.R9), regs{api.RSP: 0x600000}, regs{api.RSP: 0x600008, api.R9: 0x2e2e2e6465786966}, 1000, api.OK},
		{pop(api.RSP), regs{api.RSP: 0x600000}, regs{api.RSP: 0x2e2e2e6465786966}, 1000, api.OK},
		{pop(api.R9), regs{api.RSP: 0x600001}, nil, 0, api.ErrFault},
		{ret, regs{api.RSP: 0x600000}, regs{api.RSP: 0x600008}, 0x2e2e2e6465786966, api.OK},
		{ret, regs{api.RSP: 3}, nil, 0, api.ErrFault},
		{api.X{Kind: api.XJmp, Rel: -1}, nil, regs{}, 999, api.OK},
		{api.X{Kind: api.XJmp, Short: true, Rel: 127}, nil, regs{}, 1127, api.OK},
		{api.X{Kind: api.XJmp, Rel: -1001}, nil, regs{}, minus, api.OK},
		{api.X{Kind: api.XJcc, Cond: api.CcL, Rel: 6}, nil, regs{}, 1006, api.OK},
		{api.X{Kind: api.XJcc, Cond: api.CcGe, Rel: 6}, nil, regs{}, 1000, api.OK},
		{imm(3, 5), nil, regs{3: 5}, 1000, api.OK},
		{api.X{Kind: api.XMov, Dst: 3, Src: 4}, regs{4: 1 << 40}, regs{3: 0}, 1000, api.OK},
		{api.X{Kind: api.XFence}, nil, regs{}, 1000, api.OK},
		{api.X{Kind: api.XDiv, Dst: 3}, regs{3: 0}, nil, 0, api.ErrDiv},
		{api.X{Kind: api.XDiv, Dst: 16}, nil, nil, 0, api.ErrArg}, {api.X{}, nil, nil, 0, api.ErrArg}, {api.X{Kind: api.XLoad, Size: 8, Dst: 3}, nil, nil, 0, api.ErrArg},
		{helper(api.HeRandom), nil, lost(5), 1000, api.OK},
		{helper(api.HeLookup), regs{api.RDI: api.HandleBase, api.RSI: api.PacketBase}, lost(api.MapBase), 1000, api.OK},
		{helper(api.HeLookup), regs{api.RDI: api.HandleBase, api.RSI: api.PacketBase + 1}, lost(0), 1000, api.OK},
		{helper(api.HeDelete), regs{api.RDI: api.HandleBase, api.RSI: api.PacketBase + 1}, lost(minus - 1), 1000, api.OK},
		{helper(api.HeUpdate), regs{api.RDI: api.HandleBase, api.RSI: api.PacketBase + 1, api.RDX: api.PacketBase + 2, api.RCX: 0}, lost(0), 1000, api.OK},
		{helper(api.HeUpdate), regs{api.RDI: api.HandleBase, api.RSI: api.PacketBase + 1, api.RDX: api.PacketBase + 2, api.RCX: 1}, lost(minus - 21), 1000, api.OK},
		{helper(api.HeUpdate), regs{api.RDI: api.HandleBase, api.RSI: api.PacketBase + 1, api.RDX: api.PacketBase + 3, api.RCX: 0}, nil, 0, api.ErrFault},
		{helper(api.HeLookup), regs{api.RDI: api.HandleBase + 1, api.RSI: api.PacketBase}, nil, 0, api.ErrArg},
		{helper(api.HeLookup), regs{api.RDI: api.HandleBase, api.RSI: 7}, nil, 0, api.ErrFault},
		{helper(4), nil, nil, 0, api.ErrCode}, {helper(0), nil, nil, 0, api.ErrCode}, {helper(-1), nil, nil, 0, api.ErrCode}, {helper(256 + 7), nil, nil, 0, api.ErrCode}, {api.X{Kind: api.XCall, Rel: 7}, nil, nil, 0, api.ErrCode},
	} {
		want, s, e := step(t, world(t), x.x, x.before)
		want.PC = x.pc
		for r, v := range x.behind {
			want.R[r] = v
		}
		if e != x.e || e == api.OK && s != want {
			t.Errorf("%d: %+v: %+v, %v, want %+v", n, x.x, s, e, want)
		}
	}
}

func TestStepChangesMemory(t *testing.T) {
	w := world(t)
	step(t, w, api.X{Kind: api.XStore, Size: 2, Dst: 2, Src: 3, Disp: 1}, map[int]uint64{2: api.PacketBase, 3: 0x11223344})
	if s, _ := w.Memory().Text(api.PacketBase, 4); s != "a\x44\x33d" {
		t.Errorf("a store: %q", s)
	}
	step(t, w, push(api.RSP), nil)
	if v, _ := w.Memory().Read(top-8, 8); v != top {
		t.Errorf("rsp is pushed as it was: %#x", v)
	}
	step(t, w, push(api.RBX), map[int]uint64{api.RBX: 77})
	if v, _ := w.Memory().Read(top-8, 8); v != 77 {
		t.Errorf("rbx is pushed: %#x", v)
	}
	step(t, w, api.X{Kind: api.XCall, Rel: api.HelperBase + 2 - 1000}, map[int]uint64{api.RDI: api.HandleBase, api.RSI: api.PacketBase + 3, api.RDX: api.PacketBase, api.RCX: 0})
	if e := w.Maps().Entries(0); len(e) != 2 || e[1] != (api.Entry{Key: "d", Value: "a\x44"}) {
		t.Errorf("an update: %v", e)
	}
	for _, none := range []*helpers.World{nil, {}} {
		if s, e := machine.Step(none, api.X{}, 5, cpu.State{}); e != api.ErrNil || s != (cpu.State{}) {
			t.Error(s, e)
		}
	}
}

func TestBegin(t *testing.T) {
	w := world(t)
	want := cpu.State{PC: api.CodeBase}
	want.R[api.RSP] = top
	if s, e := machine.Begin(w); s != want || e != api.OK {
		t.Errorf("%+v, %v", s, e)
	}
	if v, _ := w.Memory().Read(top, 8); v != api.Halt {
		t.Errorf("%#x", v)
	}
	for _, none := range []*helpers.World{nil, {}} {
		if s, e := machine.Begin(none); s != (cpu.State{}) || e != api.ErrNil {
			t.Error(s, e)
		}
		if o, s, e := machine.Run(none, "\xc3", 9); o != (api.Outcome{}) || s != (cpu.State{}) || e != api.ErrNil {
			t.Error(o, s, e)
		}
	}
}

func TestRun(t *testing.T) {
	call := func(id int32, ahead int32) api.X {
		return api.X{Kind: api.XCall, Rel: api.HelperBase + id - api.CodeBase - ahead - 5}
	}
	for n, x := range []struct {
		code string
		most int
		want api.Outcome
		e    api.Errno
	}{
		{code(t, imm(0, 7), ret), 99, api.Outcome{R0: 7, Steps: 2}, api.OK},
		{code(t, imm(0, 7), ret), 2, api.Outcome{R0: 7, Steps: 2}, api.OK},
		{code(t, imm(0, 7), ret), 1, api.Outcome{}, api.ErrBudget},
		{code(t, ret), 0, api.Outcome{}, api.ErrBudget}, {code(t, ret), -9, api.Outcome{}, api.ErrBudget}, {"", 0, api.Outcome{}, api.ErrBudget},
		{code(t, push(api.RBX), pop(api.RAX), ret), 99, api.Outcome{Steps: 3}, api.OK},
		{code(t, push(api.RAX), ret), 99, api.Outcome{}, api.ErrCode},
		{code(t, api.X{Kind: api.XLoad, Size: 8, Wide: true, Dst: api.RAX, Src: api.RBX}), 99, api.Outcome{}, api.ErrFault},
		{code(t, api.X{Kind: api.XJmp, Short: true, Rel: -2}), 500, api.Outcome{}, api.ErrBudget},
		{"", 99, api.Outcome{}, api.ErrCode},
		{code(t, imm(0, 7)), 99, api.Outcome{}, api.ErrCode},
		{code(t, call(7, 0), ret), 99, api.Outcome{R0: 5, Steps: 2}, api.OK},
		{code(t, imm(3, 0), call(7, 7), push(0), call(7, 13), pop(3), api.X{Kind: api.XAlu, Alu: api.AluAdd, Wide: true, Dst: 0, Src: 3}, ret), 99, api.Outcome{R0: 4, Steps: 7}, api.OK},
		{code(t, api.X{Kind: api.XDiv, Dst: 3}, ret), 99, api.Outcome{}, api.ErrDiv},
		{code(t, imm(1, 3), api.X{Kind: api.XAluImm, Alu: api.AluAdd, Wide: true, Dst: 0, Imm: 2}, api.X{Kind: api.XAluImm, Alu: api.AluSub, Wide: true, Dst: 1, Imm: 1}, api.X{Kind: api.XJcc, Cond: api.CcNe, Short: true, Rel: -16}, ret), 99, api.Outcome{R0: 6, Steps: 11}, api.OK},
		{"\x90", 99, api.Outcome{}, api.ErrCode},
	} {
		o, s, e := machine.Run(world(t), x.code, x.most)
		if o != x.want || e != x.e {
			t.Errorf("%d: %+v, %v, want %+v, %v", n, o, e, x.want, x.e)
		}
		if e != api.OK && s != (cpu.State{}) || e == api.OK && (s.PC != api.Halt || s.R[api.RAX] != o.R0 || s.R[api.RSP] != top+8) {
			t.Errorf("%d: the state %+v", n, s)
		}
	}
}

// TestWorldsOfRuns: like worlds come to the same; what is not Write stays; with an error the world stays as far as it came.
func TestWorldsOfRuns(t *testing.T) {
	store := func(base int64) string {
		return code(t, imm(1, base), imm(2, -1), api.X{Kind: api.XStore, Size: 1, Dst: 1, Src: 2}, ret)
	}
	for base, want := range map[int64]api.Errno{api.PacketBase: api.OK, api.StackBase: api.OK, api.MapBase: api.OK, api.CtxBase + 16: api.OK, api.CtxBase: api.ErrRight, 0x600000: api.ErrRight, api.CodeBase: api.ErrFault, 5: api.ErrFault} {
		w, v := world(t), world(t)
		before := w.Memory().Regions()
		o, s, e := machine.Run(w, store(base), 99)
		if p, q, f := machine.Run(v, store(base), 99); p != o || q != s || f != e || e != want {
			t.Errorf("at %#x: %v, and %v", base, e, f)
		}
		behind := w.Memory().Regions()
		if !slices.Equal(behind, v.Memory().Regions()) {
			t.Errorf("at %#x: the worlds part", base)
		}
		for i := range before {
			if !before[i].Write && before[i] != behind[i] {
				t.Errorf("at %#x: what is not Write changed", base)
			}
		}
	}
	w := world(t)
	_, _, e := machine.Run(w, strings.TrimSuffix(store(api.PacketBase), "\xc3"), 99)
	if v, _ := w.Memory().Read(api.PacketBase, 1); e != api.ErrCode || v != 255 {
		t.Error("the world did not stay as far as it came:", e, v)
	}
}
