package frames_test

import (
	"testing"

	"firewall/api"
	"firewall/frames"
	"firewall/kinds"
	"firewall/scalars"
	"firewall/slots"
)

type (
	F = frames.F
	V = kinds.V
)

var seven = kinds.Number(scalars.Const(7))

func TestStart(t *testing.T) {
	var want F
	want.R[1].Kind, want.R[10].Kind, want.Next = kinds.Ctx, kinds.Stack, 1
	if f := frames.Start(); f != want {
		t.Error(f)
	}
}

func TestFresh(t *testing.T) {
	f := frames.Start()
	g, id := frames.Fresh(f)
	h, other := frames.Fresh(g)
	if id != 1 || other != 2 || g.Next != 2 || h.Next != 3 || f.Next != 1 {
		t.Error(id, other, g.Next, h.Next)
	}
	if g.Next = f.Next; g != f {
		t.Error("more than Next changed")
	}
}

func TestDrop(t *testing.T) {
	f := frames.Start()
	f.R[0], f.R[5] = seven, seven
	f.S[3] = slots.Place{Bytes: 255, V: seven}
	want := f
	want.R[0], want.R[1] = V{}, V{}
	if g := frames.Drop(f, 0, 1, -1, 11, 1<<62, -1<<63, 1); g != want {
		t.Error(g.R)
	}
	if g := frames.Drop(f); g != f {
		t.Error("nothing is dropped")
	}
	if frames.Drop(f, 10).R[10] != (V{}) {
		t.Error("register 10")
	}
}

// full is a frame with values of all kinds and some IDs, in registers and in places.
func full() F {
	f := frames.Start()
	for kind := range 9 {
		f.R[kind] = V{Kind: kind, Map: 1, ID: 5, Off: 3, Sure: 4, N: scalars.Bytes(1)}
		f.S[kind] = slots.Place{Bytes: 255, V: f.R[kind]}
		f.S[63-kind] = slots.Place{Bytes: 255, V: V{Kind: kind, ID: 6, Sure: 9}}
	}
	f.R[9] = V{Kind: kinds.Packet, ID: 6, Sure: 9}
	f.R[10] = V{Kind: kinds.Maybe, ID: 6}
	return f
}

func TestSure(t *testing.T) {
	for _, x := range []struct{ id, many, five, six int }{{5, 7, 7, 9}, {5, 4, 4, 9}, {5, 3, 4, 9}, {6, 12, 4, 12}, {6, -1, 4, 9}, {0, 50, 4, 9}} {
		f := full()
		want := f
		want.R[kinds.Packet].Sure, want.S[kinds.Packet].V.Sure = x.five, x.five
		want.R[9].Sure, want.S[63-kinds.Packet].V.Sure = x.six, x.six
		if g := frames.Sure(f, x.id, x.many); g != want {
			t.Errorf("Sure %d, %d", x.id, x.many)
		}
	}
}

func TestFound(t *testing.T) {
	f := full()
	want := f
	want.R[kinds.Maybe].Kind, want.R[kinds.Maybe].ID = kinds.Value, 0
	want.S[kinds.Maybe].V = want.R[kinds.Maybe]
	if g := frames.Found(f, 5, true); g != want {
		t.Error("it is found")
	}
	want.R[kinds.Maybe] = kinds.Number(scalars.Const(0))
	want.S[kinds.Maybe].V = want.R[kinds.Maybe]
	if g := frames.Found(f, 5, false); g != want {
		t.Error("it is not found")
	}
	if g := frames.Found(f, 7, true); g != f {
		t.Error("there is no such ID")
	}
	want = f
	want.R[10] = kinds.Number(scalars.Const(0))
	want.S[63-kinds.Maybe].V = want.R[10]
	if g := frames.Found(f, 6, false); g != want {
		t.Error("another ID")
	}
}

func TestIn(t *testing.T) {
	a := frames.Start()
	if !frames.In(a, a) || !frames.In(F{}, a) || frames.In(a, F{}) || !frames.In(full(), full()) {
		t.Error("of a frame, itself")
	}
	for r := range 11 {
		f, g := full(), full()
		f.R[r], g.R[r] = seven, kinds.Number(scalars.Bytes(1))
		if frames.In(f, g) || !frames.In(g, f) {
			t.Errorf("register %d makes no difference", r)
		}
	}
	f, g := full(), full()
	g.Next = 99
	if !frames.In(f, g) || !frames.In(g, f) {
		t.Error("Next makes a difference")
	}
	g.S[40].Bytes = 1
	if !frames.In(f, g) || frames.In(g, f) {
		t.Error("the stack makes no difference")
	}
	packet := func(id int) V { return V{Kind: kinds.Packet, ID: id} }
	f, g = frames.Start(), frames.Start()
	f.R[2], f.R[3], g.R[2], g.R[3] = packet(1), packet(1), packet(4), packet(5)
	if frames.In(f, g) || !frames.In(g, f) {
		t.Error("an ID stands for two")
	}
	f.R[3], f.S[9] = V{}, slots.Place{Bytes: 255, V: packet(1)}
	g.R[3], g.S[9] = V{}, slots.Place{Bytes: 255, V: packet(5)}
	if frames.In(f, g) {
		t.Error("an ID stands for another one in the stack")
	}
	if g.S[9].V.ID = 4; !frames.In(f, g) {
		t.Error("an ID stands for the same one in the stack")
	}
}

func TestPlain(t *testing.T) {
	l := api.Layout{Maps: []api.Map{{Kind: api.MapArray, Key: 4, Value: 8, Max: 1}, {Kind: api.MapArray, Key: 4, Value: 16, Max: 1}}}
	f := frames.Start()
	f.S, _ = slots.Store(f.S, -8, 8, seven)
	f.S, _ = slots.Store(f.S, -16, 8, V{Kind: kinds.Ctx})
	stack := func(off int) V { return V{Kind: kinds.Stack, Off: off} }
	for n, x := range []struct {
		v    V
		n    int
		want api.Errno
	}{
		{f.R[10], 8, api.ErrBound}, {stack(-8), 8, api.OK}, {stack(-8), 9, api.ErrBound}, {stack(-16), 8, api.ErrLeak}, {stack(-20), 8, api.ErrUninit}, {stack(-24), 24, api.ErrUninit}, {stack(-16), 16, api.ErrLeak}, {stack(-8), 0, api.ErrBound}, {stack(-8), -1, api.ErrBound}, {stack(-513), 1, api.ErrBound}, {stack(-512), 1, api.ErrUninit}, {stack(-1), 1, api.OK},
		{V{}, 8, api.ErrUninit}, {V{}, -8, api.ErrUninit}, {seven, 8, api.ErrType}, {f.R[1], 8, api.ErrType}, {V{Kind: kinds.Handle}, 8, api.ErrType}, {V{Kind: kinds.Maybe}, 8, api.ErrType}, {V{Kind: kinds.End}, 8, api.ErrType}, {V{Kind: 99}, 8, api.ErrType}, {V{Kind: -1}, 8, api.ErrType}, {V{Kind: kinds.End}, -1, api.ErrType},
		{V{Kind: kinds.Value}, 8, api.OK}, {V{Kind: kinds.Value}, 9, api.ErrBound}, {V{Kind: kinds.Value, Map: 1}, 16, api.OK}, {V{Kind: kinds.Value, Map: 1, Off: 9}, 8, api.ErrBound}, {V{Kind: kinds.Value, Map: 2}, 1, api.ErrBound}, {V{Kind: kinds.Value, Map: -1}, 1, api.ErrBound}, {V{Kind: kinds.Value, Map: 1, N: scalars.Bytes(1)}, 1, api.ErrBound}, {V{Kind: kinds.Value, Map: 1 << 62}, 1, api.ErrBound},
		{V{Kind: kinds.Packet, Sure: 4, Off: 1}, 3, api.OK}, {V{Kind: kinds.Packet, Sure: 4, Off: 1}, 4, api.ErrBound}, {V{Kind: kinds.Packet, Sure: 4, Off: -1}, 1, api.ErrBound},
	} {
		if e := frames.Plain(f, l, x.v, x.n); e != x.want {
			t.Errorf("%d: Plain of %v, %d: %v, want %v", n, x.v, x.n, e, x.want)
		}
	}
}
