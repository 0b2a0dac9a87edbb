package interp_test

import (
	"slices"
	"strings"
	"testing"

	"firewall/api"
	"firewall/helpers"
	"firewall/interp"
	"firewall/lines"
)

const minus = 1<<64 - 1

func read(t *testing.T, text string) []api.Insn {
	t.Helper()
	l, line, e := lines.Read(strings.ReplaceAll(text, " / ", "\n"))
	if e != api.OK {
		t.Fatalf("%q: line %d, %v", text, line, e)
	}
	return l
}

func world(t *testing.T, l api.Layout, s api.Start, more ...api.Region) *helpers.World {
	t.Helper()
	w, e := helpers.New(l, s, more)
	if e != api.OK {
		t.Fatal(e)
	}
	return w
}

// usual is a world with a packet of 2 bytes, a mark, an array, a hash, and draws.
func usual(t *testing.T) *helpers.World {
	return world(t, api.Layout{
		Maps:   []api.Map{{Kind: api.MapArray, Key: 4, Value: 8, Max: 2}, {Kind: api.MapHash, Key: 8, Value: 4, Max: 2}},
		Packet: 2,
	}, api.Start{
		Packet: "\x11\x22",
		Mark:   0x1122334455667788,
		Maps:   [][]api.Entry{{{Key: "\x01\x00\x00\x00", Value: "abcdefgh"}}},
		Draws:  []uint64{5, minus},
	}, api.Region{Base: 0x600000, Data: "more", Write: true})
}

type run struct {
	text string
	r0   uint64
	e    api.Errno
}

func check(t *testing.T, l []run) {
	t.Helper()
	for _, x := range l {
		out, e := interp.Run(read(t, x.text), usual(t), 1000)
		if out.R0 != x.r0 || e != x.e {
			t.Errorf("%q: %d, %v, want %d, %v", x.text, out.R0, e, x.r0, x.e)
		}
		if e != api.OK && out != (api.Outcome{}) {
			t.Errorf("%q: beside an error %v is told", x.text, out)
		}
	}
}

func TestRun(t *testing.T) {
	add := read(t, "mov64 r0 7 / add64 r0 -2 / exit")
	for _, x := range []struct {
		l    []api.Insn
		most int
		want api.Outcome
		e    api.Errno
	}{
		{add, 3, api.Outcome{R0: 5, Steps: 3}, api.OK},
		{add, 4000, api.Outcome{R0: 5, Steps: 3}, api.OK},
		{add, 2, api.Outcome{}, api.ErrBudget},
		{add, 0, api.Outcome{}, api.ErrBudget},
		{add, -1 << 63, api.Outcome{}, api.ErrBudget},
		{read(t, "ja -1"), 4000, api.Outcome{}, api.ErrBudget},
		{read(t, "mov64 r0 0 / mov64 r1 10 / add64 r0 r1 / sub64 r1 1 / jne64 r1 0 -3 / exit"), 33, api.Outcome{R0: 55, Steps: 33}, api.OK},
		{read(t, "mov64 r0 0 / mov64 r1 10 / add64 r0 r1 / sub64 r1 1 / jne64 r1 0 -3 / exit"), 32, api.Outcome{}, api.ErrBudget},
		{nil, 9, api.Outcome{}, api.ErrLong},
		{read(t, "mov64 r0 0"), 9, api.Outcome{}, api.ErrEnd},
		{read(t, "mov64 r10 0 / exit"), 9, api.Outcome{}, api.ErrReg},
		{read(t, "ldmap r0 2 / exit"), 9, api.Outcome{}, api.ErrMap},
		{read(t, "nospec / mov64 r0 1 / nospec / exit"), 9, api.Outcome{R0: 1, Steps: 4}, api.OK},
		{append(slices.Repeat(read(t, "mov64 r0 3"), 191), read(t, "exit")...), 192, api.Outcome{R0: 3, Steps: 192}, api.OK},
	} {
		if out, e := interp.Run(x.l, usual(t), x.most); out != x.want || e != x.e {
			t.Errorf("%v, %d: %v, %v", x.l, x.most, out, e)
		}
	}
	for _, w := range []*helpers.World{nil, {}} {
		for _, l := range [][]api.Insn{add, nil} {
			if out, e := interp.Run(l, w, 9); e != api.ErrNil || out != (api.Outcome{}) {
				t.Error(out, e)
			}
		}
	}
}

func TestArithmetic(t *testing.T) {
	check(t, []run{
		{"exit", 0, api.ErrUninit},
		{"add64 r0 1 / exit", 0, api.ErrUninit},
		{"neg32 r0 / exit", 0, api.ErrUninit},
		{"mov64 r0 r2 / exit", 0, api.ErrUninit},
		{"mov32 r0 r2 / exit", 0, api.ErrUninit},
		{"add32 r0 r1 / exit", 0, api.ErrUninit},
		{"add64 r1 r2 / exit", 0, api.ErrUninit},
		{"mov64 r0 -1 / exit", minus, api.OK},
		{"mov32 r0 -1 / exit", 1<<32 - 1, api.OK},
		{"mov64 r0 -1 / neg32 r0 / exit", 1, api.OK},
		{"mov64 r0 5 / neg64 r0 / exit", minus - 4, api.OK},
		{"mov64 r0 7 / mov64 r2 2 / div64 r0 r2 / exit", 3, api.OK},
		{"mov64 r0 7 / mov64 r2 0 / mod64 r0 r2 / exit", 7, api.OK},
		{"mov64 r0 7 / mul64 r0 -1 / exit", minus - 6, api.OK},
		{"mov64 r0 1 / mov64 r2 65 / lsh64 r0 r2 / exit", 2, api.OK},
		{"mov64 r0 -8 / arsh64 r0 1 / exit", minus - 3, api.OK},
		{"mov64 r0 -8 / rsh32 r0 1 / exit", 0x7ffffffc, api.OK},
		{"mov64 r0 -1 / and64 r0 -16 / exit", minus - 15, api.OK},
		// tags
		{"mov64 r0 r1 / exit", 0, api.ErrLeak},
		{"mov64 r0 r10 / exit", 0, api.ErrLeak},
		{"mov32 r0 r1 / exit", 0, api.ErrLeak},
		{"mov64 r0 r1 / mov32 r0 5 / exit", 5, api.OK},
		{"mov64 r0 r1 / mov64 r0 5 / exit", 5, api.OK},
		{"mov64 r0 r1 / sub64 r0 r10 / exit", minus - 66047, api.OK},
		{"mov64 r0 r1 / add64 r0 r10 / exit", 0, api.ErrLeak},
		{"mov64 r0 5 / add64 r0 r1 / exit", 0, api.ErrLeak},
		{"mov64 r0 5 / add64 r0 r1 / sub64 r0 r1 / exit", 5, api.OK},
		{"mov64 r0 r1 / sub64 r0 5 / sub64 r0 r1 / exit", minus - 4, api.OK},
		{"mov64 r0 r1 / sub64 r0 5 / exit", 0, api.ErrLeak},
		{"mov64 r0 5 / sub64 r0 r1 / exit", 0, api.ErrLeak},
		{"mov64 r2 5 / sub64 r2 r1 / mov64 r0 0 / exit", 0, api.ErrLeak},
		{"mov64 r2 5 / add32 r2 r1 / mov64 r0 0 / exit", 0, api.ErrLeak},
		{"add32 r1 5 / mov64 r0 0 / exit", 0, api.ErrLeak},
		{"sub32 r1 r10 / mov64 r0 0 / exit", 0, api.ErrLeak},
		{"mul64 r1 1 / mov64 r0 0 / exit", 0, api.ErrLeak},
		{"or64 r1 0 / mov64 r0 0 / exit", 0, api.ErrLeak},
		{"xor64 r1 r1 / mov64 r0 0 / exit", 0, api.ErrLeak},
		{"and64 r1 0 / mov64 r0 0 / exit", 0, api.ErrLeak},
		{"lsh64 r1 0 / mov64 r0 0 / exit", 0, api.ErrLeak},
		{"neg64 r1 / mov64 r0 0 / exit", 0, api.ErrLeak},
		{"neg32 r1 / mov64 r0 0 / exit", 0, api.ErrLeak},
		{"div64 r1 1 / mov64 r0 0 / exit", 0, api.ErrLeak},
		{"mov64 r0 1 / mod64 r0 r1 / mov64 r0 0 / exit", 0, api.ErrLeak},
		{"mov64 r0 1 / arsh64 r0 r1 / mov64 r0 0 / exit", 0, api.ErrLeak},
		{"mov64 r0 r1 / mov64 r0 r0 / exit", 0, api.ErrLeak},
	})
}

func TestConstants(t *testing.T) {
	check(t, []run{
		{"ldimm r0 18446744073709551615 / exit", minus, api.OK},
		{"ldimm r0 4294967301 / exit", 1<<32 + 5, api.OK},
		{"ldmap r0 0 / exit", 0, api.ErrLeak},
		{"ldmap r0 1 / ldmap r2 0 / sub64 r0 r2 / exit", 1, api.OK},
		{"ldmap r0 0 / ldx1 r0 r0 0 / exit", 0, api.ErrFault},
	})
}

func TestLoads(t *testing.T) {
	check(t, []run{
		{"ldx1 r0 r2 0 / exit", 0, api.ErrUninit},
		{"mov64 r2 65536 / ldx8 r0 r2 16 / exit", 0, api.ErrFault},
		{"ldx8 r2 r1 0 / ldx1 r0 r2 1 / exit", 0x22, api.OK},
		{"ldx8 r2 r1 0 / ldx2 r0 r2 0 / exit", 0x2211, api.OK},
		{"ldx8 r2 r1 0 / ldx2 r0 r2 1 / exit", 0, api.ErrFault},
		{"ldx8 r2 r1 0 / ldx1 r0 r2 -1 / exit", 0, api.ErrFault},
		{"ldx8 r2 r1 8 / ldx1 r0 r2 -1 / exit", 0x22, api.OK},
		{"ldx8 r2 r1 8 / ldx1 r0 r2 0 / exit", 0, api.ErrFault},
		{"ldx8 r0 r1 8 / ldx8 r2 r1 0 / sub64 r0 r2 / exit", 2, api.OK},
		{"ldx8 r0 r1 0 / exit", 0, api.ErrLeak}, {"ldx8 r0 r1 8 / exit", 0, api.ErrLeak},
		{"ldx1 r0 r1 0 / exit", 0, api.ErrLeak}, {"ldx4 r0 r1 12 / exit", 0, api.ErrLeak}, {"ldx8 r0 r1 4 / exit", 0, api.ErrLeak}, {"ldx1 r0 r1 15 / exit", 0, api.ErrLeak},
		{"ldx8 r0 r1 12 / exit", 0, api.ErrFault}, {"ldx8 r0 r1 17 / exit", 0, api.ErrFault}, {"ldx1 r0 r1 24 / exit", 0, api.ErrFault}, {"ldx1 r0 r1 -1 / exit", 0, api.ErrFault},
		{"ldx8 r0 r1 16 / exit", 0x1122334455667788, api.OK}, {"ldx4 r0 r1 16 / exit", 0x55667788, api.OK}, {"ldx2 r0 r1 20 / exit", 0x3344, api.OK}, {"ldx1 r0 r1 23 / exit", 0x11, api.OK},
		{"ldx8 r0 r10 -8 / exit", 0, api.ErrUninit}, {"ldx8 r0 r10 0 / exit", 0, api.ErrFault}, {"ldx8 r0 r10 -7 / exit", 0, api.ErrFault}, {"ldx1 r0 r10 -513 / exit", 0, api.ErrFault}, {"ldx1 r0 r10 -512 / exit", 0, api.ErrUninit},
		{"st4 r10 -8 -2 / ldx4 r0 r10 -8 / exit", 1<<32 - 2, api.OK}, {"st4 r10 -8 -2 / ldx8 r0 r10 -8 / exit", 0, api.ErrUninit}, {"st4 r10 -8 -2 / ldx2 r0 r10 -5 / exit", 0, api.ErrUninit},
		{"st4 r10 -8 1 / st4 r10 -4 2 / ldx8 r0 r10 -8 / exit", 2<<32 + 1, api.OK}, {"st8 r10 -9 -1 / ldx8 r0 r10 -9 / exit", minus, api.OK},
		{"mov64 r2 r10 / add64 r2 -8 / st8 r2 0 9 / ldx8 r0 r10 -8 / exit", 9, api.OK},
		// addresses in the stack
		{"stx8 r10 -8 r1 / ldx8 r2 r10 -8 / ldx8 r0 r2 16 / exit", 0x1122334455667788, api.OK},
		{"stx8 r10 -8 r1 / ldx8 r0 r10 -8 / exit", 0, api.ErrLeak}, {"stx8 r10 -8 r10 / ldx4 r0 r10 -8 / exit", 0, api.ErrLeak}, {"stx8 r10 -16 r1 / st8 r10 -8 0 / ldx8 r0 r10 -12 / exit", 0, api.ErrLeak}, {"stx8 r10 -16 r1 / ldx8 r0 r10 -12 / exit", 0, api.ErrUninit},
		{"stx8 r10 -8 r1 / st1 r10 -8 0 / ldx8 r0 r10 -8 / exit", api.CtxBase, api.OK}, {"stx8 r10 -8 r1 / st8 r10 -8 3 / ldx8 r0 r10 -8 / exit", 3, api.OK},
		{"stx8 r10 -8 r1 / stx8 r10 -16 r1 / st2 r10 -9 0 / ldx8 r0 r10 -16 / exit", api.CtxBase, api.OK},
		// maps' values
		{"st4 r10 -4 1 / mov64 r2 r10 / add64 r2 -4 / ldmap r1 0 / call 1 / ldx1 r0 r0 7 / exit", 'h', api.OK}, {"st4 r10 -4 1 / mov64 r2 r10 / add64 r2 -4 / ldmap r1 0 / call 1 / ldx1 r0 r0 8 / exit", 0, api.ErrFault}, {"st4 r10 -4 1 / mov64 r2 r10 / add64 r2 -4 / ldmap r1 0 / call 1 / ldx1 r0 r0 -8 / exit", 0, api.OK},
		// other memory
		{"mov64 r2 r1 / add64 r2 6225920 / ldx1 r0 r2 0 / exit", 0, api.ErrFault},
		{"mov64 r2 r1 / add64 r2 196608 / ldx1 r0 r2 0 / exit", 0, api.ErrFault},
	})
}

func TestStores(t *testing.T) {
	check(t, []run{
		{"st1 r0 0 0 / exit", 0, api.ErrUninit}, {"stx1 r0 0 r1 / exit", 0, api.ErrUninit}, {"stx1 r10 -1 r0 / exit", 0, api.ErrUninit}, {"stx1 r1 99 r0 / exit", 0, api.ErrUninit},
		{"mov64 r0 131072 / st1 r0 0 0 / exit", 0, api.ErrFault}, {"st1 r10 0 0 / exit", 0, api.ErrFault}, {"st2 r10 -1 0 / exit", 0, api.ErrFault}, {"st1 r1 24 0 / exit", 0, api.ErrFault},
		{"st8 r1 0 5 / exit", 0, api.ErrRight}, {"st1 r1 15 5 / exit", 0, api.ErrRight}, {"stx8 r1 8 r1 / exit", 0, api.ErrRight}, {"st8 r1 12 5 / exit", 0, api.ErrFault},
		{"st8 r1 16 -2 / ldx8 r0 r1 16 / exit", minus - 1, api.OK}, {"st1 r1 16 0 / ldx8 r0 r1 16 / exit", 0x1122334455667700, api.OK}, {"stx8 r1 16 r1 / exit", 0, api.ErrLeak}, {"stx1 r1 16 r1 / exit", 0, api.ErrLeak},
		{"mov64 r0 0 / mov64 r2 -1 / stx2 r1 16 r2 / ldx4 r0 r1 16 / exit", 0x5566ffff, api.OK},
		{"stx8 r10 -12 r1 / exit", 0, api.ErrLeak}, {"stx4 r10 -8 r1 / exit", 0, api.ErrLeak}, {"stx1 r10 -8 r1 / exit", 0, api.ErrLeak},
		{"ldx8 r2 r1 0 / st1 r2 1 -1 / ldx2 r0 r2 0 / exit", 0xff11, api.OK}, {"ldx8 r2 r1 0 / stx1 r2 1 r2 / exit", 0, api.ErrLeak}, {"ldx8 r2 r1 0 / st2 r2 1 -1 / exit", 0, api.ErrFault},
		{"st4 r10 -4 1 / mov64 r2 r10 / add64 r2 -4 / ldmap r1 0 / call 1 / stx8 r0 0 r10 / exit", 0, api.ErrLeak}, {"st4 r10 -4 1 / mov64 r2 r10 / add64 r2 -4 / ldmap r1 0 / call 1 / st8 r0 0 6 / ldx8 r0 r0 0 / exit", 6, api.OK},
	})
}

func TestJumps(t *testing.T) {
	check(t, []run{
		{"jeq64 r0 0 +0 / exit", 0, api.ErrUninit}, {"jeq64 r1 r0 +0 / exit", 0, api.ErrUninit}, {"jset32 r0 r1 +0 / exit", 0, api.ErrUninit},
		{"mov64 r0 1 / jeq64 r0 1 +1 / mov64 r0 2 / exit", 1, api.OK}, {"mov64 r0 1 / jne64 r0 1 +1 / mov64 r0 2 / exit", 2, api.OK},
		{"mov64 r0 -1 / jsgt64 r0 -2 +1 / mov64 r0 2 / exit", minus, api.OK}, {"mov64 r0 1 / jgt64 r0 -2 +1 / mov64 r0 2 / exit", 2, api.OK},
		{"ldimm r0 4294967296 / jeq32 r0 0 +1 / mov64 r0 2 / exit", 1 << 32, api.OK}, {"ldimm r0 4294967296 / jeq64 r0 0 +1 / mov64 r0 2 / exit", 2, api.OK},
		{"mov64 r0 5 / jgt64 r10 r1 +1 / mov64 r0 6 / exit", 5, api.OK}, {"mov64 r0 5 / jlt32 r10 r1 +1 / mov64 r0 6 / exit", 6, api.OK}, {"mov64 r0 5 / jset64 r1 65536 +1 / mov64 r0 6 / exit", 5, api.OK},
		{"ja +1 / exit / mov64 r0 3 / ja -3", 3, api.OK},
	})
}

func TestCalls(t *testing.T) {
	key := "st8 r10 -8 1 / mov64 r2 r10 / add64 r2 -8 / "
	array, hash := key+"ldmap r1 0 / ", key+"ldmap r1 1 / "
	check(t, []run{
		{"call 7 / exit", 5, api.OK}, {"call 7 / call 7 / exit", minus, api.OK}, {"call 7 / call 7 / call 7 / exit", 0, api.OK},
		{"call 7 / mov64 r0 r1 / exit", 0, api.ErrUninit}, {"mov64 r5 1 / call 7 / mov64 r0 r5 / exit", 0, api.ErrUninit}, {"mov64 r6 9 / call 7 / mov64 r0 r6 / exit", 9, api.OK}, {"mov64 r2 r10 / call 7 / stx8 r10 -8 r2 / exit", 0, api.ErrUninit},
		{array + "call 1 / exit", 0, api.ErrLeak}, {array + "call 1 / ldx4 r0 r0 0 / exit", 0x64636261, api.OK}, {hash + "call 1 / exit", 0, api.OK}, {array + "call 1 / sub64 r0 r10 / exit", api.MapBase + 8 - api.StackBase - 512, api.OK},
		{"call 1 / exit", 0, api.ErrUninit}, {"ldmap r1 0 / call 1 / exit", 0, api.ErrUninit}, {key + "call 1 / exit", 0, api.ErrArg}, {key + "mov64 r1 9437184 / call 1 / exit", 0, api.ErrArg}, {array + "add64 r1 2 / call 1 / exit", 0, api.ErrArg}, {array + "add64 r1 -1 / call 3 / exit", 0, api.ErrArg}, {hash + "sub64 r1 1 / call 1 / ldx4 r0 r0 0 / exit", 0x64636261, api.OK},
		{array + "mov64 r2 131072 / call 1 / exit", 0, api.ErrFault}, {array + "mov64 r2 r10 / call 1 / exit", 0, api.ErrFault}, {array + "add64 r2 -4 / call 1 / exit", 0, api.ErrUninit}, {array + "ldx8 r3 r10 -8 / stx8 r10 -8 r1 / call 1 / exit", 0, api.ErrLeak}, {hash + "stx8 r10 -8 r10 / call 1 / exit", 0, api.ErrLeak},
		{"mov64 r2 r1 / ldmap r1 0 / call 1 / exit", 0, api.ErrLeak}, {"mov64 r2 r1 / add64 r2 16 / ldmap r1 1 / call 1 / exit", 0, api.OK}, {"ldx8 r2 r1 0 / ldmap r1 0 / call 1 / exit", 0, api.ErrFault}, {"mov64 r2 r1 / add64 r2 20 / ldmap r1 1 / call 1 / exit", 0, api.ErrFault},
		{hash + "mov64 r3 r2 / call 2 / exit", 0, api.ErrUninit}, {hash + "mov64 r4 0 / call 2 / exit", 0, api.ErrUninit},
		{hash + "mov64 r3 r2 / mov64 r4 0 / call 2 / exit", 0, api.OK}, {hash + "mov64 r3 r2 / mov64 r4 1 / call 2 / exit", minus - 21, api.OK}, {hash + "mov64 r3 r2 / mov64 r4 r10 / call 2 / exit", 0, api.ErrLeak},
		{hash + "mov64 r3 7 / mov64 r4 r10 / call 2 / exit", 0, api.ErrFault}, {hash + "mov64 r3 r2 / add64 r3 -4 / mov64 r4 0 / call 2 / exit", 0, api.ErrUninit}, {hash + "stx8 r10 -16 r1 / mov64 r3 r10 / add64 r3 -16 / mov64 r4 0 / call 2 / exit", 0, api.ErrLeak}, {hash + "mov64 r3 r10 / add64 r3 -2 / mov64 r4 0 / call 2 / exit", 0, api.ErrFault},
		{array + "mov64 r3 r2 / mov64 r4 0 / call 2 / exit", 0, api.OK}, {array + "st4 r2 0 2 / mov64 r3 r2 / mov64 r4 0 / call 2 / exit", minus - 1, api.OK},
		{hash + "mov64 r3 r2 / mov64 r4 0 / call 2 / mov64 r2 r10 / add64 r2 -8 / ldmap r1 1 / call 1 / ldx4 r0 r0 0 / exit", 1, api.OK},
		{hash + "call 3 / exit", minus - 1, api.OK}, {array + "call 3 / exit", minus - 21, api.OK}, {key + "call 3 / exit", 0, api.ErrArg}, {"ldmap r1 1 / call 3 / exit", 0, api.ErrUninit}, {"mov64 r1 1 / mov64 r2 1 / call 2 / exit", 0, api.ErrUninit},
		// what the stack has stays
		{array + "call 1 / ldx8 r0 r10 -8 / exit", 1, api.OK}, {"stx8 r10 -16 r1 / " + array + "call 1 / ldx8 r1 r10 -16 / ldx1 r0 r1 16 / exit", 0x88, api.OK},
		{"exit", 0, api.ErrUninit}, {"ldmap r0 0 / exit", 0, api.ErrLeak},
	})
}

// TestFirstErrors: the error that the document names first is told where several could be.
func TestFirstErrors(t *testing.T) {
	check(t, []run{
		{"stx8 r1 0 r0 / exit", 0, api.ErrUninit},
		{"stx8 r1 0 r10 / exit", 0, api.ErrRight},
		{"stx4 r1 99 r10 / exit", 0, api.ErrFault},
		{"mov64 r1 5 / mov64 r2 5 / call 1 / exit", 0, api.ErrArg},
		{"ldmap r1 1 / mov64 r2 5 / mov64 r3 5 / mov64 r4 r10 / call 2 / exit", 0, api.ErrFault},
		{"add64 r0 r10 / exit", 0, api.ErrUninit},
	})
}

func TestWorldStaysAsFarAsItCame(t *testing.T) {
	w := usual(t)
	_, e := interp.Run(read(t, "ldx8 r2 r1 0 / st1 r2 0 9 / call 7 / st1 r2 0 1 / exit"), w, 99)
	if e != api.ErrUninit {
		t.Error(e)
	}
	if s, _ := w.Memory().Text(api.PacketBase, 2); s != "\x09\x22" {
		t.Errorf("%q", s)
	}
	if d, _ := w.Call(api.HeRandom, [5]uint64{}); d != minus {
		t.Error("the draw was not taken:", d)
	}
}

// TestMoreMakesNoDifference: like worlds come to the same, and bytes of the mark, the stack, the packet and the maps alone change.
func TestMoreMakesNoDifference(t *testing.T) {
	names := []string{"add64 r%a r%b", "mov64 r%a r%b", "sub64 r%a %n", "mov64 r%a %n", "ldx8 r%a r%b 0", "ldx1 r%a r%b %n", "stx8 r%a -8 r%b", "stx1 r%a %n r%b", "st4 r%a %n 7", "st8 r10 -16 %n", "call 7", "ldmap r1 0", "ldmap r1 1", "call 1", "call 2", "call 3", "jeq64 r%a r%b +0", "mov64 r2 r10", "add64 r2 -16", "mov64 r3 r2", "mov64 r4 0", "xor32 r%a r%b"}
	seed := uint64(9)
	next := func(n int) int {
		seed = seed*6364136223846793005 + 1442695040888963407
		return int(seed>>33) % n
	}
	ends := map[api.Errno]int{}
	for range 4000 {
		text := "mov64 r0 0\n"
		for range 3 + next(9) {
			line := names[next(len(names))]
			line = strings.ReplaceAll(line, "%a", string(rune('0'+next(4))))
			line = strings.ReplaceAll(line, "%b", []string{"0", "1", "2", "10"}[next(4)])
			text += strings.ReplaceAll(line, "%n", []string{"0", "1", "-8", "16"}[next(4)]) + "\n"
		}
		l := read(t, text+"exit")
		layout := api.Layout{Maps: []api.Map{{Kind: api.MapArray, Key: 4, Value: 8, Max: 2}, {Kind: api.MapHash, Key: 8, Value: 4, Max: 2}}, Packet: 2}
		start := api.Start{Packet: "ab", Mark: 3, Draws: []uint64{1, 2}}
		a, b := world(t, layout, start), world(t, layout, start, api.Region{Base: 0x600000, Data: "more", Write: true})
		before := b.Memory().Regions()
		out, e := interp.Run(l, a, 50)
		ends[e]++
		if o, f := interp.Run(l, b, 50); o != out || f != e {
			t.Fatalf("%q: %v, %v, and with more %v, %v", text, out, e, o, f)
		}
		if e == api.OK && out.Steps > 50 {
			t.Fatalf("%q: %d steps", text, out.Steps)
		}
		for i, r := range b.Memory().Regions() {
			may := r.Base == api.CtxBase+16 || r.Base == api.StackBase || r.Base == api.PacketBase || r.Base >= api.MapBase && r.Base < api.CodeBase
			if !may && r != before[i] {
				t.Fatalf("%q changes what lies at %#x", text, r.Base)
			}
		}
	}
	if ends[api.OK] < 40 || len(ends) < 4 {
		t.Errorf("too few kinds of ends: %v", ends)
	}
}
