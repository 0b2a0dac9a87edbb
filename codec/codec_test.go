package codec_test

import (
	"encoding/hex"
	"strings"
	"testing"

	"firewall/api"
	"firewall/codec"
)

func unhex(t *testing.T, s string) string {
	t.Helper()
	b, e := hex.DecodeString(strings.ReplaceAll(s, " ", ""))
	if e != nil {
		t.Fatal(e)
	}
	return string(b)
}

func TestBytes(t *testing.T) {
	for _, p := range []struct {
		x     api.X
		bytes string
	}{
		{api.X{Kind: api.XMov, Wide: true, Dst: api.RAX, Src: api.RBX}, "48 89 D8"},
		{api.X{Kind: api.XMov, Dst: api.R8, Src: api.RAX}, "41 89 C0"},
		{api.X{Kind: api.XMov, Dst: api.RAX, Src: api.R15}, "44 89 F8"},
		{api.X{Kind: api.XTest, Dst: api.RAX, Src: api.RCX}, "85 C8"},
		{api.X{Kind: api.XTest, Wide: true, Dst: api.R9, Src: api.R10}, "4D 85 D1"},
		{api.X{Kind: api.XImul, Wide: true, Dst: api.RAX, Src: api.R9}, "49 0F AF C1"},
		{api.X{Kind: api.XImul, Dst: api.RDX, Src: api.RBX}, "0F AF D3"},
		{api.X{Kind: api.XAlu, Alu: api.AluAdd, Wide: true, Dst: api.RAX, Src: api.RBX}, "48 01 D8"},
		{api.X{Kind: api.XAlu, Alu: api.AluOr, Dst: api.RAX, Src: api.RBX}, "09 D8"},
		{api.X{Kind: api.XAlu, Alu: api.AluAnd, Dst: api.RAX, Src: api.RBX}, "21 D8"},
		{api.X{Kind: api.XAlu, Alu: api.AluSub, Dst: api.RAX, Src: api.RBX}, "29 D8"},
		{api.X{Kind: api.XAlu, Alu: api.AluXor, Dst: api.RAX, Src: api.RBX}, "31 D8"},
		{api.X{Kind: api.XAlu, Alu: api.AluCmp, Dst: api.RAX, Src: api.RBX}, "39 D8"},
		{api.X{Kind: api.XAluImm, Alu: api.AluAdd, Wide: true, Dst: api.RSP, Imm: -8}, "48 81 C4 F8 FF FF FF"},
		{api.X{Kind: api.XAluImm, Alu: api.AluCmp, Dst: api.R13, Imm: 1<<31 - 1}, "41 81 FD FF FF FF 7F"},
		{api.X{Kind: api.XImm, Wide: true, Dst: api.RDI, Imm: -1 << 31}, "48 C7 C7 00 00 00 80"},
		{api.X{Kind: api.XAbs, Wide: true, Dst: api.R11, Imm: -2}, "49 BB FE FF FF FF FF FF FF FF"},
		{api.X{Kind: api.XAbs, Wide: true, Dst: api.RCX, Imm: 1}, "48 B9 01 00 00 00 00 00 00 00"},
		{api.X{Kind: api.XNeg, Wide: true, Dst: api.RAX}, "48 F7 D8"},
		{api.X{Kind: api.XMul, Dst: api.R9}, "41 F7 E1"},
		{api.X{Kind: api.XDiv, Wide: true, Dst: api.R9}, "49 F7 F1"},
		{api.X{Kind: api.XShift, Alu: api.ShiftLeft, Dst: api.RAX, Imm: 31}, "C1 E0 1F"},
		{api.X{Kind: api.XShift, Alu: api.ShiftRight, Wide: true, Dst: api.RAX, Imm: 63}, "48 C1 E8 3F"},
		{api.X{Kind: api.XShift, Alu: api.ShiftArith, Wide: true, Dst: api.R10}, "49 C1 FA 00"},
		{api.X{Kind: api.XShiftCl, Alu: api.ShiftArith, Dst: api.R10}, "41 D3 FA"},
		{api.X{Kind: api.XLoad, Size: 1, Dst: api.RAX, Src: api.RSP, Disp: 4}, "0F B6 84 24 04 00 00 00"},
		{api.X{Kind: api.XLoad, Size: 2, Dst: api.R8, Src: api.RBP, Disp: -1}, "44 0F B7 85 FF FF FF FF"},
		{api.X{Kind: api.XLoad, Size: 4, Dst: api.RSI, Src: api.RSI}, "8B B6 00 00 00 00"},
		{api.X{Kind: api.XLoad, Size: 8, Wide: true, Dst: api.R9, Src: api.R12}, "4D 8B 8C 24 00 00 00 00"},
		{api.X{Kind: api.XStore, Size: 1, Dst: api.RDI, Src: api.RSI}, "40 88 B7 00 00 00 00"},
		{api.X{Kind: api.XStore, Size: 1, Dst: api.R12, Src: api.RAX, Disp: 1}, "41 88 84 24 01 00 00 00"},
		{api.X{Kind: api.XStore, Size: 2, Dst: api.RDI, Src: api.R8}, "66 44 89 87 00 00 00 00"},
		{api.X{Kind: api.XStore, Size: 2, Dst: api.RDI, Src: api.RAX}, "66 89 87 00 00 00 00"},
		{api.X{Kind: api.XStore, Size: 4, Dst: api.RAX, Src: api.RCX, Disp: 256}, "89 88 00 01 00 00"},
		{api.X{Kind: api.XStore, Size: 8, Wide: true, Dst: api.RBP, Src: api.R15, Disp: -8}, "4C 89 BD F8 FF FF FF"},
		{api.X{Kind: api.XJcc, Cond: api.CcE, Short: true, Rel: -2}, "74 FE"},
		{api.X{Kind: api.XJcc, Cond: api.CcG, Rel: -2}, "0F 8F FE FF FF FF"},
		{api.X{Kind: api.XJmp, Rel: 256}, "E9 00 01 00 00"},
		{api.X{Kind: api.XJmp, Short: true, Rel: 127}, "EB 7F"},
		{api.X{Kind: api.XPush, Dst: api.R12}, "41 54"},
		{api.X{Kind: api.XPop, Dst: api.RBX}, "5B"},
		{api.X{Kind: api.XRet}, "C3"},
		{api.X{Kind: api.XCall, Rel: -5}, "E8 FB FF FF FF"},
		{api.X{Kind: api.XFence}, "0F AE E8"},
	} {
		want := unhex(t, p.bytes)
		if !codec.Valid(p.x) {
			t.Errorf("%+v may be", p.x)
		}
		if s, e := codec.Encode(p.x); s != want || e != api.OK {
			t.Errorf("Encode(%+v) = %x, %v, want %s", p.x, s, e, p.bytes)
		}
		for _, around := range [][2]string{{"", ""}, {"", "\xff"}, {"\x0f\x40\x66", "\x00\x00"}} {
			x, n, e := codec.Decode(around[0]+want+around[1], len(around[0]))
			if x != p.x || n != len(want) || e != api.OK {
				t.Errorf("Decode(%s) = %+v, %d, %v", p.bytes, x, n, e)
			}
		}
		for n := range want {
			if x, k, e := codec.Decode(want[:n], 0); e != api.ErrCode || k != 0 || x != (api.X{}) {
				t.Errorf("Decode of %d bytes of %s: %+v", n, p.bytes, x)
			}
		}
	}
}

func TestDecodeRefuses(t *testing.T) {
	for _, s := range []string{
		"", "48 C3", "40 89 D8", "48 8B 00", "40 C3", "66 C3", "66", "40", "48", "0F", "66 48",
		"48 0F B6 80 00 00 00 00", "48 0F B7 80 00 00 00 00", "40 0F B6 80 00 00 00 00", "0F B6 C0",
		"88 B7 00 00 00 00", "66 88 B7 00 00 00 00", "66 40 88 B7 00 00 00 00", "48 88 B7 00 00 00 00", "66 48 89 B7 00 00 00 00", "66 40 89 B7 00 00 00 00", "40 66 89 B7 00 00 00 00", "66 89 D8", "66 8B 80 00 00 00 00", "66 66 89 B7 00 00 00 00",
		"89 07", "89 47 01", "8B 05 00 00 00 00", "8B 84 64 00 00 00 00", "8B 84 25 00 00 00 00", "8B 84 A4 00 00 00 00", "8B C0", "42 8B 80 00 00 00 00", "41 8B 05 00 00 00 00",
		"42 89 D8", "44 81 C0 00 00 00 00", "81 C8", "81 D0 00 00 00 00", "81 D8 00 00 00 00", "81 00 00 00 00 00 00 00 00 00", "11 D8", "19 D8", "03 C3", "01 18",
		"C7 C0 00 00 00 00", "48 C7 C8 00 00 00 00", "C7 80 00 00 00 00 00 00 00 00", "B8 01 00 00 00", "4A B8 00 00 00 00 00 00 00 00",
		"F7 C0", "F7 C8", "F7 D0", "F7 E8", "F7 F8", "F7 18", "C1 E0 20", "48 C1 E0 40", "C1 C0 01", "C1 F0 01", "C1 E0 FF", "D3 C0", "D3 F0", "D1 E0", "D3 20", "44 D3 E0",
		"70 00", "71 00", "78 00", "7A 00", "7B 00", "0F 80 00 00 00 00", "0F 8A 00 00 00 00", "48 74 00", "48 EB 00", "48 E9 00 00 00 00", "48 E8 00 00 00 00", "48 50", "40 50", "42 50", "49 54",
		"0F AE F0", "0F AE 00", "48 0F AE E8", "0F 05", "0F AF 03", "90", "CC", "C2 00 00", "FF", "E0 00", "63 C0", "85 18", "84 C0",
	} {
		if x, n, e := codec.Decode(unhex(t, s), 0); e != api.ErrCode || n != 0 || x != (api.X{}) {
			t.Errorf("Decode(%s) = %+v, %d, %v", s, x, n, e)
		}
	}
	for _, at := range []int{-1, 1, 2, -1 << 63, 1<<63 - 1} {
		if _, _, e := codec.Decode("\xc3", at); e != api.ErrCode {
			t.Errorf("Decode at %d: %v", at, e)
		}
	}
}

// fields tells by letters which fields a kind uses: Wide, Dst, Src, Alu, Imm, siZe, disP, Cond, shOrt, Rel.
var fields = map[int]string{
	api.XMov: "WDS", api.XTest: "WDS", api.XImul: "WDS", api.XAlu: "AWDS", api.XAluImm: "AWDI", api.XImm: "WDI", api.XAbs: "WDI",
	api.XNeg: "WD", api.XMul: "WD", api.XDiv: "WD", api.XShift: "AWDI", api.XShiftCl: "AWD", api.XLoad: "ZWDSP", api.XStore: "ZWDSP",
	api.XJmp: "OR", api.XJcc: "COR", api.XPush: "D", api.XPop: "D", api.XRet: "", api.XCall: "R", api.XFence: "",
}

// mayBe is Valid by the words of the document.
func mayBe(x api.X) bool {
	f, ok := fields[x.Kind]
	no := func(c string) bool { return !strings.Contains(f, c) }
	if !ok || no("W") && x.Wide || no("D") && x.Dst != 0 || no("S") && x.Src != 0 || no("A") && x.Alu != 0 || no("I") && x.Imm != 0 || no("Z") && x.Size != 0 || no("P") && x.Disp != 0 || no("C") && x.Cond != 0 || no("O") && x.Short || no("R") && x.Rel != 0 {
		return false
	}
	if x.Dst < 0 || x.Dst > 15 || x.Src < 0 || x.Src > 15 {
		return false
	}
	switch x.Kind {
	case api.XAlu, api.XAluImm:
		ok = x.Alu == 0 || x.Alu == 1 || x.Alu >= 4 && x.Alu <= 7
	case api.XShift, api.XShiftCl:
		ok = x.Alu == 4 || x.Alu == 5 || x.Alu == 7
	case api.XImm, api.XAbs:
		ok = x.Wide
	case api.XLoad, api.XStore:
		ok = (x.Size == 1 || x.Size == 2 || x.Size == 4) && !x.Wide || x.Size == 8 && x.Wide
	case api.XJcc:
		ok = x.Cond >= 2 && x.Cond <= 7 || x.Cond >= 12 && x.Cond <= 15
	}
	switch x.Kind {
	case api.XAluImm, api.XImm:
		ok = ok && x.Imm >= -1<<31 && x.Imm < 1<<31
	case api.XShift:
		ok = ok && x.Imm >= 0 && (x.Imm <= 31 || x.Wide && x.Imm <= 63)
	case api.XJmp, api.XJcc:
		ok = ok && (!x.Short || x.Rel >= -128 && x.Rel <= 127)
	}
	return ok
}

func TestAllInstructions(t *testing.T) {
	seed := uint64(1)
	next := func(n int) int {
		seed = seed*6364136223846793005 + 1442695040888963407
		return int(seed>>33) % n
	}
	pick := func(l ...int64) int64 { return l[next(len(l))] }
	written := map[string]api.X{}
	good := map[int]int{}
	for range 400000 {
		x := api.X{Kind: next(24) - 1}
		f := fields[x.Kind]
		is := func(c string) bool { return strings.Contains(f, c) || next(40) == 0 }
		if is("W") {
			x.Wide = next(2) == 0
		}
		if is("D") {
			x.Dst = next(18) - 1
		}
		if is("S") {
			x.Src = next(18) - 1
		}
		if is("A") {
			x.Alu = next(10) - 1
		}
		if is("I") {
			x.Imm = pick(0, 1, 5, 31, 32, 63, 64, -1, 127, 128, 1<<31-1, 1<<31, -1<<31, -1<<31-1, 1<<63-1, -1<<63)
		}
		if is("Z") {
			x.Size = int(pick(0, 1, 2, 3, 4, 8, 16))
		}
		if is("P") {
			x.Disp = int32(pick(0, 1, -1, 127, -128, 1<<31-1, -1<<31))
		}
		if is("C") {
			x.Cond = next(18) - 1
		}
		if is("O") {
			x.Short = next(2) == 0
		}
		if is("R") {
			x.Rel = int32(pick(0, 1, -1, 127, 128, -128, -129, 1<<31-1, -1<<31))
		}
		want := mayBe(x)
		if codec.Valid(x) != want {
			t.Fatalf("Valid(%+v) = %v", x, !want)
		}
		s, e := codec.Encode(x)
		if !want {
			if s != "" || e != api.ErrArg {
				t.Fatalf("Encode(%+v) = %x, %v", x, s, e)
			}
			continue
		}
		good[x.Kind]++
		if len(s) < 1 || len(s) > 10 || e != api.OK {
			t.Fatalf("Encode(%+v) = %x, %v", x, s, e)
		}
		if y, ok := written[s]; ok && y != x {
			t.Fatalf("%x is %+v and %+v", s, x, y)
		}
		written[s] = x
		if y, n, e := codec.Decode(s+"\xe8\x0f", 0); y != x || n != len(s) || e != api.OK {
			t.Fatalf("Decode(%x) = %+v, %d, %v, want %+v", s, y, n, e, x)
		}
	}
	for kind := range fields {
		if good[kind] == 0 {
			t.Errorf("of the kind %d none was looked at", kind)
		}
	}
}

// TestAnyBytes: what is decoded is encoded to the bytes that stood there.
func TestAnyBytes(t *testing.T) {
	seed := uint64(4)
	starts := []byte{0x40, 0x41, 0x48, 0x4d, 0x66, 0x0f, 0x89, 0x88, 0x8b, 0x81, 0xf7, 0xc1, 0xd3, 0xc7, 0x70, 0x01}
	found := 0
	for i := range 300000 {
		var b [12]byte
		for k := range b {
			seed = seed*6364136223846793005 + 1442695040888963407
			b[k] = byte(seed >> 40)
		}
		for k := range i % 4 {
			b[k] = starts[(i/4+k*7)%len(starts)]
		}
		x, n, e := codec.Decode(string(b[:]), 0)
		if e != api.OK {
			continue
		}
		found++
		if s, e := codec.Encode(x); e != api.OK || s != string(b[:n]) {
			t.Fatalf("%x is decoded as %+v, and encoded as %x", b, x, s)
		}
	}
	if found < 1000 {
		t.Errorf("only %d were instructions", found)
	}
}
