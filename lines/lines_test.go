package lines_test

import (
	"slices"
	"strings"
	"testing"

	"firewall/api"
	"firewall/insns"
	"firewall/lines"
)

type both struct {
	line string
	l    []api.Insn
}

func one(op, dst, src uint8, off int16, imm int32) []api.Insn {
	return []api.Insn{{Op: op, Dst: dst, Src: src, Off: off, Imm: imm}}
}

// pairs are slots, and the line that Show tells of them.
func pairs() []both {
	l := []both{
		{"add64 r1 r2", one(api.ClAlu64|api.OpAdd|api.FromReg, 1, 2, 0, 0)},
		{"mov32 r1 -5", one(api.ClAlu|api.OpMov, 1, 0, 0, -5)},
		{"neg64 r3", one(api.ClAlu64|api.OpNeg, 3, 0, 0, 0)},
		{"neg32 r9", one(api.ClAlu|api.OpNeg, 9, 0, 0, 0)},
		{"jslt32 r1 7 +3", one(api.ClJmp32|api.JmpSlt, 1, 0, 3, 7)},
		{"jeq64 r10 r0 +0", one(api.ClJmp|api.JmpEq|api.FromReg, 10, 0, 0, 0)},
		{"ja -2", one(api.ClJmp, 0, 0, -2, 0)},
		{"ja +32767", one(api.ClJmp, 0, 0, 32767, 0)},
		{"call 7", one(api.Call, 0, 0, 0, 7)},
		{"call -1", one(api.Call, 0, 0, 0, -1)},
		{"exit", one(api.Exit, 0, 0, 0, 0)},
		{"nospec", one(api.Nospec, 0, 0, 0, 0)},
		{"ldx1 r1 r2 -32768", one(api.LdxB, 1, 2, -32768, 0)},
		{"ldx2 r1 r2 4", one(api.LdxH, 1, 2, 4, 0)},
		{"ldx4 r1 r10 0", one(api.LdxW, 1, 10, 0, 0)},
		{"ldx8 r0 r0 1", one(api.LdxD, 0, 0, 1, 0)},
		{"st1 r1 0 2147483647", one(api.StB, 1, 0, 0, 1<<31-1)},
		{"st2 r1 0 -2147483648", one(api.StH, 1, 0, 0, -1<<31)},
		{"st4 r1 1 0", one(api.StW, 1, 0, 1, 0)},
		{"st8 r10 -8 5", one(api.StD, 10, 0, -8, 5)},
		{"stx1 r1 0 r2", one(api.StxB, 1, 2, 0, 0)},
		{"stx2 r1 2 r2", one(api.StxH, 1, 2, 2, 0)},
		{"stx4 r1 3 r2", one(api.StxW, 1, 2, 3, 0)},
		{"stx8 r10 -8 r10", one(api.StxD, 10, 10, -8, 0)},
		{"ldimm r1 8589934591", []api.Insn{{Op: api.LdImm, Dst: 1, Imm: -1}, {Imm: 1}}},
		{"ldimm r9 18446744073709551615", []api.Insn{{Op: api.LdImm, Dst: 9, Imm: -1}, {Imm: -1}}},
		{"ldimm r0 0", []api.Insn{{Op: api.LdImm}, {}}},
		{"ldmap r1 3", []api.Insn{{Op: api.LdImm, Dst: 1, Src: 1, Imm: 3}, {}}},
		{"ldmap r1 -3", []api.Insn{{Op: api.LdImm, Dst: 1, Src: 1, Imm: -3}, {}}},
		{"raw 24 1 0 0 -1", one(api.LdImm, 1, 0, 0, -1)},
		{"raw 255 255 255 -32768 -2147483648", one(255, 255, 255, -32768, -1<<31)},
		{"raw 7 10 0 0 5", one(api.ClAlu64, 10, 0, 0, 5)},
		{"raw 7 1 0 1 5", one(api.ClAlu64, 1, 0, 1, 5)},
		{"raw 100 1 0 0 32", one(api.ClAlu|api.OpLsh, 1, 0, 0, 32)},
		{"raw 0 0 0 0 0", one(0, 0, 0, 0, 0)},
		{"raw 6 0 0 3 0", one(api.ClJmp32, 0, 0, 3, 0)},
	}
	for k, name := range []string{"add", "sub", "mul", "div", "or", "and", "lsh", "rsh", "", "mod", "xor", "mov", "arsh"} {
		if name != "" {
			l = append(l, both{name + "32 r8 r1", one(uint8(k<<4|api.ClAlu|api.FromReg), 8, 1, 0, 0)}, both{name + "64 r0 31", one(uint8(k<<4|api.ClAlu64), 0, 0, 0, 31)})
		}
	}
	for k, name := range []string{"", "jeq", "jgt", "jge", "jset", "jne", "jsgt", "jsge", "", "", "jlt", "jle", "jslt", "jsle"} {
		if name != "" {
			l = append(l, both{name + "32 r8 r1 -1", one(uint8(k<<4|api.ClJmp32|api.FromReg), 8, 1, -1, 0)}, both{name + "64 r0 -1 +9", one(uint8(k<<4|api.ClJmp), 0, 0, 9, -1)})
		}
	}
	return l
}

func TestLines(t *testing.T) {
	for _, p := range pairs() {
		if s := lines.Show(p.l); s != p.line+"\n" {
			t.Errorf("Show(%v) = %q, want %q", p.l, s, p.line)
		}
		if l, line, e := lines.Read(p.line); !slices.Equal(l, p.l) || line != 0 || e != api.OK {
			t.Errorf("Read(%q) = %v, %d, %v", p.line, l, line, e)
		}
	}
}

func TestShowOfHalves(t *testing.T) {
	for _, x := range []struct {
		l    []api.Insn
		want string
	}{
		{nil, ""},
		{[]api.Insn{{Op: api.LdImm, Dst: 1, Imm: 5}, {Off: 1}}, "raw 24 1 0 0 5\nraw 0 0 0 1 0\n"},
		{[]api.Insn{{Op: api.LdImm, Dst: 1, Imm: 5}, {Dst: 1}}, "raw 24 1 0 0 5\nraw 0 1 0 0 0\n"},
		{[]api.Insn{{Op: api.LdImm, Dst: 1, Imm: 5}, {Src: 1}}, "raw 24 1 0 0 5\nraw 0 0 1 0 0\n"},
		{[]api.Insn{{Op: api.LdImm, Dst: 1, Imm: 5}, {Op: api.Exit}}, "raw 24 1 0 0 5\nexit\n"},
		{[]api.Insn{{Op: api.LdImm, Dst: 1, Src: 1}, {Imm: 1}}, "raw 24 1 1 0 0\nraw 0 0 0 0 1\n"},
		{[]api.Insn{{Op: api.LdImm, Dst: 10}, {Imm: 1}}, "raw 24 10 0 0 0\nraw 0 0 0 0 1\n"},
		{[]api.Insn{{Op: api.LdImm, Src: 2}, {}}, "raw 24 0 2 0 0\nraw 0 0 0 0 0\n"},
		{[]api.Insn{{Op: api.LdImm}, {Op: api.LdImm}, {}, {Op: api.Exit}}, "raw 24 0 0 0 0\nldimm r0 0\nexit\n"},
		{[]api.Insn{{Op: api.LdImm}, {}, {}}, "ldimm r0 0\nraw 0 0 0 0 0\n"},
	} {
		if s := lines.Show(x.l); s != x.want {
			t.Errorf("Show(%v) = %q, want %q", x.l, s, x.want)
		}
	}
}

func TestReadForms(t *testing.T) {
	exit := api.Insn{Op: api.Exit}
	ja := api.Insn{Op: api.ClJmp, Off: -2}
	for s, want := range map[string][]api.Insn{
		"":                         nil,
		"\n\n":                     nil,
		"; a\nja \u22122":          {ja},
		"exit; the end":            {exit},
		"exit;":                    {exit},
		" \t\r\u00a0\u2003exit\r":  {exit},
		"exit\r\n\r\nexit\n":       {exit, exit},
		"ja\u2003-2\t;x;y":         {ja},
		"ja\u00a0-0002":            {ja},
		"ja +5":                    {{Op: api.ClJmp, Off: 5}},
		"ja 5":                     {{Op: api.ClJmp, Off: 5}},
		"ja -0":                    {{Op: api.ClJmp}},
		"raw -0 +255 \u22120 0 +7": {{Dst: 255, Imm: 7}},
		"mov64 r10 5":              {{Op: api.ClAlu64 | api.OpMov, Dst: 10, Imm: 5}},
		"lsh32 r1 99":              {{Op: api.ClAlu | api.OpLsh, Dst: 1, Imm: 99}},
		"div64 r1 0":               {{Op: api.ClAlu64 | api.OpDiv, Dst: 1}},
		"ldimm r10 00000000000000000000000000018446744073709551615": {{Op: api.LdImm, Dst: 10, Imm: -1}, {Imm: -1}},
		"ldimm r1 4294967296": {{Op: api.LdImm, Dst: 1}, {Imm: 1}},
		"mov64 r1 2147483647": {{Op: api.ClAlu64 | api.OpMov, Dst: 1, Imm: 1<<31 - 1}},
		"ja -32768":           {{Op: api.ClJmp, Off: -1 << 15}},
	} {
		if l, line, e := lines.Read(s); !slices.Equal(l, want) || line != 0 || e != api.OK {
			t.Errorf("Read(%q) = %v, %d, %v", s, l, line, e)
		}
	}
}

func TestReadRefuses(t *testing.T) {
	for _, s := range []string{
		"exit r1", "exit 1", "nospec 1", "ja", "ja +1 2", "ja r1", "ja x", "ja +", "ja -", "ja +-1", "ja 1-", "ja 32768", "ja -32769", "ja 0x10", "ja ١",
		"call", "call r1", "call 2147483648", "call -2147483649", "call 99999999999999999999999",
		"add64 r1", "add64 r1 r2 r3", "add64 r1 r11", "add64 r1 r01", "add64 r1 r", "add64 r1 R2", "add64 5 r1", "add r1 r2", "add16 r1 r2", "ADD64 r1 r2", "add 64 r1 r2", "64 r1 r2", "32 r1 r2 +1",
		"neg64 r1 r2", "neg64 r1 0", "neg64", "neg64 1", "mov64 r1 2147483648", "mov64 r1 x", "add64 r+1 1", "add64 r1 +-5", "add64 r-0 5",
		"jeq64 r1 r2", "jeq64 r1 r2 r3", "jeq64 5 r2 +1", "jeq64 r1 r2 +1 +2", "jeq r1 r2 +1", "call64 r1 r2 +1", "ja64 r1 r2 +1", "exit64 r1 r1 +1",
		"ldx r1 r2 0", "ldx3 r1 r2 0", "ldx8 r1 r2", "ldx8 r1 r2 r3", "ldx8 r1 2 0", "ldx8 r1 r2 32768", "ldx16 r1 r2 0", "ldx8 r1 r2 0 0",
		"st8 r1 0 r2", "st8 r1 0", "st8 1 0 2", "st8 r1 r1 2", "stx8 r1 0 5", "stx8 r1 r2 0", "stx r1 0 r2", "stx8 r1 0 r2 5",
		"ldimm r1", "ldimm r1 -1", "ldimm r1 18446744073709551616", "ldimm r1 r2", "ldimm 1 1", "ldimm r1 1 1", "ldmap r1", "ldmap r1 r2", "ldmap r1 2147483648", "ldmap r1 0 0", "ldimm64 r1 1",
		"raw", "raw 1 2 3 4", "raw 1 2 3 4 5 6", "raw 256 0 0 0 0", "raw 0 256 0 0 0", "raw 0 0 256 0 0", "raw -1 0 0 0 0", "raw 0 0 0 32768 0", "raw 0 0 0 0 2147483648", "raw r0 0 0 0 0",
		"what", "r1", "5", "\ufeffexit", "exit\u2002", "exit\x0b", "exit \xff", "exit ; \xff", "; \xe2\x80", "\xc3", "e;xit",
	} {
		for n, text := range []string{s, "exit\n" + s + "\nexit", "\n;\n" + s + "\nwhat"} {
			if l, line, e := lines.Read(text); l != nil || line != n+1 || e != api.ErrForm {
				t.Errorf("Read(%q) = %v, %d, %v", text, l, line, e)
			}
		}
	}
}

func TestReadOfTooMuch(t *testing.T) {
	exits := func(n int) string { return strings.Repeat("exit\n", n) }
	for _, x := range []struct {
		s    string
		n    int
		line int
		e    api.Errno
	}{
		{exits(64), 64, 0, api.OK},
		{exits(64) + ";\n\n", 64, 0, api.OK},
		{exits(65), 0, 65, api.ErrLong},
		{exits(64) + "\nexit\nwhat", 0, 66, api.ErrLong},
		{exits(64) + "what\nexit", 0, 65, api.ErrForm},
		{exits(62) + "ldimm r0 1", 64, 0, api.OK},
		{exits(63) + "ldimm r0 1\nwhat", 0, 64, api.ErrLong},
		{exits(63) + "ldmap r0 1", 0, 64, api.ErrLong},
		{exits(3) + "\xff", 0, 4, api.ErrForm},
		{strings.Repeat(" ", 4000), 0, 0, api.OK},
		{strings.Repeat(" ", 4001), 0, 0, api.ErrLong},
		{strings.Repeat("what\n", 900), 0, 0, api.ErrLong},
		{strings.Repeat("\xff", 4001), 0, 0, api.ErrLong},
		{";" + strings.Repeat("\xff", 3999), 0, 1, api.ErrForm},
		{"exit;" + strings.Repeat("x", 3995), 1, 0, api.OK},
	} {
		if l, line, e := lines.Read(x.s); len(l) != x.n || line != x.line || e != x.e {
			t.Errorf("Read(%.20q.., %d bytes) = %d slots, %d, %v", x.s, len(x.s), len(l), line, e)
		}
	}
}

// next is a row of numbers of all kinds.
func next(seed *uint64) uint64 {
	*seed = *seed*6364136223846793005 + 1442695040888963407
	return *seed >> 33
}

func anyInsn(seed *uint64) api.Insn {
	for {
		in := api.Insn{Op: uint8(next(seed)), Dst: uint8(next(seed) % 12), Src: uint8(next(seed) % 12), Off: int16(next(seed) % 9), Imm: int32(next(seed))}
		switch next(seed) % 4 {
		case 0:
			return in
		case 1:
			return api.Insn{Op: api.LdImm, Src: uint8(next(seed) % 2), Imm: int32(next(seed))}
		case 2:
			return api.Insn{Imm: int32(next(seed) % 2)}
		}
		in.Src, in.Off = 0, 0
		if insns.Check(in, true) == api.OK {
			return in
		}
	}
}

func TestShownIsRead(t *testing.T) {
	seed := uint64(7)
	for n := range 400 {
		l := make([]api.Insn, n%65)
		for i := range l {
			l[i] = anyInsn(&seed)
		}
		s := lines.Show(l)
		r, line, e := lines.Read(s)
		if !slices.Equal(r, l) || line != 0 || e != api.OK {
			t.Fatalf("%v is shown as %q, and read as %v, %d, %v", l, s, r, line, e)
		}
		spread := ";\n" + strings.ReplaceAll(strings.ReplaceAll(s, " ", " \u2003"), "\n", "\t; no\n")
		if len(spread) > api.MaxText {
			continue
		}
		if r, _, e := lines.Read(spread); !slices.Equal(r, l) || e != api.OK {
			t.Fatalf("blanks and comments make a difference: %q", spread)
		}
	}
}
