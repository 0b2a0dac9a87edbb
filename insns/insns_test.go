package insns_test

import (
	"testing"

	"firewall/api"
	"firewall/insns"
)

// want is what the document says of an opcode: the fields that it uses (d, s, o, i), whether it writes Dst (w), whether its Imm moves (m) or divides (v), whether it is inside alone (n).
func want() map[uint8]string {
	w := map[uint8]string{api.LdImm: "dsiw", api.Nospec: "n", api.ClJmp: "o", api.Call: "i", api.Exit: ""}
	for op := 0; op <= api.OpArsh; op += 0x10 {
		for _, class := range []int{api.ClAlu, api.ClAlu64} {
			o := uint8(op + class)
			w[o], w[o+api.FromReg] = "diw", "dsw"
			switch op {
			case api.OpNeg:
				w[o] = "dw"
				delete(w, o+api.FromReg)
			case api.OpLsh, api.OpRsh, api.OpArsh:
				w[o] = "diwm"
			case api.OpDiv, api.OpMod:
				w[o] = "diwv"
			}
		}
	}
	for _, c := range []int{api.JmpEq, api.JmpGt, api.JmpGe, api.JmpSet, api.JmpNe, api.JmpSgt, api.JmpSge, api.JmpLt, api.JmpLe, api.JmpSlt, api.JmpSle} {
		for _, class := range []int{api.ClJmp, api.ClJmp32} {
			w[uint8(c+class)], w[uint8(c+class+api.FromReg)] = "doi", "dso"
		}
	}
	for _, op := range []uint8{api.LdxB, api.LdxH, api.LdxW, api.LdxD} {
		w[op] = "dsow"
	}
	for _, op := range []uint8{api.StB, api.StH, api.StW, api.StD} {
		w[op] = "doi"
	}
	for _, op := range []uint8{api.StxB, api.StxH, api.StxW, api.StxD} {
		w[op] = "dso"
	}
	return w
}

func has(s string, c byte) bool {
	for i := range len(s) {
		if s[i] == c {
			return true
		}
	}
	return false
}

// told is Check by the words of the document.
func told(w map[uint8]string, i api.Insn, inner bool) api.Errno {
	u, ok := w[i.Op]
	if !ok || has(u, 'n') && !inner {
		return api.ErrOp
	}
	if i.Dst > 10 || i.Src > 10 || i.Dst == 10 && has(u, 'w') {
		return api.ErrReg
	}
	if !has(u, 'd') && i.Dst != 0 || !has(u, 's') && i.Src != 0 || !has(u, 'o') && i.Off != 0 || !has(u, 'i') && i.Imm != 0 {
		return api.ErrField
	}
	if i.Op == api.LdImm && i.Src > 1 {
		return api.ErrField
	}
	most := int32(63)
	if i.Op&7 == api.ClAlu {
		most = 31
	}
	if has(u, 'm') && (i.Imm < 0 || i.Imm > most) || has(u, 'v') && i.Imm == 0 {
		return api.ErrImm
	}
	return api.OK
}

func TestCheckOfAllOpcodes(t *testing.T) {
	w := want()
	if len(w) != 2*25+2*22+3+1+12+1 {
		t.Fatalf("the table has %d opcodes", len(w))
	}
	for op := range 256 {
		for _, dst := range []uint8{0, 1, 9, 10, 11, 16, 255} {
			for _, src := range []uint8{0, 1, 2, 10, 11, 255} {
				for _, off := range []int16{0, 1, -1} {
					for _, imm := range []int32{0, 1, -1, 31, 32, 63, 64, -1 << 31} {
						i := api.Insn{Op: uint8(op), Dst: dst, Src: src, Off: off, Imm: imm}
						for _, inner := range []bool{false, true} {
							if e, f := insns.Check(i, inner), told(w, i, inner); e != f {
								t.Fatalf("Check(%v, %v) = %v, want %v", i, inner, e, f)
							}
						}
						if insns.Check(i, false) == api.OK && insns.Check(i, true) != api.OK {
							t.Fatalf("%v is let through outside alone", i)
						}
					}
				}
			}
		}
	}
}

func TestCheckExamples(t *testing.T) {
	for _, x := range []struct {
		i     api.Insn
		inner bool
		e     api.Errno
	}{
		{api.Insn{Op: api.ClAlu64 | api.OpAdd, Dst: 1, Imm: 5}, false, api.OK},
		{api.Insn{Op: api.ClAlu64 | api.OpAdd | api.FromReg, Dst: 1, Src: 2}, false, api.OK},
		{api.Insn{Op: api.ClAlu | api.OpLsh, Dst: 1, Imm: 32}, false, api.ErrImm},
		{api.Insn{Op: api.ClAlu64 | api.OpLsh, Dst: 1, Imm: 32}, false, api.OK},
		{api.Insn{Op: api.ClAlu64 | api.OpAdd, Dst: 10, Imm: 5}, false, api.ErrReg},
		{api.Insn{Op: api.ClAlu64 | api.OpAdd, Dst: 1, Off: 1, Imm: 5}, false, api.ErrField},
		{api.Insn{Op: api.StxD, Dst: 10, Src: 1, Off: -8}, false, api.OK},
		{api.Insn{Op: api.LdxD, Dst: 10, Src: 1}, false, api.ErrReg},
		{api.Insn{Op: api.Nospec}, true, api.OK},
		{api.Insn{Op: api.Nospec}, false, api.ErrOp},
		{api.Insn{Op: api.ClAlu64 | api.OpNeg | api.FromReg, Dst: 1}, false, api.ErrOp},
		{api.Insn{Op: api.ClAlu64 | api.OpDiv, Dst: 11}, false, api.ErrReg},
		{api.Insn{Op: api.ClAlu64 | api.OpDiv, Dst: 1, Off: 1}, false, api.ErrField},
		{api.Insn{Op: api.LdImm, Dst: 1, Src: 2, Imm: 1}, false, api.ErrField},
	} {
		if e := insns.Check(x.i, x.inner); e != x.e {
			t.Errorf("Check(%v, %v) = %v, want %v", x.i, x.inner, e, x.e)
		}
	}
}

func TestBytes(t *testing.T) {
	for s, i := range map[string]api.Insn{
		"\x7b\x1a\xf8\xff\x00\x00\x00\x00": {Op: api.StxD, Dst: 10, Src: 1, Off: -8},
		"\xff\xf0\x00\x80\x00\x00\x00\x80": {Op: 255, Src: 15, Off: -1 << 15, Imm: -1 << 31},
		"\x07\x01\x00\x00\xfb\xff\xff\xff": {Op: api.ClAlu64, Dst: 1, Imm: -5},
		"\x00\x0f\x34\x12\x04\x03\x02\x01": {Dst: 15, Off: 0x1234, Imm: 0x01020304},
	} {
		if b := insns.Encode(i); b != s {
			t.Errorf("Encode(%v) = %x", i, b)
		}
		if j, e := insns.Decode(s); j != i || e != api.OK {
			t.Errorf("Decode(%x) = %v, %v", s, j, e)
		}
	}
	if b := insns.Encode(api.Insn{Dst: 18, Src: 33}); b != "\x00\x12\x00\x00\x00\x00\x00\x00" {
		t.Errorf("registers are not taken modulo 16: %x", b)
	}
	for _, s := range []string{"", "1234567", "123456789", "1234567812345678"} {
		if i, e := insns.Decode(s); e != api.ErrForm || i != (api.Insn{}) {
			t.Errorf("Decode of %d bytes: %v, %v", len(s), i, e)
		}
	}
}

func TestBytesThereAndBack(t *testing.T) {
	seed := uint64(1)
	for range 2000 {
		seed = seed*6364136223846793005 + 1442695040888963407
		s := make([]byte, 8)
		for k := range s {
			s[k] = byte(seed >> (7 * k))
		}
		i, e := insns.Decode(string(s))
		if e != api.OK || insns.Encode(i) != string(s) {
			t.Fatalf("%x: %v, %v", s, i, e)
		}
	}
}

func TestSize(t *testing.T) {
	of := map[uint8]int{api.LdxB: 1, api.LdxH: 2, api.LdxW: 4, api.LdxD: 8, api.StB: 1, api.StH: 2, api.StW: 4, api.StD: 8, api.StxB: 1, api.StxH: 2, api.StxW: 4, api.StxD: 8}
	for op := range 256 {
		if n := insns.Size(uint8(op)); n != of[uint8(op)] {
			t.Errorf("Size(%#x) = %d", op, n)
		}
	}
}
