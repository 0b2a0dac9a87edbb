package lines

import (
	"strconv"

	"firewall/api"
	"firewall/insns"
)

// Show is a program as a text.
func Show(l []api.Insn) string {
	var text []byte
	for i := 0; i < len(l); {
		line, slots := lineAt(l, i)
		text = append(append(text, line...), '\n')
		i += slots
	}
	return string(text)
}

// lineAt is the line of the slot i, and of how many slots it is.
func lineAt(l []api.Insn, i int) (string, int) {
	in := l[i]
	if insns.Check(in, true) != api.OK {
		return rawLine(in), 1
	}
	if in.Op != api.LdImm {
		return insnLine(in), 1
	}
	if i+1 == len(l) || !secondHalf(l[i+1], in.Src == api.MapRef) {
		return rawLine(in), 1
	}
	if in.Src == api.MapRef {
		return "ldmap " + reg(in.Dst) + " " + number(int64(in.Imm)), 2
	}
	long := uint64(uint32(l[i+1].Imm))<<halfBits | uint64(uint32(in.Imm))
	return "ldimm " + reg(in.Dst) + " " + strconv.FormatUint(long, 10), 2
}

func secondHalf(in api.Insn, ofMap bool) bool {
	return in.Op == 0 && in.Dst == 0 && in.Src == 0 && in.Off == 0 && !(ofMap && in.Imm != 0)
}

func insnLine(in api.Insn) string {
	switch in.Op & classBits {
	case api.ClAlu, api.ClAlu64:
		return aluLine(in)
	case api.ClJmp, api.ClJmp32:
		return jumpLine(in)
	case api.ClLdx:
		return "ldx" + size(in) + " " + reg(in.Dst) + " " + reg(in.Src) + " " + number(int64(in.Off))
	case api.ClStx:
		return "stx" + size(in) + " " + reg(in.Dst) + " " + number(int64(in.Off)) + " " + reg(in.Src)
	}
	if in.Op == api.Nospec {
		return "nospec"
	}
	return "st" + size(in) + " " + reg(in.Dst) + " " + number(int64(in.Off)) + " " + number(int64(in.Imm))
}

func aluLine(in api.Insn) string {
	line := arithmetic[in.Op/opStep] + width(in.Op&classBits == api.ClAlu64) + " " + reg(in.Dst)
	if in.Op&opBits == api.OpNeg {
		return line
	}
	return line + " " + source(in)
}

func jumpLine(in api.Insn) string {
	switch in.Op {
	case api.ClJmp | api.JmpAlways:
		return "ja " + jumpOffset(in.Off)
	case api.Call:
		return "call " + number(int64(in.Imm))
	case api.Exit:
		return "exit"
	}
	wide := in.Op&classBits == api.ClJmp
	return conditions[in.Op/opStep] + width(wide) + " " + reg(in.Dst) + " " + source(in) + " " + jumpOffset(in.Off)
}

func rawLine(in api.Insn) string {
	line := "raw"
	for _, v := range [5]int64{int64(in.Op), int64(in.Dst), int64(in.Src), int64(in.Off), int64(in.Imm)} {
		line += " " + number(v)
	}
	return line
}

func source(in api.Insn) string {
	if in.Op&api.FromReg != 0 {
		return reg(in.Src)
	}
	return number(int64(in.Imm))
}

func width(wide bool) string {
	if wide {
		return "64"
	}
	return "32"
}

func size(in api.Insn) string { return number(int64(insns.Size(in.Op))) }

func reg(r uint8) string { return "r" + number(int64(r)) }

func number(v int64) string { return strconv.FormatInt(v, 10) }

func jumpOffset(off int16) string {
	if off < 0 {
		return number(int64(off))
	}
	return "+" + number(int64(off))
}
