package lines

import (
	"strings"

	"firewall/api"
)

// Read is a text's program; line: the one that is wrong, from 1 on.
func Read(s string) (l []api.Insn, line int, e api.Errno) {
	if len(s) > api.MaxText {
		return nil, 0, api.ErrLong
	}
	defer func() {
		if recover() != nil {
			l, e = nil, api.ErrForm
		}
	}()
	for _, text := range split(s) {
		line++
		slots := slotsOf(wordsOf(text))
		if len(l)+len(slots) > api.MaxInsns {
			return nil, line, api.ErrLong
		}
		l = append(l, slots...)
	}
	return l, 0, api.OK
}

// places is what stands behind a line's first word.
type places []any

// slotsOf is what a line's words say.
func slotsOf(words []string) []api.Insn {
	if len(words) == 0 {
		return nil
	}
	var p places
	for _, w := range words[1:] {
		p = append(p, meaning(w))
	}
	switch words[0] {
	case "ldimm":
		return p.longNumber()
	case "ldmap":
		p.count(2)
		return []api.Insn{{Op: api.LdImm, Dst: p.reg(0), Src: api.MapRef, Imm: p.value(1)}, {}}
	}
	return []api.Insn{p.insn(words[0])}
}

func (p places) insn(first string) api.Insn {
	switch first {
	case "ja":
		p.count(1)
		return api.Insn{Op: api.ClJmp | api.JmpAlways, Off: p.offset(0)}
	case "call":
		p.count(1)
		return api.Insn{Op: api.Call, Imm: p.value(0)}
	case "exit":
		p.count(0)
		return api.Insn{Op: api.Exit}
	case "nospec":
		p.count(0)
		return api.Insn{Op: api.Nospec}
	case "raw":
		p.count(5)
		return api.Insn{Op: p.octet(0), Dst: p.octet(1), Src: p.octet(2), Off: p.offset(3), Imm: p.value(4)}
	}
	if base, wide, ok := widthOf(first); ok {
		for k, name := range arithmetic {
			if name == base {
				return p.alu(uint8(k*opStep), wide)
			}
		}
		for k, name := range conditions {
			if name == base {
				return p.condition(uint8(k*opStep), wide)
			}
		}
	}
	return p.access(first)
}

// widthOf parts a name from the 64 or 32 behind it.
func widthOf(first string) (base string, wide, ok bool) {
	base, wide = strings.CutSuffix(first, "64")
	if !wide {
		base, ok = strings.CutSuffix(first, "32")
	}
	return base, wide, (wide || ok) && base != ""
}

func (p places) alu(op uint8, wide bool) api.Insn {
	op |= api.ClAlu
	if wide {
		op |= api.ClAlu64
	}
	if op&opBits == api.OpNeg {
		p.count(1)
		return api.Insn{Op: op, Dst: p.reg(0)}
	}
	p.count(2)
	return p.sourced(api.Insn{Op: op, Dst: p.reg(0)})
}

func (p places) condition(op uint8, wide bool) api.Insn {
	if wide {
		op |= api.ClJmp
	} else {
		op |= api.ClJmp32
	}
	p.count(3)
	return p.sourced(api.Insn{Op: op, Dst: p.reg(0), Off: p.offset(2)})
}

// sourced is an instruction with the register, or the value, that stands behind Dst.
func (p places) sourced(in api.Insn) api.Insn {
	if r, ok := p[1].(register); ok {
		in.Op |= api.FromReg
		in.Src = uint8(r)
		return in
	}
	in.Imm = p.value(1)
	return in
}

// access is a load, or a store.
func (p places) access(first string) api.Insn {
	p.count(3)
	switch op, base := sizeOf(first); base {
	case "ldx":
		return api.Insn{Op: op | api.ClLdx, Dst: p.reg(0), Src: p.reg(1), Off: p.offset(2)}
	case "st":
		return api.Insn{Op: op | api.ClSt, Dst: p.reg(0), Off: p.offset(1), Imm: p.value(2)}
	case "stx":
		return api.Insn{Op: op | api.ClStx, Dst: p.reg(0), Off: p.offset(1), Src: p.reg(2)}
	}
	panic(notLine{})
}

// sizeOf parts a name from the number of bytes behind it, as opcodes have that.
func sizeOf(first string) (op uint8, base string) {
	last := len(first) - 1
	switch first[last] {
	case '1':
		return memByte, first[:last]
	case '2':
		return memHalf, first[:last]
	case '4':
		return memWord, first[:last]
	case '8':
		return memFull, first[:last]
	}
	return 0, ""
}

func (p places) longNumber() []api.Insn {
	p.count(2)
	v := p.figure(1, 0, 1<<64-1)
	return []api.Insn{{Op: api.LdImm, Dst: p.reg(0), Imm: int32(v)}, {Imm: int32(v >> halfBits)}}
}

func (p places) count(n int) {
	if len(p) != n {
		panic(notLine{})
	}
}

func (p places) reg(i int) uint8 { return uint8(p[i].(register)) }

func (p places) figure(i int, lo int64, hi uint64) uint64 { return p[i].(figure).from(lo, hi) }

func (p places) octet(i int) uint8 { return uint8(p.figure(i, 0, 1<<8-1)) }

func (p places) offset(i int) int16 { return int16(p.figure(i, -1<<15, 1<<15-1)) }

func (p places) value(i int) int32 { return int32(p.figure(i, -1<<31, 1<<31-1)) }
