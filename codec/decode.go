package codec

import (
	"strings"

	"firewall/api"
	"firewall/nums"
)

// reader takes bytes off a text; behind its end all are 0.
type reader struct {
	s  string
	at int
}

func (r *reader) peek() byte {
	if r.at < len(r.s) {
		return r.s[r.at]
	}
	return 0
}

func (r *reader) take() byte {
	b := r.peek()
	r.at++
	return b
}

// signed takes a number of n bytes, its sign told on.
func (r *reader) signed(n int) int64 {
	var b []byte
	for range n {
		b = append(b, r.take())
	}
	return int64(nums.Sign(nums.Num(string(b)), n*8))
}

// Decode is the machine instruction whose bytes stand at a place, and how many these are.
func Decode(s string, at int) (api.X, int, api.Errno) {
	if at < 0 || at >= len(s) {
		return api.X{}, 0, api.ErrCode
	}
	// What is read loosely is no instruction, unless it is written just as it stood there.
	x := readLoosely(&reader{s: s, at: at})
	bytes, e := Encode(x)
	if e != api.OK || !strings.HasPrefix(s[at:], bytes) {
		return api.X{}, 0, api.ErrCode
	}
	return x, len(bytes), api.OK
}

// readLoosely is the instruction that bytes would be, if they are one's.
func readLoosely(r *reader) api.X {
	half := r.peek() == operand16
	if half {
		r.take()
	}
	rex := byte(0)
	if r.peek()&0xf0 == rexBase {
		rex = r.take()
	}
	op := r.take()
	x := api.X{Wide: rex&rexWide != 0}
	if op == escape {
		op = r.take()
		x = withEscape(x, op)
	} else {
		x = withOpcode(x, op, r.peek())
	}
	if x.Kind == 0 {
		return api.X{}
	}
	if half {
		x.Size = 2
	}
	f := forms[x.Kind]
	x = f.operandsOf(x, r, rex, int(op%codes))
	if f.imm > 0 {
		x.Imm = r.signed(int(f.imm))
	}
	return x
}

// withEscape is the kind that an opcode behind 0F tells.
func withEscape(x api.X, op byte) api.X {
	switch op {
	case 0xaf:
		x.Kind = api.XImul
	case 0xb6:
		x.Kind, x.Size = api.XLoad, 1
	case 0xb7:
		x.Kind, x.Size = api.XLoad, 2
	case 0xae:
		x.Kind = api.XFence
	default:
		if op&0xf0 == 0x80 {
			x.Kind, x.Cond = api.XJcc, int(op&0x0f)
		}
	}
	return x
}

// withOpcode is the kind that an opcode, and the byte behind it, tell.
func withOpcode(x api.X, op, behind byte) api.X {
	memory := behind < direct
	digit := int(behind / codes % codes)
	size := 4
	if x.Wide {
		size = 8
	}
	switch op {
	case 0x89:
		if x.Kind = api.XMov; memory {
			x.Kind, x.Size = api.XStore, size
		}
	case 0x88:
		x.Kind, x.Size = api.XStore, 1
	case 0x8b:
		x.Kind, x.Size = api.XLoad, size
	case 0x85:
		x.Kind = api.XTest
	case 0x81:
		x.Kind, x.Alu = api.XAluImm, digit
	case 0xc7:
		x.Kind = api.XImm
	case 0xf7:
		x.Kind = ofDigit(digit)
	case 0xc1:
		x.Kind, x.Alu = api.XShift, digit
	case 0xd3:
		x.Kind, x.Alu = api.XShiftCl, digit
	case 0xeb:
		x.Kind, x.Short = api.XJmp, true
	case 0xe9:
		x.Kind = api.XJmp
	case 0xe8:
		x.Kind = api.XCall
	case 0xc3:
		x.Kind = api.XRet
	default:
		x = withRow(x, op)
	}
	return x
}

func ofDigit(digit int) int {
	switch digit {
	case 3:
		return api.XNeg
	case 4:
		return api.XMul
	case 6:
		return api.XDiv
	}
	return 0
}

// withRow is the kind of opcodes that stand in rows, by a field.
func withRow(x api.X, op byte) api.X {
	switch {
	case op < 0x40 && op%codes == 1:
		x.Kind, x.Alu = api.XAlu, int(op/codes)
	case op&0xf8 == 0x50:
		x.Kind = api.XPush
	case op&0xf8 == 0x58:
		x.Kind = api.XPop
	case op&0xf0 == 0x70:
		x.Kind, x.Cond, x.Short = api.XJcc, int(op&0x0f), true
	case op&0xf8 == 0xb8:
		x.Kind = api.XAbs
	}
	return x
}

// operandsOf takes what stands between the opcode and Imm; code: the opcode's lowest three bits.
func (f form) operandsOf(x api.X, r *reader, rex byte, code int) api.X {
	high := int(rex & rexEnd * codes)
	switch f.tail {
	case tailNone:
		return x
	case tailCode:
		x.Dst = code + high
		return x
	case tailRel:
		if x.Short {
			x.Rel = int32(r.signed(1))
		} else {
			x.Rel = int32(r.signed(4))
		}
		return x
	}
	both := r.take()
	middle, end := int(both/codes%codes+rex&rexMiddle*2), int(both%codes)+high
	switch f.tail {
	case tailRM, tailStore:
		x.Src, x.Dst = middle, end
	case tailMR, tailLoad:
		x.Dst, x.Src = middle, end
	default:
		x.Dst = end
	}
	if f.tail == tailLoad || f.tail == tailStore {
		if end%codes == needsBase {
			r.take()
		}
		x.Disp = int32(r.signed(4))
	}
	return x
}
