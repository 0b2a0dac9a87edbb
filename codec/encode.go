package codec

import (
	"firewall/api"
	"firewall/nums"
)

// Encode is a machine instruction's bytes.
func Encode(x api.X) (string, api.Errno) {
	if !Valid(x) {
		return "", api.ErrArg
	}
	f := forms[x.Kind]
	middle, end := f.places(x)
	var b []byte
	if x.Kind == api.XStore && x.Size == 2 {
		b = append(b, operand16)
	}
	if rex := rexOf(x, middle, end); rex != rexBase || x.Kind == api.XStore && x.Size == 1 {
		b = append(b, rex)
	}
	b = append(b, f.opcodeOf(x)...)
	b = append(b, f.operands(x, middle, end)...)
	b = append(b, nums.Bytes(uint64(x.Imm), int(f.imm))...)
	return string(b), api.OK
}

// places is what stands in the middle, and at the end, of the byte behind the opcode.
func (f form) places(x api.X) (middle, end int) {
	switch f.tail {
	case tailRM, tailStore:
		return x.Src, x.Dst
	case tailMR, tailLoad:
		return x.Dst, x.Src
	case tailDigit:
		return int(f.digit), x.Dst
	case tailAlu:
		return x.Alu, x.Dst
	case tailCode:
		return 0, x.Dst
	}
	return 0, 0
}

func rexOf(x api.X, middle, end int) byte {
	rex := byte(rexBase)
	if x.Wide {
		rex |= rexWide
	}
	if middle >= codes {
		rex |= rexMiddle
	}
	if end >= codes {
		rex |= rexEnd
	}
	return rex
}

func (f form) opcodeOf(x api.X) []byte {
	op := f.opcode
	switch x.Kind {
	case api.XAlu:
		op += byte(x.Alu) * codes
	case api.XAbs, api.XPush, api.XPop:
		op += byte(x.Dst % codes)
	case api.XLoad:
		return loadOpcode(x.Size)
	case api.XStore:
		return storeOpcode(x.Size)
	case api.XJmp:
		if x.Short {
			return []byte{0xeb}
		}
		return []byte{0xe9}
	case api.XJcc:
		if x.Short {
			return []byte{0x70 + byte(x.Cond)}
		}
		return []byte{escape, 0x80 + byte(x.Cond)}
	}
	if f.escaped {
		return []byte{escape, op}
	}
	return []byte{op}
}

func loadOpcode(size int) []byte {
	switch size {
	case 1:
		return []byte{escape, 0xb6}
	case 2:
		return []byte{escape, 0xb7}
	}
	return []byte{0x8b}
}

func storeOpcode(size int) []byte {
	if size == 1 {
		return []byte{0x88}
	}
	return []byte{0x89}
}

// operands is what stands between the opcode and Imm.
func (f form) operands(x api.X, middle, end int) []byte {
	both := byte(middle%codes*codes + end%codes)
	switch f.tail {
	case tailRM, tailMR, tailDigit, tailAlu:
		return []byte{direct + both}
	case tailLoad, tailStore:
		b := []byte{distant + both}
		if end%codes == needsBase {
			b = append(b, baseOnly)
		}
		return append(b, nums.Bytes(uint64(x.Disp), 4)...)
	case tailRel:
		if x.Short {
			return []byte{byte(x.Rel)}
		}
		return []byte(nums.Bytes(uint64(x.Rel), 4))
	}
	if x.Kind == api.XFence {
		return []byte{f.digit}
	}
	return nil
}
