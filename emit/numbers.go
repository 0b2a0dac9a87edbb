package emit

import "firewall/api"

const (
	wideTop = 63 // the highest bit of 64, and of 32
	halfTop = 31
)

// operations tells what the machine calls what it does with two numbers at once.
func operations() map[uint8]int {
	return map[uint8]int{api.OpAdd: api.AluAdd, api.OpSub: api.AluSub, api.OpOr: api.AluOr, api.OpAnd: api.AluAnd, api.OpXor: api.AluXor}
}

// shifts tells what the machine calls moves of bits.
func shifts() map[uint8]int {
	return map[uint8]int{api.OpLsh: api.ShiftLeft, api.OpRsh: api.ShiftRight, api.OpArsh: api.ShiftArith}
}

// number lays a number into a register.
func number(r int, v int64) api.X {
	if v == int64(int32(v)) {
		return api.X{Kind: api.XImm, Wide: true, Dst: r, Imm: v}
	}
	return api.X{Kind: api.XAbs, Wide: true, Dst: r, Imm: v}
}

func move(wide bool, to, from int) api.X {
	return api.X{Kind: api.XMov, Wide: wide, Dst: to, Src: from}
}

func alu(op int, wide bool, to, from int) api.X {
	return api.X{Kind: api.XAlu, Alu: op, Wide: wide, Dst: to, Src: from}
}

func aluImm(op int, wide bool, to int, v int64) api.X {
	return api.X{Kind: api.XAluImm, Alu: op, Wide: wide, Dst: to, Imm: v}
}

func negate(wide bool, r int) api.X { return api.X{Kind: api.XNeg, Wide: wide, Dst: r} }

func shift(op int, wide bool, r int, n int64) api.X {
	return api.X{Kind: api.XShift, Alu: op, Wide: wide, Dst: r, Imm: n}
}

// arithmetic does what is of 32 bits, and of 64.
func arithmetic(in api.Insn) []api.X {
	op, wide, dst := in.Op&opBits, in.Op&classBits == api.ClAlu64, Reg(in.Dst)
	fromReg := in.Op&api.FromReg != 0
	if name, ok := operations()[op]; ok {
		if fromReg {
			return []api.X{alu(name, wide, dst, Reg(in.Src))}
		}
		return []api.X{aluImm(name, wide, dst, int64(in.Imm))}
	}
	if name, ok := shifts()[op]; ok {
		if fromReg {
			return shiftBy(name, wide, dst, Reg(in.Src))
		}
		return []api.X{shift(name, wide, dst, int64(in.Imm))}
	}
	switch op {
	case api.OpNeg:
		return []api.X{negate(wide, dst)}
	case api.OpMov:
		return []api.X{moved(in, wide, dst)}
	case api.OpMul:
		return multiply(in, wide, dst)
	}
	return divide(in, wide, dst)
}

func moved(in api.Insn, wide bool, dst int) api.X {
	switch {
	case in.Op&api.FromReg != 0:
		return move(wide, dst, Reg(in.Src))
	case wide:
		return number(dst, int64(in.Imm))
	}
	return number(dst, int64(uint32(in.Imm)))
}

func multiply(in api.Insn, wide bool, dst int) []api.X {
	if in.Op&api.FromReg != 0 {
		return []api.X{{Kind: api.XImul, Wide: wide, Dst: dst, Src: Reg(in.Src)}}
	}
	return []api.X{number(api.R9, int64(in.Imm)), {Kind: api.XImul, Wide: wide, Dst: dst, Src: api.R9}}
}

// shiftBy moves by what a register has; that has to be in rcx, which is some register of the program, too.
func shiftBy(name int, wide bool, dst, src int) []api.X {
	return []api.X{
		move(true, api.R9, api.RCX),
		move(true, api.R10, dst),
		move(true, api.RCX, src),
		{Kind: api.XShiftCl, Alu: name, Wide: wide, Dst: api.R10},
		move(true, api.RCX, api.R9),
		move(true, dst, api.R10),
	}
}

// divide does divisions, and what is left of them; rax and rdx are kept in r10 and r11.
func divide(in api.Insn, wide bool, dst int) []api.X {
	fromReg, rest := in.Op&api.FromReg != 0, in.Op&opBits == api.OpMod
	var l []api.X
	if fromReg {
		l = append(divisor(wide, Reg(in.Src)), keepPair(wide, dst)...)
	} else {
		l = append([]api.X{number(api.R9, int64(in.Imm))}, keepPair(wide, dst)...)
	}
	l = append(l, alu(api.AluXor, true, api.RDX, api.RDX), api.X{Kind: api.XDiv, Wide: wide, Dst: api.R9})
	answer := api.RAX
	if rest {
		answer = api.RDX
	}
	if fromReg {
		l = append(l, masked(wide, rest, kept(dst))...)
	}
	return append(l,
		move(wide, api.R9, answer),
		move(true, api.RAX, api.R10),
		move(true, api.RDX, api.R11),
		move(true, dst, api.R9))
}

// divisor lays into r9 what is divided by, or 1, if that is 0, and into r12 whether it is not 0.
func divisor(wide bool, src int) []api.X {
	top := int64(halfTop)
	if wide {
		top = wideTop
	}
	return []api.X{
		move(wide, api.R9, src),
		move(wide, api.R12, api.R9),
		negate(wide, api.R12),
		alu(api.AluOr, wide, api.R12, api.R9), // a number and what it is below 0 have the highest bit, but for 0
		shift(api.ShiftRight, wide, api.R12, top),
		aluImm(api.AluAdd, wide, api.R9, 1),
		alu(api.AluSub, wide, api.R9, api.R12),
	}
}

// keepPair keeps rax and rdx, and lays what is divided into rax.
func keepPair(wide bool, dst int) []api.X {
	return []api.X{move(true, api.R10, api.RAX), move(true, api.R11, api.RDX), move(wide, api.RAX, dst)}
}

// kept is where what a register had is, while rax and rdx have other numbers.
func kept(r int) int {
	switch r {
	case api.RAX:
		return api.R10
	case api.RDX:
		return api.R11
	}
	return r
}

// masked makes of what came of a division by 1 in place of 0 what has to come of one by 0: 0, or, as what is left, what was divided.
func masked(wide, rest bool, divided int) []api.X {
	if rest {
		return []api.X{
			aluImm(api.AluSub, true, api.R12, 1),
			alu(api.AluAnd, wide, api.R12, divided),
			alu(api.AluOr, wide, api.RDX, api.R12),
		}
	}
	return []api.X{negate(true, api.R12), alu(api.AluAnd, wide, api.RAX, api.R12)}
}
