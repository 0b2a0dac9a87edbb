package emit

import (
	"firewall/api"
	"firewall/insns"
	"firewall/progs"
)

// conditions tells what the machine calls them, behind a comparison; of JmpSet behind a test.
func conditions() map[uint8]int {
	return map[uint8]int{
		api.JmpEq: api.CcE, api.JmpNe: api.CcNe, api.JmpSet: api.CcNe,
		api.JmpGt: api.CcA, api.JmpGe: api.CcAe, api.JmpLt: api.CcB, api.JmpLe: api.CcBe,
		api.JmpSgt: api.CcG, api.JmpSge: api.CcGe, api.JmpSlt: api.CcL, api.JmpSle: api.CcLe,
	}
}

// constant loads a number, or a map's handle.
func constant(l []api.Insn, pc int) api.X {
	dst := Reg(l[pc].Dst)
	if l[pc].Src == api.MapRef {
		return number(dst, api.HandleBase+int64(l[pc].Imm))
	}
	return number(dst, int64(progs.Const(l, pc)))
}

func load(in api.Insn) api.X {
	n := insns.Size(in.Op)
	return api.X{Kind: api.XLoad, Size: n, Wide: n == 8, Dst: Reg(in.Dst), Src: Reg(in.Src), Disp: int32(in.Off)}
}

func store(in api.Insn, to, from int) api.X {
	n := insns.Size(in.Op)
	return api.X{Kind: api.XStore, Size: n, Wide: n == 8, Dst: to, Src: from, Disp: int32(in.Off)}
}

// jump does conditions, calls and exits.
func jump(in api.Insn, pc int, array *Array) []Part {
	to := pc + 1 + int(in.Off)
	switch op := in.Op & opBits; op {
	case api.JmpExit:
		return plain(tail()...)
	case api.JmpAlways:
		return []Part{{api.X{Kind: api.XJmp}, to, nowhere}}
	case api.JmpCall:
		if in.Imm == api.HeLookup && array != nil {
			return plain(lookup(*array)...)
		}
		return []Part{{api.X{Kind: api.XCall}, nowhere, int(in.Imm)}}
	default:
		jcc := api.X{Kind: api.XJcc, Cond: conditions()[op]}
		return append(plain(compare(in)...), Part{jcc, to, nowhere})
	}
}

// compare lays how two numbers are into the flags.
func compare(in api.Insn) []api.X {
	wide, dst := in.Op&classBits == api.ClJmp, Reg(in.Dst)
	fromReg, test := in.Op&api.FromReg != 0, in.Op&opBits == api.JmpSet
	switch {
	case test && fromReg:
		return []api.X{{Kind: api.XTest, Wide: wide, Dst: dst, Src: Reg(in.Src)}}
	case test:
		return []api.X{number(api.R9, int64(in.Imm)), {Kind: api.XTest, Wide: wide, Dst: dst, Src: api.R9}}
	case fromReg:
		return []api.X{alu(api.AluCmp, wide, dst, Reg(in.Src))}
	}
	return []api.X{aluImm(api.AluCmp, wide, dst, int64(in.Imm))}
}

// lookup lays into rax the address of a value of an array, whose index lies at r2; 0, if it has no such one. It does so without a jump: there is none that could be guessed wrong.
func lookup(a Array) []api.X {
	base := api.MapBase + int64(a.N)*api.MapStep
	return []api.X{
		{Kind: api.XLoad, Size: arrayKey, Dst: api.R9, Src: Reg(2)},
		move(true, api.R10, api.R9),
		aluImm(api.AluSub, true, api.R10, int64(a.Map.Max)),
		shift(api.ShiftArith, true, api.R10, wideTop), // all bits, if the index is below Max
		number(api.RAX, int64(a.Map.Value)),
		{Kind: api.XImul, Wide: true, Dst: api.RAX, Src: api.R9},
		aluImm(api.AluAdd, true, api.RAX, base),
		alu(api.AluAnd, true, api.RAX, api.R10),
	}
}
