package progs

import (
	"firewall/api"
	"firewall/insns"
)

// Check tells what is wrong with a program, and at which slot; inner: it was hardened.
func Check(l []api.Insn, maps int, inner bool) (pc int, e api.Errno) {
	most := api.MaxInsns
	if inner {
		most *= innerTimes
	}
	if len(l) == 0 || len(l) > most {
		return 0, api.ErrLong
	}
	second := make([]bool, len(l))
	for pc := 0; pc < len(l); pc += width(l[pc].Op) {
		if e := checkInsn(l, pc, maps, inner); e != api.OK {
			return pc, e
		}
		if width(l[pc].Op) == 2 {
			second[pc+1] = true
		}
	}
	for pc := range l {
		if e := checkWays(l, pc, second); e != api.OK {
			return pc, e
		}
	}
	return checkReach(l, second)
}

// checkInsn tells what is wrong with the instruction at a slot, apart from where it leads.
func checkInsn(l []api.Insn, pc, maps int, inner bool) api.Errno {
	in := l[pc]
	if e := insns.Check(in, inner); e != api.OK {
		return e
	}
	switch {
	case in.Op == api.LdImm:
		return checkLong(l, pc, maps)
	case isCall(in.Op) && !helper(in.Imm):
		return api.ErrHelper
	}
	return api.OK
}

func checkLong(l []api.Insn, pc, maps int) api.Errno {
	if pc+1 == len(l) {
		return api.ErrHalf
	}
	half := l[pc+1]
	if half.Op != 0 || half.Dst != 0 || half.Src != 0 || half.Off != 0 {
		return api.ErrHalf
	}
	if l[pc].Src == api.MapRef && (l[pc].Imm < 0 || int(l[pc].Imm) >= maps || half.Imm != 0) {
		return api.ErrMap
	}
	return api.OK
}

func helper(id int32) bool {
	switch id {
	case api.HeLookup, api.HeUpdate, api.HeDelete, api.HeRandom:
		return true
	}
	return false
}

// checkWays tells what is wrong with where the instruction at a slot leads.
func checkWays(l []api.Insn, pc int, second []bool) api.Errno {
	op := l[pc].Op
	if second[pc] || isExit(op) {
		return api.OK
	}
	if isJump(op) {
		to := target(l, pc)
		if to < 0 || to >= len(l) {
			return api.ErrJump
		}
		if second[to] {
			return api.ErrHalf
		}
	}
	if !isAlways(op) && pc+width(op) >= len(l) {
		return api.ErrEnd
	}
	return api.OK
}

func checkReach(l []api.Insn, second []bool) (int, api.Errno) {
	reached := make([]bool, len(l))
	var reach func(pc int)
	reach = func(pc int) {
		if reached[pc] {
			return
		}
		reached[pc] = true
		for _, next := range Next(l, pc) {
			reach(next)
		}
	}
	reach(0)
	for pc := range l {
		if !reached[pc] && !second[pc] {
			return pc, api.ErrReach
		}
	}
	return 0, api.OK
}
