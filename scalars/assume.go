package scalars

import (
	"firewall/api"
	"firewall/conds"
	"firewall/spans"
	"firewall/tnums"
)

const (
	halfMost     = 1<<32 - 1
	halfSignMost = 1<<31 - 1
	apart        = 0xff // the condition that JmpSet does not hold; no opcode has it
)

// opposites tells which condition holds where another one does not.
func opposites() map[uint8]uint8 {
	return map[uint8]uint8{
		api.JmpEq: api.JmpNe, api.JmpNe: api.JmpEq,
		api.JmpGt: api.JmpLe, api.JmpLe: api.JmpGt,
		api.JmpGe: api.JmpLt, api.JmpLt: api.JmpGe,
		api.JmpSgt: api.JmpSle, api.JmpSle: api.JmpSgt,
		api.JmpSge: api.JmpSlt, api.JmpSlt: api.JmpSge,
		api.JmpSet: apart,
	}
}

// Assume is what is left of two where a condition holds, or does not; false: nothing.
func Assume(op uint8, wide, holds bool, a, b N) (x, y N, ok bool) {
	a, someA := Tight(a)
	b, someB := Tight(b)
	if !someA || !someB {
		return N{}, N{}, false
	}
	opposite, compares := opposites()[op]
	switch {
	case !compares && conds.Holds(op, wide, 0, 0) == holds: // it does not hang on numbers
		return a, b, true
	case !compares:
		return N{}, N{}, false
	}
	if !holds {
		op = opposite
	}
	if wide {
		return compared(op, a, b)
	}
	return halfCompared(op, a, b)
}

// halfCompared is what is left of two whose lowest 32 bits are compared.
func halfCompared(op uint8, a, b N) (x, y N, ok bool) {
	la, lb := low(a), low(b)
	if isSigned(op) && (la.S.Hi > halfSignMost || lb.S.Hi > halfSignMost) {
		_, _, ok = compared(op, settled(extended(a)), settled(extended(b)))
		x, y = a, b
	} else {
		x, y, ok = compared(op, la, lb)
		x, y = unlessLonger(x, a), unlessLonger(y, b)
	}
	if !ok {
		return N{}, N{}, false
	}
	return x, y, true
}

func isSigned(op uint8) bool {
	return op == api.JmpSgt || op == api.JmpSge || op == api.JmpSlt || op == api.JmpSle
}

// unlessLonger is what is left of the lowest 32 bits of all, if they have no others.
func unlessLonger(left, all N) N {
	if all.S.Hi > halfMost {
		return all
	}
	return left
}

// compared is what is left of two tight ones where a condition of 64 bits holds.
func compared(op uint8, a, b N) (x, y N, ok bool) {
	switch op {
	case api.JmpEq:
		a, ok = common(a, b)
		return a, a, ok
	case api.JmpGt, api.JmpGe, api.JmpSgt, api.JmpSge:
		y, x, ok = less(op == api.JmpSgt || op == api.JmpSge, op == api.JmpGt || op == api.JmpSgt, b, a)
	case api.JmpLt, api.JmpLe, api.JmpSlt, api.JmpSle:
		x, y, ok = less(op == api.JmpSlt || op == api.JmpSle, op == api.JmpLt || op == api.JmpSlt, a, b)
	case api.JmpNe:
		x, y, ok = differing(a, b)
	case api.JmpSet:
		x, y, ok = meeting(a, b)
	default:
		x, y, ok = parted(a, b)
	}
	if !ok {
		return N{}, N{}, false
	}
	x, someX := Tight(x)
	y, someY := Tight(y)
	if !someX || !someY {
		return N{}, N{}, false
	}
	return x, y, true
}

// common is what both have.
func common(a, b N) (N, bool) {
	t, okT := tnums.Both(a.T, b.T)
	s, okS := spans.Both(a.S, b.S)
	if !okT || !okS {
		return N{}, false
	}
	return Tight(N{t, s})
}

// less is what is left where a is below b, or not above it.
func less(isSigned, strict bool, a, b N) (x, y N, ok bool) {
	gap := uint64(0)
	if strict {
		gap = 1
	}
	if isSigned {
		if strict && a.S.SLo >= b.S.SHi || a.S.SLo > b.S.SHi {
			return N{}, N{}, false
		}
		a.S.SHi = min(a.S.SHi, b.S.SHi-int64(gap))
		b.S.SLo = max(b.S.SLo, a.S.SLo+int64(gap))
		return a, b, true
	}
	if strict && a.S.Lo >= b.S.Hi || a.S.Lo > b.S.Hi {
		return N{}, N{}, false
	}
	a.S.Hi = min(a.S.Hi, b.S.Hi-gap)
	b.S.Lo = max(b.S.Lo, a.S.Lo+gap)
	return a, b, true
}

// differing is what is left where both are not one number.
func differing(a, b N) (x, y N, ok bool) {
	v, oneA := One(a)
	w, oneB := One(b)
	switch {
	case oneA && oneB:
		return a, b, v != w
	case oneA:
		return a, without(b, v), true
	case oneB:
		return without(a, w), b, true
	}
	return a, b, true
}

// without is one of several numbers less: at its ends alone that is known.
func without(a N, v uint64) N {
	if a.S.Lo == v {
		a.S.Lo++
	}
	if a.S.Hi == v {
		a.S.Hi--
	}
	if a.S.SLo == int64(v) {
		a.S.SLo++
	}
	if a.S.SHi == int64(v) {
		a.S.SHi--
	}
	return a
}

// meeting is what is left where both have a bit in common.
func meeting(a, b N) (x, y N, ok bool) {
	may := (a.T.Value | a.T.Mask) & (b.T.Value | b.T.Mask)
	if may == 0 {
		return N{}, N{}, false
	}
	if may&(may-1) == 0 {
		set := tnums.T{Value: may, Mask: ^may}
		a.T, _ = tnums.Both(a.T, set)
		b.T, _ = tnums.Both(b.T, set)
	}
	return a, b, true
}

// parted is what is left where both have no bit in common.
func parted(a, b N) (x, y N, ok bool) {
	ta, okA := tnums.Both(a.T, tnums.T{Mask: ^b.T.Value})
	tb, okB := tnums.Both(b.T, tnums.T{Mask: ^a.T.Value})
	if !okA || !okB {
		return N{}, N{}, false
	}
	a.T, b.T = ta, tb
	return a, b, true
}
