package scalars

import (
	"firewall/alu"
	"firewall/api"
	"firewall/spans"
	"firewall/tnums"
)

const (
	halfBits = 32
	wideMove = 63 // the bits of a number of bits that count
	halfMove = 31
)

// Do has all that arithmetic makes of two.
func Do(op uint8, wide bool, a, b N) N {
	a, someA := Tight(a)
	b, someB := Tight(b)
	if !someA || !someB {
		return Any()
	}
	v, oneA := One(a)
	w, oneB := One(b)
	if oneA && oneB {
		return Const(alu.Do(op, wide, v, w))
	}
	if wide {
		return settled(do(op, a, b))
	}
	return low(halfDo(op, low(a), low(b)))
}

// low is the lowest 32 bits of all.
func low(a N) N { return settled(N{tnums.Low(a.T, halfBits), spans.Low32(a.S)}) }

// extended is the lowest 32 bits of all, their sign told on.
func extended(a N) N { return arsh(lsh(a, halfBits), halfBits) }

// do has all that arithmetic of 64 bits makes of two.
func do(op uint8, a, b N) N {
	switch op {
	case api.OpAdd:
		return N{tnums.Add(a.T, b.T), spans.Add(a.S, b.S)}
	case api.OpSub:
		return N{tnums.Sub(a.T, b.T), spans.Sub(a.S, b.S)}
	case api.OpMul:
		return N{tnums.Mul(a.T, b.T), spans.Mul(a.S, b.S)}
	case api.OpOr:
		return N{tnums.Or(a.T, b.T), spans.Or(a.S, b.S)}
	case api.OpAnd:
		return N{tnums.And(a.T, b.T), spans.And(a.S, b.S)}
	case api.OpXor:
		return N{tnums.Xor(a.T, b.T), spans.Xor(a.S, b.S)}
	case api.OpDiv:
		return N{tnums.Any(), spans.Div(a.S, b.S)}
	case api.OpMod:
		return N{tnums.Any(), spans.Mod(a.S, b.S)}
	case api.OpNeg:
		return do(api.OpSub, Const(0), a)
	case api.OpMov:
		return b
	case api.OpLsh, api.OpRsh, api.OpArsh:
		return moved(op, a, b)
	}
	return Const(0)
}

// halfDo has all whose lowest 32 bits arithmetic of 32 bits makes of two that have no others.
func halfDo(op uint8, a, b N) N {
	n, one := One(b)
	switch {
	case op == api.OpArsh && one:
		return arsh(extended(a), int(n&halfMove))
	case op == api.OpArsh:
		return Any()
	case (op == api.OpLsh || op == api.OpRsh) && one:
		return do(op, a, Const(n&halfMove))
	}
	return do(op, a, b)
}

// moved has all that come of a, moved by b.
func moved(op uint8, a, b N) N {
	v, one := One(b)
	n := int(v & wideMove)
	switch {
	case one && op == api.OpLsh:
		return lsh(a, n)
	case one && op == api.OpRsh:
		return N{tnums.Rsh(a.T, n), spans.Rsh(a.S, n)}
	case one:
		return arsh(a, n)
	case op == api.OpRsh || op == api.OpArsh && a.S.SLo >= 0:
		return upto(a.S.Hi)
	case op == api.OpArsh:
		s := spans.Any()
		s.SLo, s.SHi = a.S.SLo, max(a.S.SHi, -1)
		return N{tnums.Any(), s}
	}
	return Any()
}

func lsh(a N, n int) N { return N{tnums.Lsh(a.T, n), spans.Lsh(a.S, n)} }

func arsh(a N, n int) N { return N{tnums.Arsh(a.T, n), spans.Arsh(a.S, n)} }
