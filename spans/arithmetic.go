package spans

import "math/bits"

const (
	shiftBits = 63 // the bits of a number of bits that count
	halfBits  = 32
	halfMost  = 1<<32 - 1
)

// Add has all sums.
func Add(a, b S) S {
	a, b = settled(a), settled(b)
	lo, under := bits.Add64(a.Lo, b.Lo, 0)
	hi, over := bits.Add64(a.Hi, b.Hi, 0)
	slo, sunder := signedAdd(a.SLo, b.SLo)
	shi, sover := signedAdd(a.SHi, b.SHi)
	return settled(common(ends(lo, hi, under == over), signedEnds(slo, shi, sunder == sover)))
}

// Sub has all differences.
func Sub(a, b S) S {
	a, b = settled(a), settled(b)
	lo, under := bits.Sub64(a.Lo, b.Hi, 0)
	hi, over := bits.Sub64(a.Hi, b.Lo, 0)
	slo, sunder := signedSub(a.SLo, b.SHi)
	shi, sover := signedSub(a.SHi, b.SLo)
	return settled(common(ends(lo, hi, under == over), signedEnds(slo, shi, sunder == sover)))
}

// ends is all numbers between two; all, where that is not known.
func ends(lo, hi uint64, known bool) S {
	if !known {
		return Any()
	}
	return plain(lo, hi)
}

func signedEnds(lo, hi int64, known bool) S {
	if !known {
		return Any()
	}
	return signed(lo, hi)
}

// signedAdd is a sum, and which way it left the numbers that there are.
func signedAdd(a, b int64) (sum int64, way int) {
	sum = a + b
	switch {
	case a > 0 && b > 0 && sum < 0:
		return sum, 1
	case a < 0 && b < 0 && sum >= 0:
		return sum, -1
	}
	return sum, 0
}

// signedSub is a difference, and which way it left the numbers that there are.
func signedSub(a, b int64) (d int64, way int) {
	d = a - b
	switch {
	case a >= 0 && b < 0 && d < 0:
		return d, 1
	case a < 0 && b > 0 && d >= 0:
		return d, -1
	}
	return d, 0
}

// Mul has all products.
func Mul(a, b S) S {
	a, b = settled(a), settled(b)
	over, _ := bits.Mul64(a.Hi, b.Hi)
	r := ends(a.Lo*b.Lo, a.Hi*b.Hi, over == 0)
	lo, hi, known := int64(signMax), int64(signMin), true
	for _, x := range [2]int64{a.SLo, a.SHi} {
		for _, y := range [2]int64{b.SLo, b.SHi} {
			p, ok := signedMul(x, y)
			lo, hi, known = min(lo, p), max(hi, p), known && ok
		}
	}
	return settled(common(r, signedEnds(lo, hi, known)))
}

// signedMul is a product, and whether there is such a number.
func signedMul(a, b int64) (int64, bool) {
	if a == 0 || b == 0 {
		return 0, true
	}
	p := a * b
	return p, p/b == a && !(a == signMin && b == -1)
}

// And has all that and makes of them.
func And(a, b S) S {
	a, b = settled(a), settled(b)
	return settled(common(plain(0, min(a.Hi, b.Hi)), alike(a, b)))
}

// Or has all that or makes of them.
func Or(a, b S) S {
	a, b = settled(a), settled(b)
	return settled(common(plain(max(a.Lo, b.Lo), ones(bits.Len64(a.Hi|b.Hi))), alike(a, b)))
}

// Xor has all that xor makes of them.
func Xor(a, b S) S {
	a, b = settled(a), settled(b)
	return settled(common(plain(0, ones(bits.Len64(a.Hi|b.Hi))), alike(a, b)))
}

// ones is the number of so many bits, all of them set.
func ones(n int) uint64 { return uint64(1)<<n - 1 }

// alike is what bit by bit comes of two: above the bits that they need, all are as their signs make them.
func alike(a, b S) S {
	n := 0
	for _, v := range [4]int64{a.SLo, a.SHi, b.SLo, b.SHi} {
		n = max(n, bits.Len64(uint64(v^v>>shiftBits)))
	}
	high := int64(ones(n))
	return signed(-high-1, high)
}

// Div has all quotients; of 0 that is 0.
func Div(a, b S) S {
	a, b = settled(a), settled(b)
	if b.Hi == 0 {
		return Const(0)
	}
	lo := a.Lo / b.Hi
	if b.Lo == 0 {
		lo = 0
	}
	return settled(plain(lo, a.Hi/max(b.Lo, 1)))
}

// Mod has all that is left; of 0 that is what is divided.
func Mod(a, b S) S {
	a, b = settled(a), settled(b)
	if a.Hi < b.Lo || b.Hi == 0 {
		return a
	}
	hi := a.Hi
	if b.Lo > 0 {
		hi = min(hi, b.Hi-1)
	}
	return settled(plain(0, hi))
}

// Lsh is all, moved up.
func Lsh(a S, n int) S {
	a, n = settled(a), n&shiftBits
	lo, hi := a.Lo<<n, a.Hi<<n
	slo, shi := a.SLo<<n, a.SHi<<n
	return settled(common(ends(lo, hi, hi>>n == a.Hi), signedEnds(slo, shi, slo>>n == a.SLo && shi>>n == a.SHi)))
}

// Rsh is all, moved down.
func Rsh(a S, n int) S {
	a, n = settled(a), n&shiftBits
	if n == 0 {
		return a
	}
	return settled(plain(a.Lo>>n, a.Hi>>n))
}

// Arsh is all, moved down with their sign.
func Arsh(a S, n int) S {
	a, n = settled(a), n&shiftBits
	if n == 0 {
		return a
	}
	return settled(signed(a.SLo>>n, a.SHi>>n))
}

// Low32 is the lowest 32 bits of all.
func Low32(a S) S {
	a = settled(a)
	if a.Lo>>halfBits != a.Hi>>halfBits {
		return Upto(halfMost)
	}
	return settled(plain(a.Lo&halfMost, a.Hi&halfMost))
}
