package num

import "math/bits"

// gcd is the greatest common divisor; of 0 and a number it is that number.
func gcd(a, b nat) nat {
	if compare(a, b) < 0 {
		a, b = b, a
	}
	for len(b) > 2 {
		a, b = leap(a, b)
	}
	if len(b) == 0 {
		return a
	}
	if isOne(b) {
		return b
	}
	_, left := divide(a, b)
	return natOf(gcdShort(short(b), short(left)))
}

func gcdShort(a, b uint64) uint64 {
	for b != 0 {
		a, b = b, a%b
	}
	return a
}

// leap does several of Euclid's steps at once, if the leading bits of a and b tell these (Lehmer): else each step would go through all limbs. a isn't less than b, and b has three limbs at least.
func leap(a, b nat) (nat, nat) {
	s := guess(a, b)
	switch {
	case s.bBefore == 0:
		_, left := divide(a, b)
		return b, left
	case s.even:
		return combine(a, uint32(s.aBefore), b, uint32(s.bBefore)), combine(b, uint32(s.bNow), a, uint32(s.aNow))
	default:
		return combine(b, uint32(s.bBefore), a, uint32(s.aBefore)), combine(a, uint32(s.aNow), b, uint32(s.bNow))
	}
}

// steps says what a and b become by some of Euclid's steps: if their number is even, aBefore a - bBefore b, and bNow b - aNow a; if it is odd, both with the signs the other way.
type steps struct {
	aBefore, aNow, bBefore, bNow uint64
	even                         bool
}

// guess goes on as long as the leading 64 bits tell for sure what all bits would (Collins' condition): so all four numbers stay below 2 to the power of 32.
func guess(a, b nat) steps {
	shift := bits.LeadingZeros32(a[len(a)-1])
	x, y := lead(a, len(a), shift), lead(b, len(a), shift)
	s := steps{aNow: 1}
	var aNext, bNext uint64 = 0, 1
	for y >= bNext && x-y >= s.bNow+bNext {
		q := x / y
		x, y = y, x%y
		s.aBefore, s.aNow, aNext = s.aNow, aNext, s.aNow+q*aNext
		s.bBefore, s.bNow, bNext = s.bNow, bNext, s.bNow+q*bNext
		s.even = !s.even
	}
	return s
}

// lead is the 64 bits of a below the highest shift ones of n limbs.
func lead(a nat, n, shift int) uint64 {
	var limbs [3]uint64
	for i := range limbs {
		if at := n - 1 - i; at < len(a) {
			limbs[i] = uint64(a[at])
		}
	}
	return (limbs[0]<<32|limbs[1])<<shift | limbs[2]<<shift>>32
}
