// Package num has fractions of any length, in lowest terms: what api.Q tells as a text.
package num

import "cmp"

// Q is a fraction. Its zero value is 0.
type Q struct {
	neg bool // never of 0
	up  nat
	low nat // empty stands for 1: so whole numbers, and the zero value, need none
}

func (a Q) lower() nat {
	if len(a.low) == 0 {
		return one()
	}
	return a.low
}

// ready is a fraction of what is in lowest terms already.
func ready(neg bool, up, low nat) Q {
	if len(up) == 0 {
		return Q{}
	}
	if isOne(low) {
		low = nil
	}
	return Q{neg, up, low}
}

// reduced is a fraction of any two numbers: 0, if low is.
func reduced(neg bool, up, low nat) Q {
	if len(low) == 0 {
		return Q{}
	}
	g := gcd(up, low)
	return ready(neg, over(up, g), over(low, g))
}

// over is a over b, of which it is known that nothing is left.
func over(a, b nat) nat {
	quotient, _ := divide(a, b)
	return quotient
}

// Int is a machine number as a fraction.
func Int(n int) Q {
	if n < 0 {
		// The lowest number has no opposite among machine numbers: as an unsigned one it has.
		return ready(true, natOf(-uint64(n)), one())
	}
	return ready(false, natOf(uint64(n)), one())
}

// Whole is a as a machine number; false, if a isn't whole, or too great for one.
func (a Q) Whole() (int, bool) {
	if len(a.up) > 2 {
		return 0, false
	}
	n := int(short(a.up))
	if a.neg {
		n = -n
	}
	// What is too great has wrapped round, and of a fraction the lower number was left out.
	if Int(n).Minus(a).Sign() != 0 {
		return 0, false
	}
	return n, true
}

// Sign is -1, 0 or 1.
func (a Q) Sign() int {
	switch {
	case len(a.up) == 0:
		return 0
	case a.neg:
		return -1
	default:
		return 1
	}
}

// Compare is -1 if a is less than b, 0 if both are one, 1 if a is greater: fractions are sorted by it.
func (a Q) Compare(b Q) int {
	if order := cmp.Compare(a.Sign(), b.Sign()); order != 0 {
		return order
	}
	return a.Sign() * cmp.Compare(compare(multiply(a.up, b.lower()), multiply(b.up, a.lower())), 0)
}

// Negative is - a.
func (a Q) Negative() Q { return ready(!a.neg, a.up, a.lower()) }

// Plus divides by what both lower numbers have in common ahead of adding: what remains to be taken out divides that too, so that the long numbers are never compared (Henrici).
func (a Q) Plus(b Q) Q {
	g := gcd(a.lower(), b.lower())
	aLow, bLow := over(a.lower(), g), over(b.lower(), g)
	neg, up := addSigned(a.neg, multiply(a.up, bLow), b.neg, multiply(b.up, aLow))
	h := gcd(up, g)
	return ready(neg, over(up, h), multiply(aLow, over(b.lower(), h)))
}

func addSigned(aNeg bool, a nat, bNeg bool, b nat) (bool, nat) {
	switch {
	case aNeg == bNeg:
		return aNeg, add(a, b)
	case compare(a, b) < 0:
		return bNeg, subtract(b, a)
	default:
		return aNeg, subtract(a, b)
	}
}

// Minus is a - b.
func (a Q) Minus(b Q) Q { return a.Plus(b.Negative()) }

// Times is a b; what can be taken out is taken out ahead, while the numbers are short.
func (a Q) Times(b Q) Q {
	g, h := gcd(a.up, b.lower()), gcd(b.up, a.lower())
	up := multiply(over(a.up, g), over(b.up, h))
	low := multiply(over(a.lower(), h), over(b.lower(), g))
	return ready(a.neg != b.neg, up, low)
}

// Over is a / b: 0, if b is.
func (a Q) Over(b Q) Q {
	if len(b.up) == 0 {
		return Q{}
	}
	return a.Times(ready(b.neg, b.lower(), b.up))
}

// Floor is a / b, down to a whole number: 0, if b is. What both have in common needn't be taken out for it.
func (a Q) Floor(b Q) Q {
	if len(b.up) == 0 {
		return Q{}
	}
	neg := a.neg != b.neg
	quotient, left := divide(multiply(a.up, b.lower()), multiply(b.up, a.lower()))
	if neg && len(left) != 0 {
		quotient = add(quotient, one())
	}
	return ready(neg, quotient, one())
}

// Parts are the upper number, which has the sign, and the lower one, which is above 0.
func (a Q) Parts() (up, low Q) {
	return ready(a.neg, a.up, one()), ready(false, a.lower(), one())
}

// Sum of any number of fractions.
func Sum(l ...Q) Q {
	var sum Q
	for _, q := range l {
		sum = sum.Plus(q)
	}
	return sum
}
