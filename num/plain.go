package num

// Plain is the plain form of numbers of which only the ratios count: whole numbers without a common divisor, the first that isn't 0 above 0. If all are 0, they stay so.
//
// All are divided by the greatest fraction that goes into each of them. As they are in lowest terms, that one is the greatest common divisor of the upper numbers over the least common multiple of the lower ones: no fraction need be made on the way.
func Plain(l ...Q) []Q {
	var up nat
	low := one()
	for _, q := range l {
		up = gcd(up, q.up)
		low = multiply(low, over(q.lower(), gcd(low, q.lower())))
	}
	plain := make([]Q, len(l))
	flip := firstBelow(l)
	for i, q := range l {
		if q.Sign() != 0 {
			plain[i] = ready(q.neg != flip, multiply(over(q.up, up), over(low, q.lower())), one())
		}
	}
	return plain
}

// firstBelow tells if the first that isn't 0 is below 0.
func firstBelow(l []Q) bool {
	for _, q := range l {
		if q.Sign() != 0 {
			return q.neg
		}
	}
	return false
}
