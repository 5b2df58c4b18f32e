// Package triple has three fractions as one: what points and ways of space are and, if only the ratios of their numbers count, points and lines of the plane.
package triple

import (
	"compass/num"
	"compass/way"
)

// Triple of fractions. A point of space, or a way in it, is x, y, z. Of the plane, a point x, y is x, y, 1; a way out of it x, y, 0; the line A x + B y + C = 0 is A, B, C.
type Triple [3]num.Q

// Whole is a point as whole numbers, the last of them above 0: so the sign of what is reckoned of it stays, and no fraction need be brought to lowest terms.
func Whole(p way.Way) Triple {
	plain := num.Plain(num.Int(1), p.X, p.Y)
	return Triple{plain[1], plain[2], plain[0]}
}

// Dot is the sum of the products: 0 of a point and a line just if the point is on the line.
func (t Triple) Dot(u Triple) num.Q {
	var sum num.Q
	for i := range t {
		sum = sum.Plus(t[i].Times(u[i]))
	}
	return sum
}

// Cross has the Dot of 0 with both: of two points it is the line through them, of two lines the point that they share; all 0, if both are one.
func (t Triple) Cross(u Triple) Triple {
	var made Triple
	for i := range made {
		j, k := (i+1)%3, (i+2)%3
		made[i] = t[j].Times(u[k]).Minus(t[k].Times(u[j]))
	}
	return made
}

// Plus has the sums of both, number by number.
func (t Triple) Plus(u Triple) Triple {
	for i := range t {
		t[i] = t[i].Plus(u[i])
	}
	return t
}

// Times has each number k times.
func (t Triple) Times(k num.Q) Triple {
	for i := range t {
		t[i] = t[i].Times(k)
	}
	return t
}

// Nothing tells if all are 0: no point, and no line.
func (t Triple) Nothing() bool {
	for _, q := range t {
		if q.Sign() != 0 {
			return false
		}
	}
	return true
}
