package empty

import (
	"slices"

	"compass/num"
	"compass/round"
	"compass/triple"
	"compass/way"
)

// spot is a point in whole numbers, the last of them above 0, so that only signs need be asked for: x, y, 1, and, lifted to the bowl above the plane, x x + y y, x, y, 1.
type spot struct {
	flat   triple.Triple
	lifted [4]num.Q
}

func lift(l []way.Way) []spot {
	spots := make([]spot, len(l))
	for i, p := range l {
		flat := triple.Whole(p)
		x, y, below := flat[0], flat[1], flat[2]
		height := num.Sum(x.Times(x), y.Times(y))
		spots[i] = spot{flat, [4]num.Q{height, x.Times(below), y.Times(below), below.Times(below)}}
	}
	return spots
}

// disc has A, B, C, D, whole numbers: A (x x + y y) + B x + C y + D is 0 on its edge and below 0 within, and A is above 0. Of lifted points that is a plane, and what lies below it lies within.
type disc [4]num.Q

// none has no point within, nor on its edge.
func none() disc { return disc{3: num.Int(1)} }

// value is below 0 within, 0 on the edge, above 0 outside.
func (d disc) value(p spot) num.Q {
	var sum num.Q
	for i, q := range p.lifted {
		sum = sum.Plus(d[i].Times(q))
	}
	return sum
}

// across is the disc with a and b at the ends of a diameter: at its edge the ways to both are square to each other. If both are one point, it is that point.
func across(a, b spot) disc {
	p, q := a.flat, b.flat
	// both is what a and b add up to, over what is below both.
	both := func(i int) num.Q { return p[i].Times(q[2]).Plus(q[i].Times(p[2])) }
	return disc{
		p[2].Times(q[2]),
		both(0).Negative(),
		both(1).Negative(),
		p[0].Times(q[0]).Plus(p[1].Times(q[1])),
	}
}

// through is the disc with all three on its edge; false, if they lie on a line.
//
// Each disc with a and b on its edge is the one across them, some times, less their line, some times. That its value at c is 0, each is taken as often as the value of the other one at c tells: the one across more than 0 times, so that A is above 0.
func through(a, b, c spot) (disc, bool) {
	line := a.flat.Cross(b.flat)
	turn := line.Dot(c.flat)
	if turn.Sign() == 0 {
		return disc{}, false
	}
	side := num.Int(turn.Sign())
	made := across(a, b)
	less := made.value(c).Times(side)
	often := turn.Times(side).Times(c.flat[2])
	for i := range made {
		made[i] = made[i].Times(often)
	}
	for i, q := range line {
		made[i+1] = made[i+1].Minus(q.Times(less))
	}
	return made, true
}

// holder tells of a disc if one of the spots lies within it.
func holder(l []spot) func(d disc) bool {
	return func(d disc) bool {
		return slices.ContainsFunc(l, func(p spot) bool { return d.value(p).Sign() < 0 })
	}
}

// circle is the disc's edge.
func (d disc) circle() round.Circle {
	middle := way.Way{X: d[1], Y: d[2]}.Over(num.Int(-2).Times(d[0]))
	return round.Circle{Middle: middle, R2: middle.Dot(middle).Minus(d[3].Over(d[0]))}
}

// least is the least disc around all spots that has those of edge, three at most, on its edge (Welzl): a spot that isn't in the least disc of those ahead lies on the edge of the one that has it too.
//
// Three of edge never lie on a line: the third one isn't in some disc with the first two on its edge, but in another one, and all such discs have the same of the line of those two.
func least(l []spot, edge ...spot) disc {
	made := none()
	switch len(edge) {
	case 1:
		made = across(edge[0], edge[0])
	case 2:
		made = across(edge[0], edge[1])
	case 3:
		made, _ = through(edge[0], edge[1], edge[2])
		return made
	}
	for i, p := range l {
		if made.value(p).Sign() > 0 {
			made = least(l[:i], append(edge, p)...)
		}
	}
	return made
}
