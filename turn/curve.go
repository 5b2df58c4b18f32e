package turn

import (
	"compass/api"
	"compass/num"
	"compass/round"
	"compass/ruler"
	"compass/way"
)

// curve is a circle or a line: of all points z at which bend (z . z) + across . z + rest is 0.
type curve struct {
	bend   num.Q
	across way.Way
	rest   num.Q
}

// readCurve is what the texts tell, not made plain; ErrFlat, if that is neither a circle nor a line.
func readCurve(g api.G) (curve, api.Errno) {
	read := curve{num.Read(g.A), way.Read(api.P{X: g.B, Y: g.C}), num.Read(g.D)}
	if read.spread().Sign() <= 0 {
		return curve{}, api.ErrFlat
	}
	return read, api.OK
}

// text is the curve as it is answered: in plain form.
func (c curve) text() api.G {
	plain := num.Plain(c.bend, c.across.X, c.across.Y, c.rest)
	return api.G{A: plain[0].Text(), B: plain[1].Text(), C: plain[2].Text(), D: plain[3].Text()}
}

// spread is B B + C C - 4 A D. It is above 0 of circles and of lines alike, and of nothing else.
func (c curve) spread() num.Q {
	return c.across.Dot(c.across).Minus(num.Int(4).Times(c.bend).Times(c.rest))
}

func (c curve) straight() bool { return c.bend.Sign() == 0 }

func ofLine(l ruler.Line) curve { return curve{across: l.Across, rest: l.C} }

func (c curve) line() ruler.Line { return ruler.Line{Across: c.across, C: c.rest} }

func ofCircle(c round.Circle) curve {
	return curve{num.Int(1), c.Middle.Times(num.Int(-2)), c.Power(way.Way{})}
}

func (c curve) circle() round.Circle {
	twice := num.Int(-2).Times(c.bend)
	return round.Circle{Middle: c.across.Over(twice), R2: c.spread().Over(twice.Times(twice))}
}

// mirrored at the level line through the origin.
func (c curve) mirrored() curve { return curve{c.bend, c.across.Conjugate(), c.rest} }

// carried has what the map makes of the points of c.
//
// A point w comes from the ratio of the two numbers that the map back makes of it: of w p + q, if p and q are that map's columns. Of such two numbers u, c's equation is that what it makes of the pair u, u is 0; and as it adds up in both places, that falls apart into what it makes of the pairs of p and q.
func (c curve) carried(t table) curve {
	back, two := t.back(), num.Int(2)
	p, q := [2]way.Way{back[0], back[2]}, [2]way.Way{back[1], back[3]}
	made := func(u, v [2]way.Way) way.Way {
		mixed := way.Sum(u[0].Times(c.bend).Times(two), u[1].Product(c.across)).Product(v[0].Conjugate())
		rest := way.Sum(u[0].Product(c.across.Conjugate()), u[1].Times(c.rest).Times(two)).Product(v[1].Conjugate())
		return mixed.Plus(rest)
	}
	return curve{made(p, p).X, made(q, p).Times(two), made(q, q).X}
}
