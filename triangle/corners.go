package triangle

import (
	"compass/api"
	"compass/num"
	"compass/way"
)

// corners of a triangle: they don't lie on one line.
type corners [3]way.Way

// read is what the texts of a triangle tell; ErrFlat, if that is none.
func read(t [3]api.P) (corners, api.Errno) {
	c := corners(told(t, way.Read))
	if c.turn().Sign() == 0 {
		return corners{}, api.ErrFlat
	}
	return c, api.OK
}

func (c corners) turn() num.Q { return way.Turn(c[0], c[1], c[2]) }

// sides are squared.
func (c corners) sides() [3]num.Q {
	return around(c, func(_, next, last way.Way) num.Q {
		side := last.Minus(next)
		return side.Dot(side)
	})
}

// weights of p: as each side's triangle with p is to the whole.
func (c corners) weights(p way.Way) [3]num.Q {
	whole := c.turn()
	return around(c, func(_, next, last way.Way) num.Q {
		return way.Turn(p, next, last).Over(whole)
	})
}

// diameter is squared: that of the circle through the corners, which the product of the sides tells without its middle.
func (c corners) diameter() num.Q {
	sides, whole := c.sides(), c.turn()
	return sides[0].Times(sides[1]).Times(sides[2]).Over(whole.Times(whole))
}

func (c corners) mean(weights [3]num.Q) (way.Way, api.Errno) {
	return way.Mean(c[:], weights[:])
}

func (c corners) centre(which int) (way.Way, api.Errno) {
	weigh, e := weighing(which)
	if e != api.OK {
		return way.Way{}, e
	}
	return c.mean(around(c.sides(), weigh))
}

// weighing is how a centre weighs a corner, by the squares of its side and of the two others; ErrWho, if there is no such centre. The weights of no centre add up to 0: those of Around, and those of Heights, are together four times the square of turn.
func weighing(which int) (func(own, next, last num.Q) num.Q, api.Errno) {
	circle := func(own, next, last num.Q) num.Q {
		return own.Times(num.Sum(next, last, own.Negative()))
	}
	heights := func(own, next, last num.Q) num.Q {
		return num.Sum(own, next, last.Negative()).Times(num.Sum(own, last, next.Negative()))
	}
	switch which {
	case api.Mass:
		return func(_, _, _ num.Q) num.Q { return num.Int(1) }, api.OK
	case api.Around:
		return circle, api.OK
	case api.Heights:
		return heights, api.OK
	case api.Nine:
		// Both add up to the same: so their sum weighs what lies half way between.
		return func(own, next, last num.Q) num.Q {
			return circle(own, next, last).Plus(heights(own, next, last))
		}, api.OK
	case api.Lemoine:
		return func(own, _, _ num.Q) num.Q { return own }, api.OK
	default:
		return nil, api.ErrWho
	}
}

// around asks f for each of three things, together with the two that follow it around the triangle.
func around[S, T any](l [3]S, f func(own, next, last S) T) [3]T {
	return [3]T{f(l[0], l[1], l[2]), f(l[1], l[2], l[0]), f(l[2], l[0], l[1])}
}

// told asks f for each of three things alone.
func told[S, T any](l [3]S, f func(S) T) [3]T {
	return [3]T{f(l[0]), f(l[1]), f(l[2])}
}
