package conic

import (
	"compass/api"
	"compass/num"
	"compass/ruler"
	"compass/triple"
	"compass/way"
)

// table of a conic, twice, so that none of its numbers need be halved. Its rows are lines: at a point, the first two make of it how fast the conic grows to the right, and up.
type table triple.Table

func (s shape) table() table {
	two := num.Int(2)
	return table{
		{s[0].Times(two), s[1], s[3]},
		{s[1], s[2].Times(two), s[4]},
		{s[3], s[4], s[5].Times(two)},
	}
}

// at is a point as a triple.
func at(w way.Way) triple.Triple { return triple.Triple{w.X, w.Y, num.Int(1)} }

// toward is where a way goes in the end, which is no point of the plane.
func toward(w way.Way) triple.Triple { return triple.Triple{w.X, w.Y} }

// times is what the rows make of u.
func (t table) times(u triple.Triple) triple.Triple { return triple.Table(t).Times(u) }

// pair is twice what the conic makes of the pair u, v: of a point and itself, twice what it makes of that.
func (t table) pair(u, v triple.Triple) num.Q { return u.Dot(t.times(v)) }

// polar has all x of which the pair u, x makes 0; ErrNone, if that is no line. Of where a way goes, it has the points at which the conic neither grows nor shrinks along it.
func (t table) polar(u triple.Triple) (api.L, api.Errno) {
	made := t.times(u)
	line := ruler.Line{Across: way.Way{X: made[0], Y: made[1]}, C: made[2]}
	if line.Across.Nowhere() {
		return api.L{}, api.ErrNone
	}
	return line.Text(), api.OK
}

// centre is where the first two rows meet: there the conic grows neither to the right nor up. ErrNone, if there is no such one point.
func (t table) centre() (way.Way, api.Errno) {
	meet := t[0].Cross(t[1])
	if meet[2].Sign() == 0 {
		return way.Way{}, api.ErrNone
	}
	return way.Way{X: meet[0], Y: meet[1]}.Over(meet[2]), api.OK
}

// kind goes by the signs of d and D alone: as the table is twice that of the document, its determinant is 2 D.
func (t table) kind() int {
	meet := t[0].Cross(t[1])
	d, whole := meet[2].Sign(), meet.Dot(t[2]).Sign()
	switch {
	case whole == 0 && d != 0:
		return api.Lines
	case whole == 0:
		return api.Beside
	case d < 0:
		return api.Hyperbola
	case d == 0:
		return api.Parabola
	case whole*t[0][0].Plus(t[1][1]).Sign() > 0:
		return api.Void
	default:
		return api.Ellipse
	}
}
