package circle

import (
	"compass/api"
	"compass/num"
	"compass/round"
	"compass/ruler"
	"compass/way"
)

// pair of circles: in what is asked of both, none of them comes first.
type pair [2]round.Circle

func readPair(c, d api.C) (pair, api.Errno) {
	var both pair
	if e := read(both[:], c, d); e != api.OK {
		return pair{}, e
	}
	return both, api.OK
}

// one tells if both are the same circle.
func (p pair) one() bool {
	return p.between().Nowhere() && p[0].R2.Minus(p[1].R2).Sign() == 0
}

// between is the way from middle to middle.
func (p pair) between() way.Way { return p[1].Middle.Minus(p[0].Middle) }

// axis has all points with one Power by both: what both Powers have of x x falls out of their difference.
func (p pair) axis() (ruler.Line, api.Errno) {
	between := p.between()
	switch {
	case p.one():
		return ruler.Line{}, api.ErrFree
	case between.Nowhere():
		return ruler.Line{}, api.ErrNone
	}
	origin := way.Way{}
	return ruler.Line{
		Across: between.Times(num.Int(2)),
		C:      p[0].Power(origin).Minus(p[1].Power(origin)),
	}, api.OK
}

// excess of the square of the distance of the middles over both R2.
func (p pair) excess() num.Q {
	between := p.between()
	return num.Sum(between.Dot(between), p[0].R2.Negative(), p[1].R2.Negative())
}

// lie holds excess against twice the product of the radii, which it is if they touch, and less which it is if one leans on the other: by their squares, as the radii need not be fractions.
func (p pair) lie() int {
	if p.one() {
		return api.Same
	}
	excess := p.excess()
	order := excess.Times(excess).Minus(num.Int(4).Times(p[0].R2).Times(p[1].R2)).Sign()
	if excess.Sign() < 0 {
		return [3]int{api.Crosses, api.Leans, api.Within}[order+1]
	}
	return [3]int{api.Crosses, api.Touches, api.Outside}[order+1]
}
