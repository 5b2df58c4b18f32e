package turn

import (
	"compass/api"
	"compass/num"
	"compass/round"
	"compass/way"
)

// table of a map, row by row: it takes z to the ratio of what both rows make of it.
type table [4]way.Way

// readTable is what the texts tell, not brought to a first number of 1; ErrFlat, if that is no map.
func readTable(m api.M) (table, api.Errno) {
	read := table{way.Read(m.A), way.Read(m.B), way.Read(m.C), way.Read(m.D)}
	if read[0].Product(read[3]).Minus(read[1].Product(read[2])).Nowhere() {
		return table{}, api.ErrFlat
	}
	return read, api.OK
}

// text is the map as it is answered: the first that isn't 0 is 1.
func (t table) text() api.M {
	var first way.Way
	for _, w := range t {
		if !w.Nowhere() {
			first = w
			break
		}
	}
	part := func(i int) api.P { return t[i].Quotient(first).Text() }
	return api.M{A: part(0), B: part(1), C: part(2), D: part(3)}
}

// at has the two numbers whose ratio the map makes of z.
func (t table) at(z way.Way) (up, low way.Way) {
	return t[0].Product(z).Plus(t[1]), t[2].Product(z).Plus(t[3])
}

// after is s, then t.
func (t table) after(s table) table {
	part := func(row, column int) way.Way {
		return t[2*row].Product(s[column]).Plus(t[2*row+1].Product(s[2+column]))
	}
	return table{part(0, 0), part(0, 1), part(1, 0), part(1, 1)}
}

// back undoes t, but for a factor, which doesn't count.
func (t table) back() table { return table{t[3], t[1].Negative(), t[2].Negative(), t[0]} }

// level takes the three points to 0, to 1, and out of the plane; ErrFlat, if two of them are one.
func level(l [3]api.P) (table, api.Errno) {
	p := [3]way.Way{way.Read(l[0]), way.Read(l[1]), way.Read(l[2])}
	if twice(p[:]) {
		return table{}, api.ErrFlat
	}
	up, low := p[1].Minus(p[2]), p[1].Minus(p[0])
	return table{up, up.Product(p[0]).Negative(), low, low.Product(p[2]).Negative()}, api.OK
}

// insideOut makes of a point's mirror image at the level line through the origin what the circle makes of the point. No map does it alone: maps keep the sense in which angles turn.
func insideOut(c round.Circle) table {
	origin, one := way.Way{}, way.Way{X: num.Int(1)}
	return table{c.Middle, way.Way{X: c.Power(origin).Negative()}, one, c.Middle.Conjugate().Negative()}
}
