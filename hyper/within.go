package hyper

import (
	"compass/api"
	"compass/num"
	"compass/ruler"
	"compass/triple"
	"compass/way"
)

// pole of a line is the point without that all lines at right angles to it go through: so one of them is found as the line through two points. The other way round, it takes points to lines.
func pole(t triple.Triple) triple.Triple {
	t[2] = t[2].Negative()
	return t
}

// product is <,>, of points or of lines: of a point of the plane within and itself it is below 0, of a line of it above.
func product(t, u triple.Triple) num.Q { return t.Dot(pole(u)) }

// ratio is how far two points are from each other, or how two lines lean: that their numbers are known but for a factor doesn't count.
func ratio(t, u triple.Triple) num.Q {
	both := product(t, u)
	return both.Times(both).Over(product(t, t).Times(product(u, u)))
}

// readPoint is a point in whole numbers; ErrValue, unless it is within the circle.
func readPoint(p api.P) (triple.Triple, api.Errno) {
	read := triple.Whole(way.Read(p))
	if product(read, read).Sign() >= 0 {
		return triple.Triple{}, api.ErrValue
	}
	return read, api.OK
}

// readLine is a line in whole numbers; ErrFlat, unless it goes through points within the circle.
func readLine(l api.L) (triple.Triple, api.Errno) {
	plain := num.Plain(num.Read(l.A), num.Read(l.B), num.Read(l.C))
	read := triple.Triple{plain[0], plain[1], plain[2]}
	if product(read, read).Sign() <= 0 {
		return triple.Triple{}, api.ErrFlat
	}
	return read, api.OK
}

func readLines(l, m api.L) (first, second triple.Triple, e api.Errno) {
	first, e = readLine(l)
	if e != api.OK {
		return triple.Triple{}, triple.Triple{}, e
	}
	second, e = readLine(m)
	if e != api.OK {
		return triple.Triple{}, triple.Triple{}, e
	}
	return first, second, api.OK
}

func readBoth(l api.L, p api.P) (line, point triple.Triple, e api.Errno) {
	line, e = readLine(l)
	if e != api.OK {
		return triple.Triple{}, triple.Triple{}, e
	}
	point, e = readPoint(p)
	if e != api.OK {
		return triple.Triple{}, triple.Triple{}, e
	}
	return line, point, api.OK
}

// pointText is a point as it is answered: its first two numbers over its third, which isn't 0 within the circle.
func pointText(t triple.Triple) api.P {
	return way.Way{X: t[0], Y: t[1]}.Over(t[2]).Text()
}

// lineText is a line as it is answered: in plain form.
func lineText(t triple.Triple) api.L {
	return ruler.Line{Across: way.Way{X: t[0], Y: t[1]}, C: t[2]}.Text()
}
