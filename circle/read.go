package circle

import (
	"compass/api"
	"compass/round"
	"compass/ruler"
	"compass/way"
)

// read fills an array with as many circles as are told by texts.
func read(circles []round.Circle, l ...api.C) api.Errno {
	for i, c := range l {
		var e api.Errno
		if circles[i], e = round.Read(c); e != api.OK {
			return e
		}
	}
	return api.OK
}

// readWithLine asks for the line first: of what may be wrong with both, the document tells that of lines first.
func readWithLine(c api.C, l api.L) (round.Circle, ruler.Line, api.Errno) {
	line, e := ruler.Read(l)
	if e != api.OK {
		return round.Circle{}, ruler.Line{}, e
	}
	circle, e := round.Read(c)
	if e != api.OK {
		return round.Circle{}, ruler.Line{}, e
	}
	return circle, line, api.OK
}

// readWithOn reads a circle and a point that must be on it; ErrNone, if it isn't.
func readWithOn(c api.C, p api.P) (round.Circle, way.Way, api.Errno) {
	circle, e := round.Read(c)
	if e != api.OK {
		return round.Circle{}, way.Way{}, e
	}
	on := way.Read(p)
	if !circle.Has(on) {
		return round.Circle{}, way.Way{}, api.ErrNone
	}
	return circle, on, api.OK
}
