package space

import (
	"compass/api"
	"compass/num"
	"compass/triple"
)

// readLine is the line of two points: the first of them, and the way along; ErrFlat, if both are one.
func readLine(p, q api.P3) (from, along triple.Triple, e api.Errno) {
	from = triple.Read(p)
	along = triple.Read(q).Minus(from)
	if along.Nothing() {
		return triple.Triple{}, triple.Triple{}, api.ErrFlat
	}
	return from, along, api.OK
}

func readCorners(l [4]api.P3) [4]triple.Triple {
	var corners [4]triple.Triple
	for i, p := range l {
		corners[i] = triple.Read(p)
	}
	return corners
}

// around is as far from all four corners; ErrFlat, if they lie on a plane.
func around(corners [4]triple.Triple) (triple.Triple, api.Errno) {
	var l [3]sheet
	for i := range l {
		halves, e := between(corners[0], corners[i+1])
		if e != api.OK {
			return triple.Triple{}, e
		}
		l[i] = halves
	}
	middle, e := meet(l)
	if e != api.OK {
		// The edges from one corner lie on a plane just if what stands at right angles to them doesn't meet in one point.
		return triple.Triple{}, api.ErrFlat
	}
	return middle, api.OK
}

// apart is the square of the distance of two lines, each told by a point and a way, which isn't 0.
func apart(from, along, to, other triple.Triple) num.Q {
	gap := to.Minus(from)
	across := along.Cross(other)
	if across.Nothing() {
		// Beside each other: any way between them is as long as their distance, but for what of it goes along.
		return along.Cross(gap).Length2().Over(along.Length2())
	}
	reach := across.Dot(gap)
	return reach.Times(reach).Over(across.Length2())
}
