package triple

import (
	"compass/api"
	"compass/num"
)

// Read is what the texts of a point of space tell.
func Read(p api.P3) Triple { return Triple{num.Read(p.X), num.Read(p.Y), num.Read(p.Z)} }

// Point is a point of space as it is answered.
func (t Triple) Point() api.P3 { return api.P3{X: t[0].Text(), Y: t[1].Text(), Z: t[2].Text()} }

// Answer is the point of space that was found as it is answered: nothing beside an error.
func Answer(t Triple, e api.Errno) (api.P3, api.Errno) {
	if e != api.OK {
		return api.P3{}, e
	}
	return t.Point(), api.OK
}

// Minus is the way from u to t.
func (t Triple) Minus(u Triple) Triple {
	for i := range t {
		t[i] = t[i].Minus(u[i])
	}
	return t
}

// Over goes t once in k times: nowhere, if k is 0.
func (t Triple) Over(k num.Q) Triple {
	for i := range t {
		t[i] = t[i].Over(k)
	}
	return t
}

// Length2 is the square of the length of a way.
func (t Triple) Length2() num.Q { return t.Dot(t) }
