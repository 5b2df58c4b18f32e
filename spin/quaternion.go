package spin

import (
	"compass/api"
	"compass/num"
	"compass/triple"
)

// quaternion is W, X, Y and Z: a number, and a way of space.
type quaternion [4]num.Q

func read(a api.S) quaternion {
	return quaternion{num.Read(a.W), num.Read(a.X), num.Read(a.Y), num.Read(a.Z)}
}

func (a quaternion) text() api.S {
	return api.S{W: a[0].Text(), X: a[1].Text(), Y: a[2].Text(), Z: a[3].Text()}
}

func of(w num.Q, v triple.Triple) quaternion { return quaternion{w, v[0], v[1], v[2]} }

func (a quaternion) way() triple.Triple { return triple.Triple{a[1], a[2], a[3]} }

// units are 1, i, j and k.
func units() [4]quaternion {
	one := num.Int(1)
	return [4]quaternion{{0: one}, {1: one}, {2: one}, {3: one}}
}

func (a quaternion) plus(b quaternion) quaternion {
	for i := range a {
		a[i] = a[i].Plus(b[i])
	}
	return a
}

func (a quaternion) over(k num.Q) quaternion {
	for i := range a {
		a[i] = a[i].Over(k)
	}
	return a
}

// times: the product of two ways is less their Dot, and their Cross.
func (a quaternion) times(b quaternion) quaternion {
	v, w := a.way(), b.way()
	return of(a[0].Times(b[0]).Minus(v.Dot(w)), w.Times(a[0]).Plus(v.Times(b[0])).Plus(v.Cross(w)))
}

// conjugate has the way turned round: what both make together, on either side, is the norm.
func (a quaternion) conjugate() quaternion { return of(a[0], triple.Triple{}.Minus(a.way())) }

func (a quaternion) norm() num.Q { return a[0].Times(a[0]).Plus(a.way().Length2()) }

// first of the numbers that isn't 0: 0, if all are.
func (a quaternion) first() num.Q {
	for _, q := range a {
		if q.Sign() != 0 {
			return q
		}
	}
	return num.Q{}
}

// plain is a so many times, in whole numbers.
func (a quaternion) plain() quaternion { return quaternion(num.Plain(a[:]...)) }
