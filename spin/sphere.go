package spin

import (
	"compass/api"
	"compass/num"
	"compass/triple"
	"compass/way"
)

// fallen is where the light of the top throws p on the level plane: so many times as far from the middle as the top is higher than p; ErrValue, if p isn't on the sphere, ErrNone of the top.
func fallen(p triple.Triple) (way.Way, api.Errno) {
	if !isOne(p.Length2()) {
		return way.Way{}, api.ErrValue
	}
	below := num.Int(1).Minus(p[2])
	if below.Sign() == 0 {
		return way.Way{}, api.ErrNone
	}
	return way.Way{X: p[0], Y: p[1]}.Over(below), api.OK
}

// raised is where the line from the top to p, which is on the level plane, goes through the sphere.
func raised(p way.Way) triple.Triple {
	two, far2 := num.Int(2), p.Dot(p)
	return triple.Triple{p.X.Times(two), p.Y.Times(two), far2.Minus(num.Int(1))}.Over(far2.Plus(num.Int(1)))
}
