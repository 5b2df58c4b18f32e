// Package round has circles of the plane: what api.C tells as texts.
package round

import (
	"compass/api"
	"compass/num"
	"compass/ruler"
	"compass/way"
)

// Circle has all points that are as far from Middle, by the square R2, which is above 0.
type Circle struct {
	Middle way.Way
	R2     num.Q
}

// Read is what the texts of a circle tell; ErrValue, if that is none.
func Read(c api.C) (Circle, api.Errno) {
	read := Circle{way.Read(c.M), num.Read(c.R2)}
	if read.R2.Sign() <= 0 {
		return Circle{}, api.ErrValue
	}
	return read, api.OK
}

// Text is the circle as it is answered.
func (c Circle) Text() api.C { return api.C{M: c.Middle.Text(), R2: c.R2.Text()} }

// Power is the square of p's distance to the middle, less R2: 0 on the circle, below 0 within.
func (c Circle) Power(p way.Way) num.Q {
	radius := p.Minus(c.Middle)
	return radius.Dot(radius).Minus(c.R2)
}

// Has tells if p is on the circle.
func (c Circle) Has(p way.Way) bool { return c.Power(p).Sign() == 0 }

// Polar of a point that isn't the middle m: of all x for which (p - m) . (x - m) is R2. It touches at p, if p is on the circle.
func (c Circle) Polar(p way.Way) ruler.Line {
	line := ruler.Square(c.Middle, p.Minus(c.Middle))
	line.C = line.C.Minus(c.R2)
	return line
}

// Pole is the point whose Polar is l; ErrNone, if l goes through the middle.
func (c Circle) Pole(l ruler.Line) (way.Way, api.Errno) {
	value := l.Value(c.Middle)
	if value.Sign() == 0 {
		return way.Way{}, api.ErrNone
	}
	return c.Middle.Minus(l.Across.Times(c.R2.Over(value))), api.OK
}

// Second is the other point on the line that goes that way, which isn't 0, from p, which is on the circle: p itself, if the line touches.
func (c Circle) Second(p, along way.Way) way.Way {
	radius := p.Minus(c.Middle)
	back := num.Int(-2).Times(radius.Dot(along)).Over(along.Dot(along))
	return p.Plus(along.Times(back))
}
