// Package way has points of the plane, as ways from the origin: what api.P tells as texts.
package way

import (
	"compass/api"
	"compass/num"
)

// Way goes X to the right and Y up. Its zero value is the origin.
type Way struct{ X, Y num.Q }

// Read is what the texts of a point tell.
func Read(p api.P) Way { return Way{num.Read(p.X), num.Read(p.Y)} }

// Text is the point as it is answered.
func (w Way) Text() api.P { return api.P{X: w.X.Text(), Y: w.Y.Text()} }

// Answer is what was found as it is answered: nothing beside an error.
func Answer(w Way, e api.Errno) (api.P, api.Errno) {
	if e != api.OK {
		return api.P{}, e
	}
	return w.Text(), api.OK
}

// Plus goes w, then v.
func (w Way) Plus(v Way) Way { return Way{w.X.Plus(v.X), w.Y.Plus(v.Y)} }

// Minus is the way from v to w.
func (w Way) Minus(v Way) Way { return Way{w.X.Minus(v.X), w.Y.Minus(v.Y)} }

// Negative goes w backwards.
func (w Way) Negative() Way { return Way{w.X.Negative(), w.Y.Negative()} }

// Times goes w k times.
func (w Way) Times(k num.Q) Way { return Way{w.X.Times(k), w.Y.Times(k)} }

// Over goes w once in k times: nowhere, if k is 0.
func (w Way) Over(k num.Q) Way { return Way{w.X.Over(k), w.Y.Over(k)} }

// Left is w turned by a right angle against the clock.
func (w Way) Left() Way { return Way{w.Y.Negative(), w.X} }

// Dot is X times X and Y times Y: of w and w its length, squared.
func (w Way) Dot(v Way) num.Q { return num.Sum(w.X.Times(v.X), w.Y.Times(v.Y)) }

// Cross is X times Y less Y times X: above 0, if v goes to the left of w.
func (w Way) Cross(v Way) num.Q { return w.X.Times(v.Y).Minus(w.Y.Times(v.X)) }

// Conjugate is w mirrored at the level line through the origin.
func (w Way) Conjugate() Way { return Way{w.X, w.Y.Negative()} }

// Product of both as complex numbers: it turns as far as both together.
func (w Way) Product(v Way) Way { return Way{w.Dot(v.Conjugate()), w.Conjugate().Cross(v)} }

// Quotient of both as complex numbers: what times v is w; nowhere, if v is.
func (w Way) Quotient(v Way) Way { return w.Product(v.Conjugate()).Over(v.Dot(v)) }

// Compare is -1 if w comes ahead of v, 0 if both are one, 1 if it comes behind: the one with the lesser X is first, of two with one X the one with the lesser Y. So points of one line are in their order along it.
func (w Way) Compare(v Way) int {
	if order := w.X.Compare(v.X); order != 0 {
		return order
	}
	return w.Y.Compare(v.Y)
}

// Nowhere tells if the way has no length.
func (w Way) Nowhere() bool { return w.X.Sign() == 0 && w.Y.Sign() == 0 }

// Sum goes all ways, one after the other.
func Sum(l ...Way) Way {
	var sum Way
	for _, w := range l {
		sum = sum.Plus(w)
	}
	return sum
}

// Turn is by how much three points turn: above 0, if they go against the clock; 0, if they lie on one line.
func Turn(a, b, c Way) num.Q { return b.Minus(a).Cross(c.Minus(a)) }

// Mean of points, of which each has its weight; ErrNone, if the weights add up to 0.
func Mean(l []Way, weights []num.Q) (Way, api.Errno) {
	total := num.Sum(weights...)
	if total.Sign() == 0 {
		return Way{}, api.ErrNone
	}
	var sum Way
	for i, w := range l {
		sum = sum.Plus(w.Times(weights[i]))
	}
	return sum.Over(total), api.OK
}
