// Package plane has points: see doc/01-plane.md.
package plane

import (
	"compass/api"
	"compass/num"
	"compass/way"
)

// Far2 is the square of the distance.
func Far2(p, q api.P) api.Q {
	d := between(p, q)
	return d.Dot(d).Text()
}

// Area2 is twice the area: above 0, if the points go against the clock.
func Area2(a, b, c api.P) api.Q { return turn(a, b, c).Text() }

// Turn is the sign of Area2.
func Turn(a, b, c api.P) int { return turn(a, b, c).Sign() }

// At is p and k times the way from p to q.
func At(p, q api.P, k api.Q) api.P {
	return way.Sum(way.Read(p), between(p, q).Times(num.Read(k))).Text()
}

// Ratio is the k for which At(a, b, k) is p.
func Ratio(a, b, p api.P) (api.Q, api.Errno) {
	whole, part := between(a, b), between(a, p)
	if whole.Nowhere() {
		return "", api.ErrFlat
	}
	if whole.Cross(part).Sign() != 0 {
		return "", api.ErrNone
	}
	// Both ways lie on one line: so k is told by products, without asking which of X and Y isn't 0.
	return part.Dot(whole).Over(whole.Dot(whole)).Text(), api.OK
}

// Mean is the sum of each point times its weight, over the sum of the weights.
func Mean(l []api.P, w []api.Q) (api.P, api.Errno) {
	if len(l) > api.MaxPoints {
		return api.P{}, api.ErrMany
	}
	if len(w) != len(l) {
		return api.P{}, api.ErrCount
	}
	points := make([]way.Way, len(l))
	weights := make([]num.Q, len(w))
	for i := range l {
		points[i], weights[i] = way.Read(l[i]), num.Read(w[i])
	}
	return way.Answer(way.Mean(points, weights))
}

// between is the way from p to q.
func between(p, q api.P) way.Way { return way.Read(q).Minus(way.Read(p)) }

func turn(a, b, c api.P) num.Q { return way.Turn(way.Read(a), way.Read(b), way.Read(c)) }
