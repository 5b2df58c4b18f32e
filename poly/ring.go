package poly

import (
	"compass/api"
	"compass/num"
	"compass/ruler"
	"compass/way"
)

// ring of corners: an edge runs from each to the next, and from the last to the first.
type ring []way.Way

// read is what the texts of a ring tell; ErrMany, if that has too few corners or too many.
func read(l []api.P) (ring, api.Errno) {
	if len(l) < 3 || len(l) > api.MaxCorners {
		return nil, api.ErrMany
	}
	r := make(ring, len(l))
	for i, p := range l {
		r[i] = way.Read(p)
	}
	return r, api.OK
}

// readSimple is read, and ErrForm, unless the ring is simple.
func readSimple(l []api.P) (ring, *turns, api.Errno) {
	r, e := read(l)
	if e != api.OK {
		return nil, nil, e
	}
	t := turnsOf(r)
	if !r.simple(t) {
		return nil, nil, api.ErrForm
	}
	return r, t, api.OK
}

// next is the corner to which the edge from corner i runs.
func (r ring) next(i int) int { return (i + 1) % len(r) }

// crosses are what each edge adds to Area2: the triangle that it makes with the origin.
func (r ring) crosses() []num.Q {
	l := make([]num.Q, len(r))
	for i, p := range r {
		l[i] = p.Cross(r[r.next(i)])
	}
	return l
}

func (r ring) area2() num.Q { return num.Sum(r.crosses()...) }

// mass is the mean of the middles of those triangles: of each a third of the sum of its corners.
func (r ring) mass() (way.Way, api.Errno) {
	sums := make([]way.Way, len(r))
	for i, p := range r {
		sums[i] = p.Plus(r[r.next(i)])
	}
	mean, e := way.Mean(sums, r.crosses())
	return mean.Over(num.Int(3)), e
}

// side is told by the ray from p to the right: each edge that it meets parts what is within from what is outside. Of the ends of an edge the upper one doesn't count: so a ray through a corner meets one of its edges, or both, or none, as one a little above would.
func (r ring) side(p way.Way) int {
	side := -1
	for i, from := range r {
		to := r[r.next(i)]
		turn := way.Turn(from, to, p).Sign()
		if turn == 0 && between(from, to, p) {
			return 0
		}
		if rise := above(to, p) - above(from, p); rise*turn > 0 {
			side = -side
		}
	}
	return side
}

// above is 1 of a point that lies higher than p, else 0.
func above(q, p way.Way) int { return max(q.Y.Minus(p.Y).Sign(), 0) }

// between tells of three points on a line if p lies between a and b, or is one of them.
func between(a, b, p way.Way) bool { return a.Minus(p).Dot(b.Minus(p)).Sign() <= 0 }

// cut is what lies on the side of a line on which that one isn't below 0.
func (r ring) cut(by ruler.Line) []way.Way {
	var left []way.Way
	for i, from := range r {
		to := r[r.next(i)]
		here, there := by.Value(from), by.Value(to)
		if here.Sign() >= 0 {
			left = append(left, from)
		}
		if here.Sign()*there.Sign() < 0 {
			part := here.Over(here.Minus(there))
			left = append(left, from.Plus(to.Minus(from).Times(part)))
		}
	}
	return left
}
