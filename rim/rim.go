// Package rim has what is stretched around points: the corners and edges of their hull.
package rim

import (
	"slices"

	"compass/api"
	"compass/triple"
	"compass/way"
)

// Spot is a point, and beside it the same in whole numbers, by which turns are told sooner.
type Spot struct {
	way.Way
	whole triple.Triple
}

// At is a point as a spot.
func At(p way.Way) Spot { return Spot{p, triple.Whole(p)} }

// Read is what the texts of points tell; ErrMany, if these are too few or too many.
func Read(l []api.P) ([]Spot, api.Errno) {
	if len(l) < 1 || len(l) > api.MaxPoints {
		return nil, api.ErrMany
	}
	spots := make([]Spot, len(l))
	for i, p := range l {
		spots[i] = At(way.Read(p))
	}
	return spots, api.OK
}

// Compare is the order of points: spots are sorted by it.
func (s Spot) Compare(t Spot) int { return s.Way.Compare(t.Way) }

// Edge runs from one spot to another.
type Edge [2]Spot

// Way is the way along the edge.
func (e Edge) Way() way.Way { return e[1].Minus(e[0].Way) }

// line is above 0 to the left of the edge; it is nothing, if the edge ends where it begins.
func (e Edge) line() triple.Triple { return e[0].whole.Cross(e[1].whole) }

// Turn is 1 of what lies to the left of the edge's line, 0 of what lies on it, -1 of what lies to its right; 0 of everything, if the edge ends where it begins.
func (e Edge) Turn(p Spot) int { return e.line().Dot(p.whole).Sign() }

// between tells of a spot on the edge's line if it lies between its ends, or is one of them.
func (e Edge) between(p Spot) bool { return e[0].Compare(p)*e[1].Compare(p) <= 0 }

// Cross is the point that both have in common, if that is an end of neither, and they don't lie along each other.
func (e Edge) Cross(f Edge) (way.Way, bool) {
	if e.Turn(f[0])*e.Turn(f[1]) >= 0 || f.Turn(e[0])*f.Turn(e[1]) >= 0 {
		return way.Way{}, false
	}
	meet := e.line().Cross(f.line())
	return way.Way{X: meet[0], Y: meet[1]}.Over(meet[2]), true
}

// Rim has the corners of a hull against the clock, the first in the order of points ahead, no three of them on a line: of points on a line both ends, of one point itself.
type Rim []Spot

// Around is the rim of the hull of points, of which there is one at least.
func Around(l []Spot) Rim {
	sorted := slices.Clone(l)
	slices.SortFunc(sorted, Spot.Compare)
	sorted = slices.CompactFunc(sorted, func(a, b Spot) bool { return a.Compare(b) == 0 })
	if len(sorted) == 1 {
		return sorted
	}
	there := bend(sorted)
	slices.Reverse(sorted)
	back := bend(sorted)
	// Each of them ends where the other one begins.
	return slices.Concat(there[:len(there)-1], back[:len(back)-1])
}

// bend leaves of sorted spots those at which the way from the first to the last turns left, all others being to the left of it (Andrew).
func bend(sorted []Spot) []Spot {
	var left []Spot
	for _, p := range sorted {
		for n := len(left); n > 1 && (Edge{left[n-2], left[n-1]}).Turn(p) <= 0; n-- {
			left = left[:n-1]
		}
		left = append(left, p)
	}
	return left
}

// Edges run from each corner to the next, from the last to the first: of two corners there and back, of one to itself.
func (r Rim) Edges() []Edge {
	edges := make([]Edge, len(r))
	for i, p := range r {
		edges[i] = Edge{p, r[(i+1)%len(r)]}
	}
	return edges
}

// Side is 1 of what lies within, 0 of what lies on an edge, -1 of what lies outside.
func (r Rim) Side(p Spot) int {
	side := 1
	for _, e := range r.Edges() {
		switch turn := e.Turn(p); {
		case turn < 0 || turn == 0 && !e.between(p):
			return -1
		case turn == 0:
			side = 0
		}
	}
	return side
}
