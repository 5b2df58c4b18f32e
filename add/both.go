package add

import (
	"compass/api"
	"compass/rim"
	"compass/way"
)

// hulls are the rims of two.
type hulls [2]rim.Rim

// pair has a corner of each of two hulls.
type pair [2]way.Way

// read is what the texts of both tell; ErrMany, if one has too few points or too many.
func read(a, b []api.P) (hulls, api.Errno) {
	var both hulls
	for i, l := range [2][]api.P{a, b} {
		spots, e := rim.Read(l)
		if e != api.OK {
			return hulls{}, e
		}
		both[i] = rim.Around(spots)
	}
	return both, api.OK
}

// corners are those of the sum, each as the two whose sum it is, in the order of a rim.
//
// The sum's edges go the ways of the hulls' edges, in one order: so both hulls are gone around at once, each time along the edge that comes first in that order, or along two that go the same way. The first corners of both are its first one.
func (h hulls) corners() []pair {
	left := [2][]rim.Edge{h[0].Edges(), h[1].Edges()}
	at := pair{h[0][0].Way, h[1][0].Way}
	var made []pair
	for len(left[0])+len(left[1]) > 0 {
		made = append(made, at)
		for i, goes := range next(left) {
			if goes {
				at[i] = left[i][0][1].Way
				left[i] = left[i][1:]
			}
		}
	}
	return made
}

// next tells along which of the edges that are left to each the sum's edge goes: there is one at least.
//
// Of two, the one comes first to whose left the other goes: for they are less than half a turn apart. At first, both go up in the order of points. Later on, an edge is half a turn at most behind the one ahead of it on its rim, and that one came ahead of the other hull's. The edge of a single point goes nowhere: it turns to neither side of any, and so comes along with the first.
func next(left [2][]rim.Edge) [2]bool {
	switch {
	case len(left[0]) == 0:
		return [2]bool{false, true}
	case len(left[1]) == 0:
		return [2]bool{true, false}
	}
	turn := left[0][0].Way().Cross(left[1][0].Way()).Sign()
	return [2]bool{turn >= 0, turn <= 0}
}

// sum of both hulls.
func (h hulls) sum() rim.Rim {
	var made rim.Rim
	for _, c := range h.corners() {
		made = append(made, rim.At(c[0].Plus(c[1])))
	}
	return made
}

// mirrored is the hull of the points as far behind the origin.
func mirrored(r rim.Rim) rim.Rim {
	made := make([]rim.Spot, len(r))
	for i, p := range r {
		made[i] = rim.At(p.Negative())
	}
	return rim.Around(made)
}
