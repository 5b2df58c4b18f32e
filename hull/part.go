package hull

import (
	"slices"

	"compass/api"
	"compass/num"
	"compass/rim"
	"compass/ruler"
	"compass/way"
)

// parting is a line above 0 at all corners of a, below 0 at all of b; false, if there is none.
//
// The hull of all differences, of a point of a less one of b, has its edges along those of a and b: if it has an area, the origin is outside just if it lies beyond one of these. If it has none, a and b lie beside each other, and so beyond an edge, or on one line, and then one behind the other.
func parting(a, b rim.Rim) (ruler.Line, bool) {
	for _, across := range acrosses(a, b) {
		low, high := least(each(a, across.Dot)), greatest(each(b, across.Dot))
		if low.Compare(high) > 0 {
			return ruler.Line{Across: across, C: low.Plus(high).Over(num.Int(-2))}, true
		}
	}
	return ruler.Line{}, false
}

// acrosses are the ways along which a may lie farther than b: into a at its edges, out of b at its edges, and from b to a.
func acrosses(a, b rim.Rim) []way.Way {
	ways := []way.Way{a[0].Minus(b[0].Way)}
	for _, edge := range a.Edges() {
		ways = append(ways, edge.Way().Left())
	}
	for _, edge := range b.Edges() {
		ways = append(ways, edge.Way().Negative().Left())
	}
	return ways
}

// common is a point of both hulls; false, if there is none. What they have in common has corners of its own, if it is anything: each is a corner of one of them, or lies where two edges cross.
func common(a, b rim.Rim) (way.Way, bool) {
	if p, ok := cornerIn(a, b); ok {
		return p, true
	}
	if p, ok := cornerIn(b, a); ok {
		return p, true
	}
	for _, edge := range a.Edges() {
		for _, other := range b.Edges() {
			if p, ok := edge.Cross(other); ok {
				return p, true
			}
		}
	}
	return way.Way{}, false
}

// cornerIn is a corner of a that lies in the hull of b.
func cornerIn(a, b rim.Rim) (way.Way, bool) {
	at := slices.IndexFunc(a, func(p rim.Spot) bool { return b.Side(p) >= 0 })
	if at < 0 {
		return way.Way{}, false
	}
	return a[at].Way, true
}

// split has in one the points whose bits of the number are set, the first point's being the lowest, and the others in the other.
func split(l [4]api.P, number int) (part [4]bool, one, other []rim.Spot) {
	for i, p := range l {
		if number>>i&1 == 1 {
			part[i] = true
			one = append(one, spotOf(p))
		} else {
			other = append(other, spotOf(p))
		}
	}
	return part, one, other
}
