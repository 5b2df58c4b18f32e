package hull

import (
	"slices"

	"compass/api"
	"compass/num"
	"compass/rim"
	"compass/ruler"
	"compass/way"
)

// spotOf is what the texts of a point tell.
func spotOf(p api.P) rim.Spot { return rim.At(way.Read(p)) }

// each is what is measured of each spot.
func each(l []rim.Spot, measure func(way.Way) num.Q) []num.Q {
	made := make([]num.Q, len(l))
	for i, p := range l {
		made[i] = measure(p.Way)
	}
	return made
}

func least(l []num.Q) num.Q { return slices.MinFunc(l, num.Q.Compare) }

func greatest(l []num.Q) num.Q { return slices.MaxFunc(l, num.Q.Compare) }

// widest is the square of the greatest distance, and the first two that have it: 0, 0, if all are one point.
func widest(l []rim.Spot) (far2 num.Q, at [2]int) {
	for i, p := range l {
		for j := i + 1; j < len(l); j++ {
			apart := l[j].Minus(p.Way)
			if square := apart.Dot(apart); square.Compare(far2) > 0 {
				far2, at = square, [2]int{i, j}
			}
		}
	}
	return far2, at
}

// narrowest goes through the edges: of two lines that are as close as can be, one lies along an edge.
func narrowest(r rim.Rim) num.Q {
	if len(r) < 3 {
		return num.Q{}
	}
	var squares []num.Q
	for _, edge := range r.Edges() {
		across := edge.Way().Left()
		// No corner lies to the right of the edge: so none of these is below 0.
		far := greatest(each(r, ruler.Square(edge[0].Way, across).Value))
		squares = append(squares, far.Times(far).Over(across.Dot(across)))
	}
	return least(squares)
}

// peel takes off what lies on the edge of the hull of what is left, until nothing is left. Of each point it is when that was taken off.
func peel(l []rim.Spot) []int {
	layers := make([]int, len(l))
	var left []int
	for i := range l {
		left = append(left, i)
	}
	// A hull's corners lie on its edge: so each time something goes.
	for layer := 1; len(left) > 0; layer++ {
		var spots []rim.Spot
		for _, i := range left {
			spots = append(spots, l[i])
		}
		around := rim.Around(spots)
		left = slices.DeleteFunc(left, func(i int) bool {
			if around.Side(l[i]) > 0 {
				return false
			}
			layers[i] = layer
			return true
		})
	}
	return layers
}

// holder tells of any three, by their places, if p lies in their hull.
func holder(l []rim.Spot, p rim.Spot) func(i, j, k int) bool {
	var order [api.MaxPoints]int
	var turns [api.MaxPoints][api.MaxPoints]int
	for i, q := range l {
		order[i] = q.Compare(p)
		for j := range i {
			turn := rim.Edge{p, q}.Turn(l[j])
			turns[i][j], turns[j][i] = turn, -turn
		}
	}
	return func(i, j, k int) bool {
		// Seen from p, the three go around it one way, if it lies in their hull; on an edge, some of them don't turn.
		low, high := bounds(turns[i][j], turns[j][k], turns[k][i])
		if low == 0 && high == 0 {
			// All lie on a line with p.
			low, high = bounds(order[i], order[j], order[k])
			return low <= 0 && high >= 0
		}
		return low >= 0 || high <= 0
	}
}

func bounds(a, b, c int) (low, high int) { return min(a, b, c), max(a, b, c) }
