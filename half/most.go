package half

import (
	"slices"

	"compass/num"
	"compass/triple"
	"compass/way"
)

// farthest is, of the spots that lie in all halves, the one that goes farthest along a way; false, if there is none. If there is an end to how far points go, it goes as far as any: for those that do have a corner of what is common to all among them, or all of one line, or are the whole plane.
func farthest(halves []half, along way.Way) (triple.Triple, bool) {
	holds := holder(halves)
	inside := slices.DeleteFunc(spots(halves), func(spot triple.Triple) bool { return !holds(spot) })
	if len(inside) == 0 {
		return triple.Triple{}, false
	}
	return slices.MaxFunc(inside, comparer(along)), true
}

// comparer tells of two spots which one goes farther along a way: in whole numbers, each times what is below the other.
func comparer(along way.Way) func(p, q triple.Triple) int {
	whole := triple.Whole(along)
	goal := triple.Triple{whole[0], whole[1], {}}
	return func(p, q triple.Triple) int {
		return goal.Dot(p).Times(q[2]).Compare(goal.Dot(q).Times(p[2]))
	}
}

// weigh is of each half a weight, none below 0, such that along and all weights times Across add up to 0; false, if there are none: then points go on without end.
//
// A point that goes as far as any is held back by lines on which it lies, and one or two of these are enough. There they are 0: so their weights times C add up to how far the point goes.
func weigh(halves []half, along way.Way, at triple.Triple) ([]num.Q, bool) {
	weights := make([]num.Q, len(halves))
	if along.Nowhere() {
		return weights, true
	}
	var touching []int
	for i, h := range halves {
		if h.side(at) != 0 {
			continue
		}
		if w, ok := against(h.Across, along); ok {
			weights[i] = w
			return weights, true
		}
		for _, j := range touching {
			if v, w, ok := balance(halves[j].Across, h.Across, along); ok {
				weights[j], weights[i] = v, w
				return weights, true
			}
		}
		touching = append(touching, i)
	}
	return nil, false
}

// against is how often across must go to take along back to 0; false, if it doesn't go the other way.
func against(across, along way.Way) (num.Q, bool) {
	back := along.Dot(across).Negative()
	if back.Sign() <= 0 || along.Cross(across).Sign() != 0 {
		return num.Q{}, false
	}
	return back.Over(across.Dot(across)), true
}

// balance is how often each of two must go, so that they take along back to 0; false, if one would have to go backwards, or they lie along one line.
func balance(one, other, along way.Way) (num.Q, num.Q, bool) {
	turn := one.Cross(other)
	first, second := other.Cross(along), along.Cross(one)
	if turn.Sign()*first.Sign() < 0 || turn.Sign()*second.Sign() < 0 || turn.Sign() == 0 {
		return num.Q{}, num.Q{}, false
	}
	return first.Over(turn), second.Over(turn), true
}
