package grid

import (
	"compass/api"
	"compass/num"
	"compass/way"
)

// A fraction is a point of the grid here, its lower number to the right and its upper one up: so 1/0 is one too, and what stands between two is their sum.

// point of machine numbers.
func point(up, low int) way.Way { return way.Way{X: num.Int(low), Y: num.Int(up)} }

// slope is the fraction that a point stands for; its lower number isn't 0.
func slope(w way.Way) num.Q { return w.Y.Over(w.X) }

func texts(l []way.Way) []api.Q {
	told := make([]api.Q, len(l))
	for i, w := range l {
		told[i] = slope(w).Text()
	}
	return told
}

// rising is all from 0/1 to 1/1 whose lower numbers are n at most. What stands between two neighbours has the least lower number of all between them: if that one is too great, all are.
func rising(n int) []way.Way {
	most := num.Int(n)
	first, last := point(0, 1), point(1, 1)
	list := []way.Way{first}
	var between func(a, b way.Way)
	between = func(a, b way.Way) {
		middle := a.Plus(b)
		if middle.X.Compare(most) > 0 {
			return
		}
		between(a, middle)
		list = append(list, middle)
		between(middle, b)
	}
	between(first, last)
	return append(list, last)
}

// walker goes from what stands between 0/1 and 1/0 first to more, at the next call to less, then to more, and so on, that often. It tells the bound that moved by that, and the other one: one stands between both.
//
// Going to more moves the lower bound, each time by the upper one; going to less, the other way. The bounds that have moved are those where a continued fraction is cut, if its numbers tell how often.
func walker() func(often num.Q) (bound, other way.Way) {
	bound, other := point(1, 0), point(0, 1)
	return func(often num.Q) (way.Way, way.Way) {
		bound, other = other.Plus(bound.Times(often)), bound
		return bound, other
	}
}

// unfolded is the numbers of q's continued fraction: how often, down, Euclid's steps take one number from the other.
func unfolded(q num.Q) []num.Q {
	var numbers []num.Q
	up, low := q.Parts()
	for low.Sign() != 0 {
		often := up.Floor(low)
		numbers = append(numbers, often)
		up, low = low, up.Minus(low.Times(often))
	}
	return numbers
}

// runsTo is the numbers of q's continued fraction, the last one less 1, as one starts at 1/1 and not at a bound; ErrMany, if one is too great for a machine number.
func runsTo(q num.Q) ([]int, api.Errno) {
	numbers := unfolded(q)
	last := len(numbers) - 1
	numbers[last] = numbers[last].Minus(num.Int(1))
	made := make([]int, len(numbers))
	for i, number := range numbers {
		run, ok := number.Whole()
		if !ok {
			return nil, api.ErrMany
		}
		made[i] = run
	}
	return made, api.OK
}
