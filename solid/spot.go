package solid

import (
	"compass/api"
	"compass/num"
	"compass/triple"
)

// spot is a point, and beside it the same in whole numbers, by which sides are told sooner.
type spot struct {
	triple.Triple
	whole triple.Triple // the point low times, which is above 0
	low   num.Q
}

func spotAt(p triple.Triple) spot {
	plain := num.Plain(num.Int(1), p[0], p[1], p[2])
	return spot{p, triple.Triple(plain[1:]), plain[0]}
}

func readSpots(l []api.P3) []spot {
	spots := make([]spot, len(l))
	for i, p := range l {
		spots[i] = spotAt(triple.Read(p))
	}
	return spots
}

// to is the way from p to q, more than 0 times: so many that it is whole.
func (p spot) to(q spot) triple.Triple { return q.whole.Times(p.low).Minus(p.whole.Times(q.low)) }
