package empty

import (
	"slices"

	"compass/api"
	"compass/num"
	"compass/rim"
	"compass/way"
)

// read is what the texts of points tell; ErrMany, if these are too few or too many, ErrTwice, if two are one.
func read(l []api.P) ([]way.Way, api.Errno) {
	spots, e := rim.Read(l)
	if e != api.OK {
		return nil, e
	}
	points := make([]way.Way, len(spots))
	for i, p := range spots {
		points[i] = p.Way
		if slices.ContainsFunc(points[:i], func(q way.Way) bool { return q.Compare(p.Way) == 0 }) {
			return nil, api.ErrTwice
		}
	}
	return points, api.OK
}

// far2 is the square of the distance.
func far2(p, q way.Way) num.Q {
	apart := q.Minus(p)
	return apart.Dot(apart)
}

// nearest is the first one, by its place, that is nearest to p: there is one at least.
func nearest(l []way.Way, p way.Way) int {
	at, near := 0, far2(l[0], p)
	for i, q := range l {
		if now := far2(q, p); now.Compare(near) < 0 {
			at, near = i, now
		}
	}
	return at
}

// pair of points, by their places.
type pair struct {
	at   [2]int
	far2 num.Q
}

// shortFirst are all pairs, those as long as each other by their places.
func shortFirst(l []way.Way) []pair {
	var pairs []pair
	for i, p := range l {
		for j := i + 1; j < len(l); j++ {
			pairs = append(pairs, pair{[2]int{i, j}, far2(p, l[j])})
		}
	}
	slices.SortStableFunc(pairs, func(p, q pair) int { return p.far2.Compare(q.far2) })
	return pairs
}

// joiner joins two, by their places, and tells if they weren't joined yet.
func joiner() func(i, j int) bool {
	var groups [api.MaxPoints]int
	for i := range groups {
		groups[i] = i
	}
	return func(i, j int) bool {
		from, to := groups[i], groups[j]
		for k, group := range groups {
			if group == from {
				groups[k] = to
			}
		}
		return from != to
	}
}
