package empty

import (
	"math/big"
	"slices"
	"testing"

	"compass/add"
	"compass/api"
	"compass/circle"
	"compass/hull"
	"compass/plane"
)

const rounds = 300

// enough: much of what was made at random must have been in such a place that something could be told.
func enough(t *testing.T, what string, told int) {
	t.Helper()
	if told < rounds/20 {
		t.Errorf("%s: only %d of %d told", what, told, rounds)
	}
}

func one(holds bool) int {
	if holds {
		return 1
	}
	return 0
}

// cloud has few points in most rounds, and as many as may be in some.
func cloud(g guess, round int) []api.P {
	return g.points([]int{5, 8, 8, 8, api.MaxPoints}[round%5])
}

func onLine(l []spotAs) bool {
	return !slices.ContainsFunc(l, func(p spotAs) bool { return turning(l[0], l[len(l)-1], p).Sign() != 0 })
}

// onCircle tells if four lie on a circle that holds none.
func onCircle(triangles [][3]int, l []spotAs) bool {
	return slices.ContainsFunc(triangles, func(at [3]int) bool {
		b, _ := ballOfThree(l[at[0]], l[at[1]], l[at[2]])
		on := slices.DeleteFunc(slices.Clone(l), func(p spotAs) bool { return b.off(p) != 0 })
		return len(on) > 3
	})
}

func sortedThree(at [3]int) [3]int {
	slices.Sort(at[:])
	return at
}

func sortedTwo(at [2]int) [2]int { return [2]int{min(at[0], at[1]), max(at[0], at[1])} }

func TestTrianglesOfAll(t *testing.T) {
	some, none, four := 0, 0, 0
	for i := range rounds {
		g := newGuess(i)
		l := cloud(g, i)
		s := spotsAt(l)
		got := trianglesOf(t, l)
		sameList(t, "triangles", got, trianglesIn(s))
		some, none, four = some+one(len(got) > 0), none+one(len(got) == 0 && len(l) > 2), four+one(onCircle(got, s))
		for _, at := range got {
			c := must[api.C](t, "circle")(circle.Through(l[at[0]], l[at[1]], l[at[2]]))
			for _, p := range l {
				same(t, "within", rat(must[api.Q](t, "power")(circle.Power(c, p))).Sign() < 0, false)
			}
		}
	}
	enough(t, "some", some)
	enough(t, "none", none)
	enough(t, "four on a circle", four)
}

func TestPairsOfAll(t *testing.T) {
	all, not := 0, 0
	for i := range rounds {
		l := cloud(newGuess(i), i)
		got := pairsOf(t, l)
		sameList(t, "pairs", got, pairsIn(spotsAt(l)))
		n := len(l) * (len(l) - 1) / 2
		all, not = all+one(n > 0 && len(got) == n), not+one(len(got) < n)
	}
	enough(t, "all", all)
	enough(t, "not all", not)
}

func TestNetOfAll(t *testing.T) {
	for i := range rounds {
		l := cloud(newGuess(i), i)
		got := netOf(t, l)
		sameList(t, "net", got, netIn(spotsAt(l)))
		same(t, "one less than points", len(got), len(l)-1)
		for j := range l {
			same(t, "all are joined", joined(got, 0, j), true)
		}
		for j, at := range got {
			same(t, "rising", at[0] < at[1], true)
			same(t, "not joined ahead", joined(got[:j], at[0], at[1]), false)
		}
	}
}

// TestNetIsShort: no two are nearer to each other than some that follow each other on the way between them along the net.
func TestNetIsShort(t *testing.T) {
	for i := range rounds {
		l := cloud(newGuess(i), i)
		net := netOf(t, l)
		far := func(at [2]int) *big.Rat { return rat(plane.Far2(l[at[0]], l[at[1]])) }
		for _, at := range allPairs(len(l)) {
			short := slices.DeleteFunc(slices.Clone(net), func(p [2]int) bool { return far(p).Cmp(far(at)) > 0 })
			same(t, "joined by what is no longer", joined(short, at[0], at[1]), true)
		}
	}
}

// TestNearestOfAll: the first one of all with the least Far2; of a point of the list that one itself.
func TestNearestOfAll(t *testing.T) {
	ties := 0
	for i := range rounds {
		g := newGuess(i)
		l := cloud(g, i)
		s := spotsAt(l)
		for range 5 {
			p := g.nearby(l)
			got := nearestOf(t, l, p.text())
			same(t, "nearest", got, nearestIn(s, p))
			near := rat(plane.Far2(l[got], p.text()))
			as := 0
			for j, q := range l {
				order := rat(plane.Far2(q, p.text())).Cmp(near)
				same(t, "none is nearer", order < 0, false)
				same(t, "none ahead is as near", order == 0 && j < got, false)
				as += one(order == 0)
			}
			ties += one(as > 1)
		}
		for j, p := range l {
			same(t, "itself", nearestOf(t, l, p), j)
		}
	}
	enough(t, "two as near", ties)
}

func TestLeastOfAll(t *testing.T) {
	told := [4]int{}
	for i := range rounds {
		g := newGuess(i)
		l := cloud(g, i)
		s := spotsAt(l)
		got := leastOf(t, l)
		same(t, "least", got, leastIn(s).text())
		again, _ := g.mixed(l)
		same(t, "in another order", leastOf(t, again), got)
		same(t, "all lie in it", ballAt(got).around(s), true)
		on := slices.DeleteFunc(slices.Clone(l), func(p api.P) bool { return ballAt(got).off(spotAt(p)) != 0 })
		told[min(len(on), 4)-1]++
		same(t, "of those on it alone", leastOf(t, on), got)
	}
	for n, times := range told {
		enough(t, "on it "+string(rune('1'+n)), times)
	}
}

// TestLeastIsTold: it is told by two or three of its points, and grows if one is outside.
func TestLeastIsTold(t *testing.T) {
	told := [2]int{}
	for i := range rounds {
		g := newGuess(i)
		l := cloud(g, i)
		if len(l) == 1 {
			continue
		}
		got := leastOf(t, l)
		byTwo := slices.ContainsFunc(allPairs(len(l)), func(at [2]int) bool {
			return leastOf(t, []api.P{l[at[0]], l[at[1]]}) == got
		})
		byThree := slices.ContainsFunc(allOf(len(l)), func(at [3]int) bool {
			c, e := circle.Through(l[at[0]], l[at[1]], l[at[2]])
			return e == api.OK && c == got
		})
		same(t, "told", byTwo || byThree, true)
		told[one(byTwo)]++
		p := g.nearby(l)
		off := ballAt(got).off(p)
		if len(l) < api.MaxPoints && !slices.ContainsFunc(spotsAt(l), p.is) {
			more := leastOf(t, append(slices.Clone(l), p.text()))
			same(t, "it stays", more == got, off <= 0)
			same(t, "it grows", rat(more.R2).Cmp(rat(got.R2)) > 0, off > 0)
		}
	}
	enough(t, "by two", told[1])
	enough(t, "by three alone", told[0])
}

// TestNetInPairs: each of Net is one of Pairs.
func TestNetInPairs(t *testing.T) {
	for i := range rounds {
		l := cloud(newGuess(i), i)
		pairs := pairsOf(t, l)
		for _, at := range netOf(t, l) {
			same(t, "one of the pairs", slices.Contains(pairs, at), true)
		}
	}
}

// TestPairsInTriangles: each of Pairs is an edge of one of Triangles, unless all lie on a line; then there is none.
func TestPairsInTriangles(t *testing.T) {
	told := [2]int{}
	for i := range rounds {
		l := cloud(newGuess(i), i)
		triangles, pairs := trianglesOf(t, l), pairsOf(t, l)
		flat := onLine(spotsAt(l))
		told[one(flat)]++
		if flat {
			same(t, "on a line", len(triangles), 0)
			same(t, "neighbours", len(pairs), len(l)-1)
			continue
		}
		for _, at := range pairs {
			same(t, "an edge", slices.ContainsFunc(triangles, func(three [3]int) bool {
				return slices.Contains(three[:], at[0]) && slices.Contains(three[:], at[1])
			}), true)
		}
	}
	enough(t, "on a line", told[1])
	enough(t, "not on a line", told[0])
}

// above is above 0, if p, lifted to x x + y y, lies above the plane through a, b and c, lifted so, which turn against the clock.
func above(a, b, c, p spotAs) int {
	height := func(q spotAs) *big.Rat { return q.dot(q) }
	u, v, w := b.less(a), c.less(a), p.less(a)
	up := func(q spotAs) *big.Rat { return less(height(q), height(a)) }
	return plus(times(up(p), u.cross(v)), times(up(b), v.cross(w)), times(up(c), w.cross(u))).Sign()
}

// TestLifted: of each three of Triangles no point lies below the plane through them, and of any others one does.
func TestLifted(t *testing.T) {
	for i := range rounds {
		l := cloud(newGuess(i), i)
		s := spotsAt(l)
		triangles := trianglesOf(t, l)
		for _, at := range allOf(len(l)) {
			a, b, c := s[at[0]], s[at[1]], s[at[2]]
			turn := turning(a, b, c).Sign()
			if turn == 0 {
				same(t, "on a line", slices.Contains(triangles, at), false)
				continue
			}
			below := slices.ContainsFunc(s, func(p spotAs) bool { return above(a, b, c, p)*turn < 0 })
			same(t, "below", below, !slices.Contains(triangles, at))
		}
	}
}

// TestTrianglesFill: where no four lie on an empty circle, the triangles fill the hull, without one lying on another: so there are as many as Euler tells.
func TestTrianglesFill(t *testing.T) {
	told := 0
	for i := range rounds {
		l := cloud(newGuess(i), i)
		s := spotsAt(l)
		triangles := trianglesOf(t, l)
		if onLine(s) || onCircle(triangles, s) {
			continue
		}
		told++
		area, onEdge := whole(0), 0
		for _, at := range triangles {
			area = plus(area, new(big.Rat).Abs(turning(s[at[0]], s[at[1]], s[at[2]])))
		}
		for _, p := range l {
			onEdge += one(must[int](t, "side")(hull.Side(l, p)) == 0)
		}
		same(t, "area", text(area), must[api.Q](t, "area")(add.Area2(l)))
		same(t, "as many", len(triangles), 2*len(l)-2-onEdge)
	}
	enough(t, "filled", told)
}

// TestInAnotherOrder: but for the places, what is told of empty circles doesn't hang on the order of the points.
func TestInAnotherOrder(t *testing.T) {
	for i := range rounds {
		g := newGuess(i)
		l := cloud(g, i)
		again, from := g.mixed(l)
		var triangles [][3]int
		for _, at := range trianglesOf(t, again) {
			triangles = append(triangles, sortedThree([3]int{from[at[0]], from[at[1]], from[at[2]]}))
		}
		slices.SortFunc(triangles, func(a, b [3]int) int { return slices.Compare(a[:], b[:]) })
		sameList(t, "triangles", triangles, trianglesOf(t, l))
		var pairs [][2]int
		for _, at := range pairsOf(t, again) {
			pairs = append(pairs, sortedTwo([2]int{from[at[0]], from[at[1]]}))
		}
		slices.SortFunc(pairs, func(a, b [2]int) int { return slices.Compare(a[:], b[:]) })
		sameList(t, "pairs", pairs, pairsOf(t, l))
		far := func(l []api.P, at [2]int) api.Q { return plane.Far2(l[at[0]], l[at[1]]) }
		for j, at := range netOf(t, l) {
			same(t, "net's lengths", far(again, netOf(t, again)[j]), far(l, at))
		}
	}
}

// TestMoved: what is shifted, turned, mirrored and made longer keeps its places, and its least circle goes along.
func TestMoved(t *testing.T) {
	for i := range rounds {
		g := newGuess(i)
		l := cloud(g, i)
		by, turn, k := g.spot(), g.turned(), g.factor()
		moved := func(p spotAs) spotAs {
			if i%2 == 0 {
				p = spotAs{p.y, p.x}
			}
			return p.product(turn).times(k).plus(by)
		}
		made := each(l, moved)
		sameList(t, "triangles", trianglesOf(t, made), trianglesOf(t, l))
		sameList(t, "pairs", pairsOf(t, made), pairsOf(t, l))
		sameList(t, "net", netOf(t, made), netOf(t, l))
		p := g.nearby(l)
		same(t, "nearest", nearestOf(t, made, moved(p).text()), nearestOf(t, l, p.text()))
		before := ballAt(leastOf(t, l))
		same(t, "least", leastOf(t, made), ball{moved(before.middle), times(before.r2, times(k, k))}.text())
	}
}
