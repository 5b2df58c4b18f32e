package empty

import (
	"slices"
	"strings"
	"testing"

	"compass/api"
)

func square() []api.P { return pointsOf(0, 0, 2, 0, 2, 2, 0, 2) }

// tent is a square and its middle.
func tent() []api.P { return append(square(), pointsOf(1, 1)...) }

// tests is what the document's tests ask about.
func tests() []api.P { return pointsOf(0, 0, 1, 0, 1, 1, 0, 1, 3, 0) }

// clock has twelve points on one circle around the origin, one behind the other.
func clock() []api.P {
	return pointsOf(5, 0, 4, 3, 3, 4, 0, 5, -3, 4, -4, 3, -5, 0, -4, -3, -3, -4, 0, -5, 3, -4, 4, -3)
}

// row has as many points as may be, on a line, not in their order along it.
func row() []api.P {
	var l []api.P
	for k := range api.MaxPoints {
		at := k * 7 % api.MaxPoints
		l = append(l, pointsOf(3*at-1, 5-2*at)...)
	}
	return l
}

// bowl has as many points as may be, all of them corners of their hull.
func bowl() []api.P {
	var l []api.P
	for k := range api.MaxPoints {
		l = append(l, pointsOf(k, k*k)...)
	}
	return l
}

// odd is the triangle of 0, 0 and 4, 0 and 0, 3, with what is no fraction, and so is 0, and what is written otherwise than it is answered.
func odd() []api.P { return []api.P{pt("x", "1/0"), pt("08/2", "--1"), pt("+1", "06/2")} }

const (
	small = "1/1000000000000000000000000000000"
	hair  = "1000000000000000000000000000001/1000000000000000000000000000000" // 1 and small
	hardy = "999999999999999999999999999999/1000000000000000000000000000000"  // 1 less small
)

// leaning is the square of 0, 0 and 1, 1 whose third corner is somewhere else.
func leaning(p api.P) []api.P { return append(pointsOf(0, 0, 1, 0), p, pt("0", "1")) }

// allOf has all threes of the first n.
func allOf(n int) [][3]int {
	var made [][3]int
	for i := range n {
		for j := i + 1; j < n; j++ {
			for k := j + 1; k < n; k++ {
				made = append(made, [3]int{i, j, k})
			}
		}
	}
	return made
}

// TestMany: that there are too few or too many is told ahead of what is told twice.
func TestMany(t *testing.T) {
	for _, l := range [][]api.P{nil, {}, append(bowl(), pt("1/2", "1/2")), make([]api.P, 17), slices.Repeat(square(), 5), make([]api.P, 5000)} {
		refusedAll(t, "too few, or too many", api.ErrMany, l)
	}
	for _, l := range [][]api.P{pointsOf(3, -4), bowl(), row()} {
		what := "as many as may be"
		sameList(t, what, trianglesOf(t, l), trianglesIn(spotsAt(l)))
		sameList(t, what, pairsOf(t, l), pairsIn(spotsAt(l)))
		sameList(t, what, netOf(t, l), netIn(spotsAt(l)))
		same(t, what, nearestOf(t, l, l[len(l)-1]), len(l)-1)
		same(t, what, leastOf(t, l), leastIn(spotsAt(l)).text())
	}
}

func TestTwice(t *testing.T) {
	for what, l := range map[string][]api.P{
		"two":                      pointsOf(1, 2, 1, 2),
		"the document's test":      {pt("1", "0"), pt("2/2", "0")},
		"nothing told":             make([]api.P, 2),
		"as many as may be":        make([]api.P, api.MaxPoints),
		"first and last":           append(bowl()[:15], bowl()[0]),
		"the last two":             append(bowl()[:15], bowl()[14]),
		"in the middle":            append(square(), pointsOf(2, 2, 7, 7)...),
		"on a line":                pointsOf(0, 0, 1, 1, 2, 2, 1, 1),
		"noughts ahead":            {pt("7", "-1/2"), pt("0", "3"), pt("007", "-02/4")},
		"0 below 0":                {pt("-0", "0/5"), pt("0", "-0")},
		"what is no fraction is 0": append(odd(), pt("", "1/0")),
		"and 0 is 0":               append(odd(), pt("0", "3")),
		"what isn't written so":    {pt("1.5", "1"), pt("0x1", "1")},
	} {
		refusedAll(t, what, api.ErrTwice, l)
	}
	// What is hardly two is two.
	sameList(t, "hardly two", pairsOf(t, []api.P{pt("1", "1"), pt("1", hair)}), [][2]int{{0, 1}})
}

func TestTriangles(t *testing.T) {
	for _, x := range []struct {
		what string
		l    []api.P
		want [][3]int
	}{
		{"one", pointsOf(3, 4), nil},
		{"two", pointsOf(3, 4, 5, 6), nil},
		{"three", pointsOf(0, 0, 4, 0, 0, 3), [][3]int{{0, 1, 2}}},
		{"three, with the clock", pointsOf(0, 0, 0, 3, 4, 0), [][3]int{{0, 1, 2}}},
		{"three on a line", pointsOf(0, 0, 4, 4, 3, 3), nil},
		{"three on an upright line", pointsOf(2, 0, 2, 7, 2, 3), nil},
		{"three on a level line", pointsOf(0, 2, 7, 2, 3, 2), nil},
		{"many on a line", row(), nil},
		{"the document's test", tests(), [][3]int{{0, 1, 2}, {0, 1, 3}, {0, 2, 3}, {1, 2, 3}, {1, 2, 4}}},
		{"a square", square(), allOf(4)},
		{"a square, crossed", pointsOf(0, 0, 2, 2, 2, 0, 0, 2), allOf(4)},
		{"a square and its middle", tent(), [][3]int{{0, 1, 4}, {0, 3, 4}, {1, 2, 4}, {2, 3, 4}}},
		{"one within three", pointsOf(0, 0, 9, 0, 0, 9, 1, 1), [][3]int{{0, 1, 3}, {0, 2, 3}, {1, 2, 3}}},
		{"hardly out of the circle", leaning(pt("1", hair)), [][3]int{{0, 1, 3}, {1, 2, 3}}},
		{"hardly in it", leaning(pt("1", hardy)), [][3]int{{0, 1, 2}, {0, 2, 3}}},
		{"three on a line, one beside it", pointsOf(0, 0, 2, 0, 1, 0, 1, 5), [][3]int{{0, 2, 3}, {1, 2, 3}}},
		{"three on a line, one hardly beside it", []api.P{pt("0", "0"), pt("2", "0"), pt("1", "0"), pt("1", small)}, [][3]int{{0, 2, 3}, {1, 2, 3}}},
		{"a circle", clock(), allOf(12)},
		{"a circle, and one outside", append(clock(), pointsOf(50, 0)...), append(allOf(12), [][3]int{{0, 1, 12}, {0, 11, 12}, {1, 2, 12}, {2, 3, 12}, {9, 10, 12}, {10, 11, 12}}...)},
		{"fractions", []api.P{pt("1/2", "1/3"), pt("-1/2", "1/3"), pt("0", "-2/3"), pt("0", "1/7")}, [][3]int{{0, 1, 3}, {0, 2, 3}, {1, 2, 3}}},
		{"what is no fraction is 0", odd(), [][3]int{{0, 1, 2}}},
	} {
		want := slices.Clone(x.want)
		slices.SortFunc(want, func(a, b [3]int) int { return slices.Compare(a[:], b[:]) })
		sameList(t, x.what, trianglesOf(t, x.l), want)
	}
}

// TestTrianglesOfClock: of points on a circle and its middle, those side by side have an empty one with the middle.
func TestTrianglesOfClock(t *testing.T) {
	want := [][3]int{{0, 1, 12}, {0, 11, 12}}
	for i := 1; i < 11; i++ {
		want = append(want, [3]int{i, i + 1, 12})
	}
	sameList(t, "a circle and its middle", trianglesOf(t, append(clock(), pt("0", "0"))), want)
}

func TestPairs(t *testing.T) {
	for _, x := range []struct {
		what string
		l    []api.P
		want [][2]int
	}{
		{"one", pointsOf(3, 4), nil},
		{"two", pointsOf(3, 4, 5, 6), [][2]int{{0, 1}}},
		{"the document's test", tests()[:3], allPairs(3)},
		{"the document's test, all", tests(), append(allPairs(4), [2]int{1, 4}, [2]int{2, 4})},
		{"a sharp triangle", pointsOf(0, 0, 4, 0, 2, 3), allPairs(3)},
		{"a blunt triangle", pointsOf(0, 0, 4, 0, 2, 1), [][2]int{{0, 2}, {1, 2}}},
		{"hardly blunt", []api.P{pt("-1", "0"), pt("1", "0"), pt("0", hardy)}, [][2]int{{0, 2}, {1, 2}}},
		{"right", pointsOf(-1, 0, 1, 0, 0, 1), allPairs(3)},
		{"hardly sharp", []api.P{pt("-1", "0"), pt("1", "0"), pt("0", hair)}, allPairs(3)},
		{"on a line", pointsOf(0, 0, 3, 3, 1, 1, 7, 7), [][2]int{{0, 2}, {1, 2}, {1, 3}}},
		{"on an upright line", pointsOf(1, 0, 1, 9, 1, -4), [][2]int{{0, 1}, {0, 2}}},
		{"a square", square(), allPairs(4)},
		{"a square and its middle", tent(), [][2]int{{0, 1}, {0, 3}, {0, 4}, {1, 2}, {1, 4}, {2, 3}, {2, 4}, {3, 4}}},
		{"far apart", pointsOf(0, 0, 100, 0, 0, 1, 100, 1), allPairs(4)},
		{"fractions", []api.P{pt("1/2", "1/3"), pt("-1/2", "1/3"), pt("0", "1/7")}, [][2]int{{0, 2}, {1, 2}}},
		{"what is no fraction is 0", odd(), allPairs(3)},
	} {
		want := slices.Clone(x.want)
		slices.SortFunc(want, func(a, b [2]int) int { return slices.Compare(a[:], b[:]) })
		sameList(t, x.what, pairsOf(t, x.l), want)
	}
}

func TestNet(t *testing.T) {
	for _, x := range []struct {
		what string
		l    []api.P
		want [][2]int
	}{
		{"one", pointsOf(3, 4), nil},
		{"two", pointsOf(3, 4, 5, 6), [][2]int{{0, 1}}},
		{"the document's test", tests(), [][2]int{{0, 1}, {0, 3}, {1, 2}, {1, 4}}},
		{"a triangle", pointsOf(0, 0, 4, 0, 0, 3), [][2]int{{0, 2}, {0, 1}}},
		{"two as long", pointsOf(0, 0, 4, 0, 2, 9), [][2]int{{0, 1}, {0, 2}}},
		{"two as short", pointsOf(0, 0, 4, 0, 2, 1), [][2]int{{0, 2}, {1, 2}}},
		{"all as long", square(), [][2]int{{0, 1}, {0, 3}, {1, 2}}},
		{"all as long, crossed", pointsOf(0, 0, 2, 2, 2, 0, 0, 2), [][2]int{{0, 2}, {0, 3}, {1, 2}}},
		{"a square and its middle", tent(), [][2]int{{0, 4}, {1, 4}, {2, 4}, {3, 4}}},
		{"two twos", pointsOf(0, 0, 5, 0, 6, 0, 1, 0), [][2]int{{0, 3}, {1, 2}, {1, 3}}},
		{"the last ones first", pointsOf(0, 0, 100, 0, 10, 0, 11, 0), [][2]int{{2, 3}, {0, 2}, {1, 3}}},
		{"groups that join groups", pointsOf(0, 0, 10, 0, 1, 0, 11, 0, 5, 0, 6, 0), [][2]int{{0, 2}, {1, 3}, {4, 5}, {1, 5}, {2, 4}}},
		{"hardly shorter", []api.P{pt("0", "0"), pt("-1", "0"), pt("0", hardy)}, [][2]int{{0, 2}, {0, 1}}},
		{"hardly longer", []api.P{pt("0", "0"), pt("-1", "0"), pt("0", hair)}, [][2]int{{0, 1}, {0, 2}}},
		{"fractions", []api.P{pt("1/2", "1/3"), pt("-1/2", "1/3"), pt("0", "1/7")}, [][2]int{{0, 2}, {1, 2}}},
		{"what is no fraction is 0", odd(), [][2]int{{0, 2}, {0, 1}}},
	} {
		sameList(t, x.what, netOf(t, x.l), x.want)
	}
}

func TestNearest(t *testing.T) {
	for _, x := range []struct {
		what string
		l    []api.P
		p    api.P
		want int
	}{
		{"one", pointsOf(3, 4), pt("100", "-100"), 0},
		{"the document's test", tests(), pt("1/2", "0"), 0},
		{"one of them", tests(), pt("1", "1"), 2},
		{"one of them, written otherwise", tests(), pt("03/3", "-1/-1"), 1},
		{"the last one", tests(), pt("40", "1"), 4},
		{"all as near", square(), pt("1", "1"), 0},
		{"two as near", tests(), pt("2", "0"), 1},
		{"two as near, not the first", tests(), pt("1/2", "7"), 2},
		{"the third is nearer than two", pointsOf(0, 0, 2, 0, 1, 1), pt("1", "1/10"), 2},
		{"as near another way", pointsOf(5, 0, 3, 4, 0, 5), pt("0", "0"), 0},
		{"hardly nearer", []api.P{pt("1", "0"), pt("0", hardy), pt("-1", "0")}, pt("0", "0"), 1},
		{"hardly farther", []api.P{pt("0", hair), pt("1", "0"), pt("-1", "0")}, pt("0", "0"), 1},
		{"on a line", row(), pt("0", "0"), 7},
		{"nothing told", square(), api.P{}, 0},
		{"what is no fraction is 0", odd(), pt("y", "3"), 2},
	} {
		same(t, x.what, nearestOf(t, x.l, x.p), x.want)
	}
}

func TestLeast(t *testing.T) {
	of := func(x, y, r2 api.Q) api.C { return api.C{M: pt(x, y), R2: r2} }
	for _, x := range []struct {
		what string
		l    []api.P
		want api.C
	}{
		{"one", pointsOf(0, 0), of("0", "0", "0")},
		{"one elsewhere", []api.P{pt("03/9", "-14/4")}, of("1/3", "-7/2", "0")},
		{"nothing told", make([]api.P, 1), of("0", "0", "0")},
		{"two", pointsOf(0, 0, 3, 4), of("3/2", "2", "25/4")},
		{"a right triangle", pointsOf(0, 0, 4, 0, 0, 3), of("2", "3/2", "25/4")},
		{"a blunt triangle", pointsOf(0, 0, 4, 0, 2, 1), of("2", "0", "4")},
		{"hardly blunt", []api.P{pt("-1", "0"), pt("1", "0"), pt("0", hardy)}, of("0", "0", "1")},
		{"a sharp triangle", pointsOf(0, 0, 4, 0, 2, 3), of("2", "5/6", "169/36")},
		{"hardly sharp", pointsOf(-1000, 0, 1000, 0, 0, 1001), of("0", "2001/2002", "4008008004001/4008004")},
		{"the document's test", tests()[:4], of("1/2", "1/2", "1/2")},
		{"a square and one more", tests(), of("3/2", "1/2", "5/2")},
		{"a square and its middle", tent(), of("1", "1", "2")},
		{"on a line", pointsOf(1, 1, 0, 0, 3, 3, 2, 2), of("3/2", "3/2", "9/2")},
		{"on an upright line", pointsOf(2, 1, 2, -4, 2, 9, 2, 0), of("2", "5/2", "169/4")},
		{"many on a line", row(), of("43/2", "-10", "2925/4")},
		{"a circle", clock(), of("0", "0", "25")},
		{"a circle and its middle", append(clock(), pt("0", "0")), of("0", "0", "25")},
		{"one far away", append(clock(), pt("95", "0")), of("45", "0", "2500")},
		{"one within three", pointsOf(0, 0, 9, 0, 1, 1, 0, 9), of("9/2", "9/2", "81/2")},
		{"from the inside out", pointsOf(0, 0, 1, 0, -2, 0, 0, 3, 0, -4, 5, 0, -6, 0), of("-1/2", "0", "121/4")},
		{"fractions", []api.P{pt("1/2", "1/3"), pt("-1/2", "1/3"), pt("0", "1/7")}, of("0", "1/3", "1/4")},
		{"what is no fraction is 0", odd(), of("2", "3/2", "25/4")},
	} {
		same(t, x.what, leastOf(t, x.l), x.want)
		slices.Reverse(x.l)
		same(t, x.what+", backwards", leastOf(t, x.l), x.want)
	}
}

// calls are all that take a list.
func calls() map[string]func(l []api.P) {
	return map[string]func(l []api.P){
		"triangles": func(l []api.P) { Triangles(l) }, "pairs": func(l []api.P) { Pairs(l) }, "net": func(l []api.P) { Net(l) },
		"nearest": func(l []api.P) { Nearest(l, pt("1", "1")) }, "least": func(l []api.P) { Least(l) },
	}
}

// TestOnlyRead: neither the list nor the spare room behind it is changed.
func TestOnlyRead(t *testing.T) {
	for what, call := range calls() {
		for n := range 18 {
			l := append(clock(), tent()...)
			call(l[:n])
			sameList(t, what, l, append(clock(), tent()...))
			l = append(row(), tests()...)
			call(l[:n])
			sameList(t, what, l, append(row(), tests()...))
		}
	}
}

// TestAnswersAreNew: what is done to an answer is seen neither in what was handed in nor in the next one.
func TestAnswersAreNew(t *testing.T) {
	l := tests()
	triangles, pairs, net := trianglesOf(t, l), pairsOf(t, l), netOf(t, l)
	clear(triangles[:cap(triangles)])
	clear(pairs[:cap(pairs)])
	clear(net[:cap(net)])
	sameList(t, "the list", l, tests())
	sameList(t, "triangles again", trianglesOf(t, l), trianglesIn(spotsAt(l)))
	sameList(t, "pairs again", pairsOf(t, l), pairsIn(spotsAt(l)))
	sameList(t, "net again", netOf(t, l), netIn(spotsAt(l)))
}

func TestGreatLength(t *testing.T) {
	noughts := api.Q(strings.Repeat("0", 1500))
	great, little := "1"+noughts, "1/1"+noughts
	more := api.Q("1" + strings.Repeat("0", 1499) + "1")
	l := []api.P{pt("0", "0"), pt(great, "0"), pt("0", little), pt(great, little), pt(more, great)}
	s := spotsAt(l)
	sameList(t, "triangles", trianglesOf(t, l), trianglesIn(s))
	sameList(t, "pairs", pairsOf(t, l), append(allPairs(4), [2]int{3, 4}))
	sameList(t, "net", netOf(t, l), [][2]int{{0, 2}, {1, 3}, {3, 4}, {0, 1}})
	same(t, "two as near", nearestOf(t, l, pt(great, "1/2"+noughts)), 1)
	same(t, "nearest", nearestOf(t, l, pt(great, "2/3"+noughts)), 3)
	same(t, "least", leastOf(t, l), leastIn(s).text())
	same(t, "least of two", leastOf(t, l[:2]), api.C{M: pt("5"+noughts[1:], "0"), R2: "25" + (noughts + noughts)[2:]})
}
