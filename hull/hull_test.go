package hull

import (
	"slices"
	"strings"
	"testing"

	"compass/api"
)

// house has points within, on edges, and at corners twice.
func house() []api.P {
	return pointsOf(2, 1, 4, 0, 0, 0, 2, 0, 4, 4, 2, 6, 0, 4, 4, 0, 1, 5, 2, 3)
}

func square() []api.P { return pointsOf(0, 0, 2, 0, 2, 2, 0, 2) }

func diagonal() []api.P { return pointsOf(1, 1, 0, 0, 3, 3, 2, 2, 0, 0) }

// bowl has as many points as may be, all of them corners.
func bowl() []api.P {
	var l []api.P
	for k := range api.MaxPoints {
		l = append(l, pointsOf(k, k*k)...)
	}
	return l
}

// odd is a triangle, with what is no fraction, and so is 0, and what is written otherwise than it is answered.
func odd() []api.P {
	return []api.P{pt("x", "1/0"), pt("08/2", "--1"), pt("+1", "06/2"), pt("2/2", "01")}
}

func TestMany(t *testing.T) {
	one := pointsOf(1, 2)
	for _, l := range [][]api.P{nil, {}, append(bowl(), pt("1/2", "1/2")), make([]api.P, 17), make([]api.P, 5000)} {
		what := "too few, or too many"
		refusedList[api.P](t, what, api.ErrMany)(Around(l))
		refused[int](t, what, api.ErrMany)(Side(l, pt("0", "0")))
		same(t, what, widthOf(l), width{e: api.ErrMany})
		refused[api.Q](t, what, api.ErrMany)(Narrow(l))
		refusedList[int](t, what, api.ErrMany)(Layers(l))
		refused[[3]int](t, what, api.ErrMany)(Three(l, pt("0", "0")))
		same(t, what, partedOf(l, one), parted{e: api.ErrMany})
		same(t, what, partedOf(one, l), parted{e: api.ErrMany})
		same(t, what, partedOf(l, l), parted{e: api.ErrMany})
	}
	for _, l := range [][]api.P{one, bowl()} {
		sameList(t, "as many as may be", must[[]api.P](t, "around")(Around(l)), cornersOf(spotsAt(l)))
		same(t, "as many as may be", partedOf(l, l).e, api.OK)
	}
}

func TestAround(t *testing.T) {
	for _, x := range []struct {
		what    string
		l, want []api.P
	}{
		{"one", pointsOf(3, -4), pointsOf(3, -4)},
		{"one, told often", pointsOf(3, -4, 3, -4, 3, -4), pointsOf(3, -4)},
		{"one, written otherwise", []api.P{pt("6/2", "-4"), pt("3", "-04"), pt("003", "-8/2")}, pointsOf(3, -4)},
		{"nothing told", make([]api.P, 3), pointsOf(0, 0)},
		{"two", pointsOf(3, 1, 2, 5), pointsOf(2, 5, 3, 1)},
		{"two, one above the other", pointsOf(2, 5, 2, 1), pointsOf(2, 1, 2, 5)},
		{"two, told often", pointsOf(3, 1, 2, 5, 3, 1, 2, 5, 2, 5), pointsOf(2, 5, 3, 1)},
		{"on a line", diagonal(), pointsOf(0, 0, 3, 3)},
		{"on a line down", pointsOf(1, 1, 0, 2, 3, -1), pointsOf(0, 2, 3, -1)},
		{"on a level line", pointsOf(1, 1, -4, 1, 3, 1), pointsOf(-4, 1, 3, 1)},
		{"on an upright line", pointsOf(1, 1, 1, 7, 1, -2, 1, 0), pointsOf(1, -2, 1, 7)},
		{"a triangle", pointsOf(0, 3, 0, 0, 4, 0), pointsOf(0, 0, 4, 0, 0, 3)},
		{"a triangle, with the clock", pointsOf(0, 0, 0, 3, 4, 0), pointsOf(0, 0, 4, 0, 0, 3)},
		{"a house", house(), pointsOf(0, 0, 4, 0, 4, 4, 2, 6, 0, 4)},
		{"two of the least X", pointsOf(0, 5, 3, 3, 0, -5), pointsOf(0, -5, 3, 3, 0, 5)},
		{"two of the greatest X", pointsOf(3, 5, 0, 3, 3, -5), pointsOf(0, 3, 3, -5, 3, 5)},
		{"points along all edges", pointsOf(1, 0, 2, 1, 1, 2, 0, 1, 0, 0, 2, 2, 2, 0, 0, 2), square()},
		{"a bowl", bowl(), bowl()},
		{"hardly a corner", []api.P{pt("0", "0"), pt("2", "0"), pt("1", "-1/1000000000000000000000000000000"), pt("1", "1")}, []api.P{pt("0", "0"), pt("1", "-1/1000000000000000000000000000000"), pt("2", "0"), pt("1", "1")}},
		{"hardly none", []api.P{pt("0", "0"), pt("2", "0"), pt("1", "1/1000000000000000000000000000000"), pt("1", "1")}, pointsOf(0, 0, 2, 0, 1, 1)},
		{"what is no fraction is 0", odd(), pointsOf(0, 0, 4, 0, 0, 3)},
	} {
		sameList(t, x.what, must[[]api.P](t, x.what)(Around(x.l)), x.want)
		slices.Reverse(x.l)
		sameList(t, x.what+", backwards", must[[]api.P](t, x.what)(Around(x.l)), x.want)
	}
}

func TestSide(t *testing.T) {
	for _, x := range []struct {
		what string
		l    []api.P
		side int
		of   []api.P
	}{
		{"within a house", house(), 1, []api.P{pt("2", "1"), pt("2", "3"), pt("2", "4"), pt("1", "4"), pt("1/2", "1/2"), pt("2", "1/1000000000000000000000")}},
		{"on a house", house(), 0, append(pointsOf(0, 0, 4, 0, 4, 4, 2, 6, 0, 4, 1, 5, 3, 5, 4, 1, 0, 2, 2, 0), pt("1/2", "9/2"))},
		{"outside a house", house(), -1, append(pointsOf(-1, 0, 5, 0, 0, -1, 0, 5, 0, 6, 2, 7, 4, 5, 3, 6, -1, 3, 4, -1), pt("2", "-1/1000000000000000000000"))},
		{"on an edge's line", square(), -1, pointsOf(-1, 0, 3, 0, 2, 3, 2, -1, 3, 2, -1, 2, 0, 3, 0, -1)},
		{"on what has no area", diagonal(), 0, append(pointsOf(0, 0, 1, 1, 2, 2, 3, 3), pt("1/2", "1/2"), pt("5/2", "5/2"))},
		{"outside what has no area", diagonal(), -1, append(pointsOf(-1, -1, 4, 4, 1, 2, 2, 1, 0, 3, 3, 0), pt("3/2", "1499999999999999999/1000000000000000000"))},
		{"on an upright line", pointsOf(1, 1, 1, 3), 0, pointsOf(1, 1, 1, 2, 1, 3)},
		{"outside an upright line", pointsOf(1, 1, 1, 3), -1, pointsOf(1, 0, 1, 4, 0, 2, 2, 2)},
		{"one", pointsOf(3, 4), 0, pointsOf(3, 4)},
		{"outside one", pointsOf(3, 4), -1, pointsOf(3, 5, 4, 4, 0, 0, -3, -4, 4, 3)},
		{"one, told often", pointsOf(3, 4, 3, 4), 0, pointsOf(3, 4)},
		{"what is no fraction is 0", odd(), 0, []api.P{pt("y", ""), pt("1/0", "02"), pt("06/3", "z")}},
		{"what is written otherwise", odd(), 1, []api.P{pt("03/3", "1/1")}},
	} {
		for _, p := range x.of {
			same(t, x.what, must[int](t, x.what)(Side(x.l, p)), x.side)
		}
	}
}

func TestWide(t *testing.T) {
	for _, x := range []struct {
		what string
		l    []api.P
		want width
	}{
		{"one", pointsOf(3, 4), width{far2: "0"}},
		{"one, told often", pointsOf(3, 4, 3, 4, 3, 4), width{far2: "0"}},
		{"two", pointsOf(3, 4, 0, 0), width{far2: "25", b: 1}},
		{"the last two", pointsOf(0, 0, 1, 0, -4, 0, 4, 0), width{far2: "64", a: 2, b: 3}},
		{"the first of both", square(), width{far2: "8", b: 2}},
		{"the first a, then the first b", pointsOf(1, 1, 2, 0, 0, 2, 0, 0, 2, 2), width{far2: "8", a: 1, b: 2}},
		{"a told twice", pointsOf(0, 0, 0, 0, 5, 0, 5, 0), width{far2: "25", b: 2}},
		{"the first with the last", pointsOf(0, 0, 1, 1, 2, 1, 3, 3), width{far2: "18", b: 3}},
		{"on a line", diagonal(), width{far2: "18", a: 1, b: 2}},
		{"fractions", []api.P{pt("1/2", "0"), pt("0", "1/3"), pt("-1/2", "-1/3")}, width{far2: "10/9", b: 2}},
		{"what is no fraction is 0", odd(), width{far2: "25", a: 1, b: 2}},
		{"a bowl", bowl(), width{far2: "50850", b: 15}},
	} {
		same(t, x.what, widthOf(x.l), x.want)
	}
}

func TestNarrow(t *testing.T) {
	for _, x := range []struct {
		what string
		l    []api.P
		want api.Q
	}{
		{"one", pointsOf(3, 4), "0"},
		{"one, told often", pointsOf(3, 4, 3, 4), "0"},
		{"two", pointsOf(3, 4, 0, 0), "0"},
		{"on a line", diagonal(), "0"},
		{"a square", square(), "4"},
		{"a square on its corner", pointsOf(1, 0, 2, 1, 1, 2, 0, 1), "2"},
		{"a triangle", pointsOf(0, 0, 4, 0, 0, 3), "144/25"},
		{"a house", house(), "16"},
		{"a long one", pointsOf(0, 0, 100, 0, 100, 1, 0, 1), "1"},
		{"a slanted one", pointsOf(0, 0, 4, 3, 1, 7, -3, 4), "25"},
		{"away from the origin", pointsOf(100, 200, 102, 200, 102, 202, 100, 202), "4"},
		{"fractions", []api.P{pt("0", "0"), pt("1/2", "0"), pt("0", "1/3")}, "1/13"},
		{"hardly an area", []api.P{pt("0", "0"), pt("2", "0"), pt("1", "1/1000000000000")}, "1/1000000000000000000000000"},
		{"what is no fraction is 0", odd(), "144/25"},
	} {
		same(t, x.what, must[api.Q](t, x.what)(Narrow(x.l)), x.want)
	}
}

func TestLayers(t *testing.T) {
	for _, x := range []struct {
		what string
		l    []api.P
		want []int
	}{
		{"one", pointsOf(3, 4), []int{1}},
		{"one, told often", pointsOf(3, 4, 3, 4, 3, 4), []int{1, 1, 1}},
		{"on a line", diagonal(), []int{1, 1, 1, 1, 1}},
		{"a house", house(), []int{2, 1, 1, 1, 1, 1, 1, 1, 1, 2}},
		{"one within", append(pointsOf(1, 1), square()...), []int{2, 1, 1, 1, 1}},
		{"one within, told twice", append(pointsOf(1, 1, 1, 1), square()...), []int{2, 2, 1, 1, 1, 1}},
		{"a line within", pointsOf(0, 0, 9, 0, 9, 9, 0, 9, 3, 3, 4, 4, 5, 5), []int{1, 1, 1, 1, 2, 2, 2}},
		{"rings", pointsOf(5, 5, 4, 4, 6, 4, 5, 7, 1, 1, 9, 1, 5, 9, -9, -9, 30, -9, 5, 40), []int{4, 3, 3, 3, 2, 2, 2, 1, 1, 1}},
		{"a bowl", bowl(), slices.Repeat([]int{1}, api.MaxPoints)},
		{"what is no fraction is 0", odd(), []int{1, 1, 1, 2}},
	} {
		sameList(t, x.what, must[[]int](t, x.what)(Layers(x.l)), x.want)
	}
}

func TestThree(t *testing.T) {
	l := pointsOf(1, 1, 0, 0, 2, 0, 1, 0, 2, 2, 0, 2)
	for _, x := range []struct {
		what string
		l    []api.P
		p    api.P
		want [3]int
	}{
		{"on the way to another", l, pt("1", "1/2"), [3]int{0, 0, 3}},
		{"one of them", l, pt("2", "2"), [3]int{0, 0, 4}},
		{"the first", l, pt("1", "1"), [3]int{0, 0, 0}},
		{"on the edge of three", l, pt("0", "1"), [3]int{0, 1, 5}},
		{"on the way back to the second", l, pt("1/2", "1/2"), [3]int{0, 0, 1}},
		{"on the way of two later ones", pointsOf(9, 9, 0, 0, 4, 8), pt("1", "2"), [3]int{0, 1, 2}},
		{"not with the second", pointsOf(0, 9, 0, 0, 4, 0, 2, -3), pt("2", "-1"), [3]int{0, 2, 3}},
		{"three", l, pt("3/4", "1/2"), [3]int{0, 1, 2}},
		{"three, the last behind", l, pt("3/2", "7/4"), [3]int{0, 4, 5}},
		{"two on a line", diagonal(), pt("1/2", "1/2"), [3]int{0, 0, 1}},
		{"two on a line, later ones", diagonal(), pt("5/2", "5/2"), [3]int{0, 0, 2}},
		{"one alone", pointsOf(3, 4), pt("3", "4"), [3]int{0, 0, 0}},
		{"the last one of those told twice", pointsOf(0, 0, 5, 5, 5, 5), pt("5", "5"), [3]int{0, 0, 1}},
		{"what is no fraction is 0", odd(), pt("1/0", "02"), [3]int{0, 0, 2}},
	} {
		same(t, x.what, must[[3]int](t, x.what)(Three(x.l, x.p)), x.want)
	}
	for _, p := range append(pointsOf(5, 5, -1, 0, 3, 0, 3, 1, 1, -1), pt("1", "-1/1000000000000000000000")) {
		refused[[3]int](t, "outside", api.ErrNone)(Three(l, p))
	}
	for _, p := range pointsOf(4, 4, -1, -1, 1, 2, 2, 1) {
		refused[[3]int](t, "outside what has no area", api.ErrNone)(Three(diagonal(), p))
	}
	for _, p := range pointsOf(4, 3, 3, 5, 0, 0, 6, 8) {
		refused[[3]int](t, "outside one", api.ErrNone)(Three(pointsOf(3, 4), p))
	}
}

// pairsApart: each has nothing in common with the other.
func pairsApart() map[string][2][]api.P {
	small := api.Q("1/1000000000000000000000")
	return map[string][2][]api.P{
		"two points":                   {pointsOf(1, 2), pointsOf(1, 3)},
		"two points close by":          {pointsOf(1, 0), {pt("1", small)}},
		"a point and a line":           {pointsOf(0, 2), pointsOf(0, 0, 3, 1)},
		"a point on the line":          {pointsOf(4, 4), diagonal()},
		"a point ahead on the line":    {pointsOf(-1, -1), diagonal()},
		"a point beside an upright":    {pointsOf(1, 2), pointsOf(2, 0, 2, 9)},
		"upright on one line":          {pointsOf(2, -1, 2, -9), pointsOf(2, 0, 2, 9)},
		"level on one line":            {pointsOf(1, 2, 5, 2), pointsOf(6, 2, 7, 2)},
		"lines beside each other":      {pointsOf(0, 0, 4, 4), pointsOf(1, 0, 5, 4)},
		"lines beside, one behind":     {pointsOf(0, 0, 1, 1), pointsOf(9, 8, 8, 7)},
		"lines that would cross":       {pointsOf(0, 0, 4, 4), pointsOf(4, 0, 3, 1)},
		"a square and a point":         {square(), pointsOf(3, 1)},
		"a square and a point, askew":  {square(), pointsOf(3, 3)},
		"a square and one on its line": {square(), pointsOf(3, 2)},
		"a square and a line":          {square(), pointsOf(3, -5, 3, 9)},
		"a square and a slanted line":  {square(), pointsOf(5, 0, 0, 5)},
		"squares":                      {square(), pointsOf(3, 1, 5, 1, 5, 3, 3, 3)},
		"squares close by":             {square(), {pt("2", "3"), pt("2", "5"), pt("3", "2"), pt("5", "5")}},
		"a dart's notch":               {pointsOf(0, 0, 4, 0, 2, 2), pointsOf(0, 3, 4, 3, 2, 9)},
		"the document's test":          {square(), pointsOf(3, 2, 9, 9)},
	}
}

// pairsOfOne: each has but one point in common with the other.
func pairsOfOne() map[string]struct {
	a, b []api.P
	both api.P
} {
	type pair = struct {
		a, b []api.P
		both api.P
	}
	return map[string]pair{
		"one and the same":          {pointsOf(3, -4), pointsOf(3, -4, 3, -4), pt("3", "-4")},
		"an end":                    {diagonal(), pointsOf(3, 3, 9, 1), pt("3", "3")},
		"the middle of a line":      {diagonal(), pointsOf(1, 1, 9, 1), pt("1", "1")},
		"lines that cross":          {diagonal(), pointsOf(0, 3, 3, 0), pt("3/2", "3/2")},
		"lines that cross, askew":   {pointsOf(0, 0, 1, 3), pointsOf(1, 0, 0, 1), pt("1/4", "3/4")},
		"behind on the line":        {diagonal(), pointsOf(3, 3, 9, 9), pt("3", "3")},
		"a corner":                  {square(), pointsOf(2, 2, 9, 9), pt("2", "2")},
		"a corner at a corner":      {square(), pointsOf(2, 2, 5, 3, 3, 5), pt("2", "2")},
		"a corner at an edge":       {square(), pointsOf(2, 1, 5, 0, 5, 5), pt("2", "1")},
		"an edge at a corner":       {square(), pointsOf(4, 0, 0, 4), pt("2", "2")},
		"a point within":            {square(), pointsOf(1, 1), pt("1", "1")},
		"within a point":            {pointsOf(1, 1), square(), pt("1", "1")},
		"what is no fraction is 0":  {pointsOf(-1, 0, 0, 0), []api.P{pt("x", "1/0"), pt("07", "y")}, pt("0", "0")},
		"what is written otherwise": {odd(), []api.P{pt("04/4", "1/1")}, pt("1", "1")},
	}
}

// parts checks that the line has both on their sides.
func parts(t *testing.T, what string, got parted, a, b []spot) {
	t.Helper()
	same(t, what+": apart", got.apart, true)
	same(t, what, got.e, api.OK)
	same(t, what+": no point", got.both, api.P{})
	if !got.apart {
		return
	}
	for _, p := range a {
		same(t, what+": the first side", value(got.l, p).Sign(), 1)
	}
	for _, p := range b {
		same(t, what+": the second side", value(got.l, p).Sign(), -1)
	}
	lowest := api.L{A: text(rat(got.l.A)), B: text(rat(got.l.B)), C: text(rat(got.l.C))}
	same(t, what+": lowest terms", got.l, lowest)
}

func TestPart(t *testing.T) {
	for what, x := range pairsApart() {
		a, b := spotsAt(x[0]), spotsAt(x[1])
		parts(t, what, partedOf(x[0], x[1]), a, b)
		parts(t, what+", the other way", partedOf(x[1], x[0]), b, a)
	}
	parts(t, "what is no fraction is 0", partedOf(odd(), []api.P{pt("05", "x")}), spotsAt(pointsOf(0, 0, 4, 0, 0, 3, 1, 1)), spotsAt(pointsOf(5, 0)))
	for what, x := range pairsOfOne() {
		same(t, what, partedOf(x.a, x.b), parted{both: x.both})
		same(t, what+", the other way", partedOf(x.b, x.a), parted{both: x.both})
	}
	for what, x := range map[string][2][]api.P{
		"the same":                 {house(), house()},
		"one within":               {pointsOf(-9, -9, 20, -9, 0, 20), square()},
		"crossing without corners": {pointsOf(0, 1, 9, 1, 9, 2, 0, 2), pointsOf(4, -5, 5, -5, 5, 5, 4, 5)},
		"along an edge":            {square(), pointsOf(2, -5, 2, 9)},
		"edge at edge":             {square(), pointsOf(2, 1, 5, 1, 5, 5, 2, 5)},
		"along a line":             {diagonal(), pointsOf(2, 2, 9, 9)},
		"through":                  {square(), pointsOf(-5, 0, 5, 1)},
		"a star":                   {pointsOf(0, 0, 6, 0, 3, 5), pointsOf(0, 3, 6, 3, 3, -2)},
		"a little":                 {square(), []api.P{pt("1999999999999999999/1000000000000000000", "1"), pt("9", "0"), pt("9", "9")}},
	} {
		got := partedOf(x[0], x[1])
		same(t, what, got, parted{both: got.both})
		same(t, what+": in the first", inHull(spotsAt(x[0]), spotAt(got.both)), true)
		same(t, what+": in the second", inHull(spotsAt(x[1]), spotAt(got.both)), true)
	}
}

func TestRadon(t *testing.T) {
	for _, x := range []struct {
		what string
		l    []api.P
		part [4]bool
		both api.P
	}{
		{"a square", square(), [4]bool{true, false, true}, pt("1", "1")},
		{"a square, otherwise", pointsOf(0, 0, 2, 2, 2, 0, 0, 2), [4]bool{true, true}, pt("1", "1")},
		{"a square, the first with the last", pointsOf(0, 0, 2, 0, 0, 2, 2, 2), [4]bool{true, false, false, true}, pt("1", "1")},
		{"the first within", pointsOf(1, 1, 0, 0, 9, 0, 0, 9), [4]bool{true}, pt("1", "1")},
		{"the second within", pointsOf(0, 0, 1, 1, 9, 0, 0, 9), [4]bool{true, false, true, true}, pt("1", "1")},
		{"the third within", pointsOf(0, 0, 9, 0, 1, 1, 0, 9), [4]bool{true, true, false, true}, pt("1", "1")},
		{"the last within", pointsOf(0, 0, 9, 0, 0, 9, 1, 1), [4]bool{true, true, true}, pt("1", "1")},
		{"the first on an edge", pointsOf(4, 0, 0, 0, 9, 0, 0, 9), [4]bool{true}, pt("4", "0")},
		{"the second on the way to the third", pointsOf(0, 0, 1, 0, 9, 0, 0, 9), [4]bool{true, false, true}, pt("1", "0")},
		{"the last on the way to the second", pointsOf(0, 0, 9, 0, 0, 9, 4, 0), [4]bool{true, true}, pt("4", "0")},
		{"all one", pointsOf(3, 4, 3, 4, 3, 4, 3, 4), [4]bool{true}, pt("3", "4")},
		{"nothing told", make([]api.P, 4), [4]bool{true}, pt("0", "0")},
		{"two are one", pointsOf(0, 0, 9, 0, 0, 0, 0, 9), [4]bool{true}, pt("0", "0")},
		{"two others are one", pointsOf(0, 0, 9, 0, 0, 9, 9, 0), [4]bool{true, true}, pt("9", "0")},
		{"what is no fraction is 0", odd(), [4]bool{true, true, true}, pt("1", "1")},
	} {
		part, both := Radon([4]api.P(x.l))
		same(t, x.what, part, x.part)
		same(t, x.what, both, x.both)
	}
	// Here more than one point is in both hulls.
	for what, x := range map[string]struct {
		l    []api.P
		part [4]bool
	}{
		"on a line": {pointsOf(0, 0, 1, 1, 2, 2, 3, 3), [4]bool{true, false, true}}, "on a line, within": {pointsOf(1, 1, 0, 0, 2, 2, 3, 3), [4]bool{true}}, "two and two are one": {pointsOf(0, 0, 1, 1, 1, 1, 0, 0), [4]bool{true}},
	} {
		part, both := Radon([4]api.P(x.l))
		same(t, what, part, x.part)
		one, other := partsOf([4]spot(spotsAt(x.l)), part)
		same(t, what, inHull(one, spotAt(both)) && inHull(other, spotAt(both)), true)
	}
}

// calls are all that take a list.
func calls() map[string]func(l []api.P) {
	return map[string]func(l []api.P){
		"around": func(l []api.P) { Around(l) }, "side": func(l []api.P) { Side(l, pt("1", "1")) }, "wide": func(l []api.P) { Wide(l) }, "narrow": func(l []api.P) { Narrow(l) }, "layers": func(l []api.P) { Layers(l) },
		"three": func(l []api.P) { Three(l, pt("1", "1")) }, "part": func(l []api.P) { Part(l, square()) }, "part, the second": func(l []api.P) { Part(square(), l) }, "part, both": func(l []api.P) { Part(l, l) },
	}
}

// TestOnlyRead: neither the list nor the spare room behind it is changed.
func TestOnlyRead(t *testing.T) {
	for what, call := range calls() {
		for n := range 18 {
			l := append(house(), house()...)
			call(l[:n])
			sameList(t, what, l, append(house(), house()...))
		}
	}
}

// TestAnswersAreNew: what is done to an answer is seen neither in what was handed in nor in the next one.
func TestAnswersAreNew(t *testing.T) {
	l := square()
	first := must[[]api.P](t, "around")(Around(l))
	clear(first[:cap(first)])
	sameList(t, "around", l, square())
	sameList(t, "around again", must[[]api.P](t, "around")(Around(l)), square())
	layers := must[[]int](t, "layers")(Layers(l))
	clear(layers[:cap(layers)])
	sameList(t, "layers again", must[[]int](t, "layers")(Layers(l)), []int{1, 1, 1, 1})
}

func TestGreatLength(t *testing.T) {
	noughts := api.Q(strings.Repeat("0", 1500))
	great, small := "1"+noughts, "1/1"+noughts
	l := []api.P{pt(great, "0"), pt("1", "1/9"+noughts), pt("0", small), pt("0", "0")}
	sameList(t, "around", must[[]api.P](t, "around")(Around(l)), []api.P{l[3], l[0], l[2]})
	same(t, "within", must[int](t, "side")(Side(l, pt("1", "1/2"+noughts))), 1)
	same(t, "on", must[int](t, "side")(Side(l, pt("5"+noughts[1:], "1/2"+noughts))), 0)
	same(t, "outside", must[int](t, "side")(Side(l, pt("1", small))), -1)
	far2 := plus(times(rat(great), rat(great)), times(rat(small), rat(small)))
	same(t, "wide", widthOf(l), width{far2: text(far2), b: 2})
	same(t, "narrow", must[api.Q](t, "narrow")(Narrow(l)), text(over(whole(1), far2)))
	sameList(t, "layers", must[[]int](t, "layers")(Layers(l)), []int{1, 2, 1, 1})
	same(t, "three", must[[3]int](t, "three")(Three(l, pt("5"+noughts[1:], "1/2"+noughts))), [3]int{0, 0, 2})
	parts(t, "apart", partedOf(l, []api.P{pt("1", small)}), spotsAt(l), spotsAt([]api.P{pt("1", small)}))
	same(t, "not apart", partedOf(l, []api.P{pt("1", "1/2"+noughts)}), parted{both: pt("1", "1/2"+noughts)})
	part, both := Radon([4]api.P(l))
	same(t, "radon", part, [4]bool{true, false, true, true})
	same(t, "radon", both, l[1])
}
