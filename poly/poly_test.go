package poly

import (
	"slices"
	"strings"
	"testing"

	"compass/api"
)

func square() []api.P { return ringOf(0, 0, 2, 0, 2, 2, 0, 2) }

func bow() []api.P { return ringOf(0, 0, 2, 2, 2, 0, 0, 2) }

func dart() []api.P { return ringOf(0, 0, 4, 0, 4, 4, 2, 1, 0, 4) }

// comb has teeth whose ends lie on one line, beside each other.
func comb() []api.P {
	return ringOf(0, 0, 7, 0, 7, 3, 6, 3, 6, 1, 4, 1, 4, 3, 3, 3, 3, 1, 1, 1, 1, 3, 0, 3)
}

// straight is a triangle with corners in the middle of its sides.
func straight() []api.P { return ringOf(0, 0, 2, 0, 4, 0, 2, 2, 0, 4, 0, 2) }

// odd has what is no fraction, and so is 0, beside what is written otherwise than it is answered.
func odd() []api.P { return []api.P{pt("x", "1/0"), pt("08/4", ""), pt("-4/-2", "+1"), pt("2", "6/3")} }

// rightOdd is a triangle, told likewise.
func rightOdd() []api.P { return []api.P{pt("x", "1/0"), pt("08/2", "--1"), pt("+1", "06/2")} }

func backwards(l []api.P) []api.P {
	l = slices.Clone(l)
	slices.Reverse(l)
	return l
}

// simples: rings that are simple.
func simples() map[string][]api.P {
	return map[string][]api.P{
		"a triangle": ringOf(0, 0, 1, 0, 0, 1), "with the clock": ringOf(0, 0, 0, 1, 1, 0), "a square": square(), "a dart": dart(), "a comb": comb(), "straight": straight(),
		"a straight corner first":      ringOf(1, 0, 2, 0, 0, 2, 0, 0),
		"a straight corner last":       ringOf(2, 0, 0, 2, 0, 0, 1, 0),
		"edges on one line":            ringOf(0, 0, 5, 0, 5, 1, 4, 1, 4, 2, 3, 2, 3, 1, 2, 1, 2, 2, 0, 2),
		"on the line of another's end": ringOf(0, 0, 3, 0, 3, 3, 2, 3, 2, 1, 1, 1, 1, 2, 0, 2),
		"a spiral":                     ringOf(0, 0, 5, 0, 5, 5, 1, 5, 1, 2, 3, 2, 3, 3, 2, 3, 2, 4, 4, 4, 4, 1, 0, 1),
		"a corner close to an edge":    {pt("0", "0"), pt("4", "0"), pt("4", "4"), pt("2", "1/1000000000000000000000000000000"), pt("0", "4")},
		"edges close to each other":    {pt("0", "0"), pt("1000000000000000000000", "1000000000000000000000"), pt("1000000000000000000000", "1000000000000000000001"), pt("0", "1/1000000000000000000000")},
		"a corner close to the next":   {pt("0", "0"), pt("1/1000000000000000000000000000000", "0"), pt("0", "1")},
		"hardly a triangle":            {pt("0", "0"), pt("1000000000000000000000", "1000000000000000000001"), pt("1", "1")},
		"what is no fraction is 0":     rightOdd(),
	}
}

// tangles: rings that aren't simple.
func tangles() map[string][]api.P {
	return map[string][]api.P{
		"a bow": bow(), "all one": ringOf(1, 2, 1, 2, 1, 2), "nothing told": make([]api.P, 5),
		"two are one":                       ringOf(0, 0, 2, 0, 2, 0, 0, 2),
		"the first two are one":             ringOf(0, 0, 0, 0, 2, 0, 0, 2),
		"the last is the first":             ringOf(0, 0, 2, 0, 0, 2, 0, 0),
		"two of three are one":              ringOf(0, 0, 2, 1, 2, 1),
		"two are one, told otherwise":       {pt("0", "0"), pt("4/2", "0"), pt("02", "x"), pt("0", "2")},
		"three on a line":                   ringOf(0, 0, 1, 1, 2, 2),
		"three on a line, the middle last":  ringOf(0, 0, 2, 2, 1, 1),
		"three on a line, the middle first": ringOf(1, 1, 0, 0, 2, 2),
		"four on a line":                    ringOf(0, 0, 1, 0, 2, 0, 3, 0),
		"folded back":                       ringOf(0, 0, 4, 0, 2, 0, 2, 3),
		"folded back farther":               ringOf(0, 0, 2, 0, -1, 0, 0, 3),
		"folded back to where it came from": ringOf(0, 0, 2, 0, 0, 0, 1, 3),
		"folded back at the first":          ringOf(0, 0, 4, 0, 4, 4, 2, 0),
		"folded back at the last":           ringOf(4, 0, 4, 4, 2, 0, 0, 0),
		"a spike":                           ringOf(0, 0, 2, 0, 2, 2, 3, 3, 2, 2, 0, 2),
		"a corner on an edge":               ringOf(0, 0, 4, 0, 4, 4, 2, 0, 0, 4),
		"a corner on the last edge":         ringOf(4, 0, 4, 4, 2, 0, 0, 4, 0, 0),
		"corners that are one":              ringOf(0, 0, 2, 1, 4, 0, 4, 4, 2, 1, 0, 4),
		"edges along each other":            ringOf(0, 0, 2, 0, 2, 1, 3, 1, 3, 0, 1, 0, 1, -1, 0, -1),
		"an edge along the whole of one":    ringOf(0, 0, 6, 0, 6, 2, 4, 0, 2, 0, 0, 2),
		"twice around":                      ringOf(0, 0, 4, 0, 0, 3, 0, 0, 4, 0, 0, 3),
		"a star":                            ringOf(0, 3, 2, -2, -3, 1, 3, 1, -2, -2),
		"the first and the last but one":    ringOf(0, 0, 5, 0, 5, 5, 1, 5, 1, -1, 0, -1),
		"a corner a little across":          {pt("0", "0"), pt("4", "0"), pt("4", "4"), pt("2", "-1/1000000000000000000000000000000"), pt("0", "4")},
		"what is no fraction is 0":          odd(),
	}
}

// noLines: what is handed in as a line and is none.
func noLines() []api.L {
	return []api.L{{}, ln("0", "0", "1"), ln("-0", "0/3", "-2"), ln("x", "1/0", "5"), ln("+1", "--1", "1")}
}

// refusesAll checks that each call but Area2 and Simple answers that error, whatever else is wrong.
func refusesAll(t *testing.T, what string, l []api.P, want api.Errno) {
	t.Helper()
	refused[int](t, what, want)(Side(l, pt("0", "0")))
	refused[bool](t, what, want)(Convex(l))
	refused[api.P](t, what, want)(Mass(l))
	refusedList[[3]int](t, what, want)(Ears(l))
	for _, by := range append(noLines(), ln("1", "0", "0")) {
		refusedList[api.P](t, what, want)(Cut(l, by))
	}
	same(t, what, countedOf(l), counted{e: want})
}

func TestMany(t *testing.T) {
	round := comb()
	for _, l := range [][]api.P{nil, {}, round[:1], round[:2], append(round, pt("-1", "1/2")), make([]api.P, 13), make([]api.P, 5000)} {
		refused[api.Q](t, "too few, or too many", api.ErrMany)(Area2(l))
		refused[bool](t, "too few, or too many", api.ErrMany)(Simple(l))
		refusesAll(t, "too few, or too many", l, api.ErrMany)
	}
	for _, l := range [][]api.P{round[:3], round} {
		same(t, "as many as may be", must[bool](t, "simple")(Simple(l)), true)
	}
}

func TestSimple(t *testing.T) {
	for what, l := range simples() {
		same(t, what, must[bool](t, what)(Simple(l)), true)
		same(t, what+", backwards", must[bool](t, what)(Simple(backwards(l))), true)
	}
	for what, l := range tangles() {
		same(t, what, must[bool](t, what)(Simple(l)), false)
		same(t, what+", backwards", must[bool](t, what)(Simple(backwards(l))), false)
	}
}

func TestTanglesAreRefused(t *testing.T) {
	for what, l := range tangles() {
		refusesAll(t, what, l, api.ErrForm)
		refusesAll(t, what, backwards(l), api.ErrForm)
	}
}

func TestArea2(t *testing.T) {
	for _, x := range []struct {
		what string
		l    []api.P
		want api.Q
	}{
		{"the document's triangle", ringOf(0, 0, 4, 0, 0, 3), "12"},
		{"a square", square(), "8"},
		{"a dart", dart(), "20"},
		{"with the clock", backwards(dart()), "-20"},
		{"away from the origin", ringOf(5, 7, 9, 7, 5, 10), "12"},
		{"fractions", []api.P{pt("0", "0"), pt("-1/2", "0"), pt("0", "1/3")}, "-1/6"},
		{"a bow", bow(), "0"},
		{"a bow, one half greater", ringOf(0, 0, 3, 3, 3, 0, 0, 2), "-3"},
		{"twice around", ringOf(0, 0, 4, 0, 0, 3, 0, 0, 4, 0, 0, 3), "24"},
		{"on a line", ringOf(0, 0, 1, 1, 2, 2), "0"},
		{"all one", ringOf(5, 7, 5, 7, 5, 7), "0"},
		{"nothing told", make([]api.P, 3), "0"},
		{"what is no fraction is 0", rightOdd(), "12"},
	} {
		same(t, x.what, must[api.Q](t, x.what)(Area2(x.l)), x.want)
	}
}

func TestSide(t *testing.T) {
	diamond := ringOf(2, 0, 4, 2, 2, 4, 0, 2)
	for _, x := range []struct {
		what string
		l    []api.P
		side int
		of   []api.P
	}{
		{"within a dart", dart(), 1, []api.P{pt("2", "1/2"), pt("1/2", "2"), pt("7/2", "1"), pt("1", "1"), pt("2", "999999999999999999999/1000000000000000000000")}},
		{"on a dart", dart(), 0, []api.P{pt("0", "0"), pt("4", "0"), pt("4", "4"), pt("2", "1"), pt("0", "4"), pt("1", "0"), pt("4", "3"), pt("3", "5/2"), pt("1", "5/2"), pt("0", "1/3")}},
		{"outside a dart", dart(), -1, []api.P{pt("2", "2"), pt("2", "4"), pt("-1", "4"), pt("-1", "1"), pt("-1", "0"), pt("5", "0"), pt("5", "1"), pt("1", "4"), pt("4", "5"), pt("0", "-1"), pt("2", "1000000000000000000001/1000000000000000000000")}},
		{"within a diamond", diamond, 1, []api.P{pt("2", "2"), pt("1", "2"), pt("3", "2"), pt("2", "1"), pt("2", "7/2")}},
		{"on a diamond", diamond, 0, []api.P{pt("0", "2"), pt("4", "2"), pt("3", "1"), pt("3", "3"), pt("1", "1"), pt("1/2", "5/2")}},
		{"outside a diamond", diamond, -1, []api.P{pt("-1", "2"), pt("5", "2"), pt("-1", "0"), pt("-1", "4"), pt("1", "0"), pt("3", "4"), pt("1", "4"), pt("0", "1"), pt("0", "3"), pt("2", "5"), pt("2", "-1")}},
		{"within a comb", comb(), 1, []api.P{pt("1/2", "1"), pt("7/2", "1"), pt("13/2", "1"), pt("1/2", "2"), pt("7/2", "2"), pt("13/2", "5/2"), pt("2", "1/2"), pt("5", "1/3"), pt("3", "1/2")}},
		{"on a comb", comb(), 0, []api.P{pt("2", "1"), pt("5", "1"), pt("1", "1"), pt("1", "2"), pt("1/2", "3"), pt("7/2", "3"), pt("13/2", "3"), pt("3", "0"), pt("0", "1"), pt("7", "1")}},
		{"outside a comb", comb(), -1, []api.P{pt("2", "3"), pt("5", "3"), pt("2", "2"), pt("5", "2"), pt("-1", "0"), pt("-1", "1"), pt("-1", "3"), pt("8", "0"), pt("8", "1"), pt("8", "3"), pt("2", "4"), pt("2", "-1"), pt("2", "11/10")}},
		{"within what has straight corners", straight(), 1, []api.P{pt("1", "2"), pt("1", "1"), pt("2", "1")}},
		{"on what has straight corners", straight(), 0, []api.P{pt("2", "0"), pt("1", "0"), pt("3", "0"), pt("0", "2"), pt("0", "3"), pt("3", "1")}},
		{"outside what has straight corners", straight(), -1, []api.P{pt("-1", "2"), pt("3", "2"), pt("-1", "0"), pt("5", "0"), pt("-1", "4")}},
		{"what is no fraction is 0", rightOdd(), 0, []api.P{pt("x", "1/0"), pt("08/4", "+7"), pt("", "2")}},
		{"what is written otherwise", rightOdd(), 1, []api.P{pt("02/2", "3/3")}},
	} {
		for _, p := range x.of {
			same(t, x.what, must[int](t, x.what)(Side(x.l, p)), x.side)
			same(t, x.what+", backwards", must[int](t, x.what)(Side(backwards(x.l), p)), x.side)
		}
	}
}

func TestConvex(t *testing.T) {
	var bowl []api.P
	for k := range api.MaxCorners {
		bowl = append(bowl, at(k, k*k))
	}
	for what, x := range map[string]struct {
		l    []api.P
		want bool
	}{
		"a triangle": {ringOf(0, 0, 4, 0, 0, 3), true}, "a square": {square(), true}, "a bowl": {bowl, true}, "hardly a triangle": {simples()["hardly a triangle"], true},
		"edges close to each other": {simples()["edges close to each other"], true}, "what is no fraction is 0": {rightOdd(), true},
		"a dart": {dart(), false}, "a comb": {comb(), false}, "straight": {straight(), false},
		"a straight corner first": {simples()["a straight corner first"], false},
		"a straight corner last":  {simples()["a straight corner last"], false},
		"a dent at the first":     {ringOf(2, 1, 0, 4, 0, 0, 4, 0, 4, 4), false},
		"a dent at the second":    {ringOf(4, 4, 2, 1, 0, 4, 0, 0, 4, 0), false},
		"a dent at the last":      {ringOf(0, 4, 0, 0, 4, 0, 4, 4, 2, 1), false},
		"a small dent":            {[]api.P{pt("0", "0"), pt("1", "1/1000000000000000000000000000000"), pt("2", "0"), pt("0", "2")}, false},
		"as small, the other way": {[]api.P{pt("0", "0"), pt("1", "-1/1000000000000000000000000000000"), pt("2", "0"), pt("0", "2")}, true},
		"three dents":             {ringOf(0, 0, 3, 1, 6, 0, 4, 2, 3, 6, 2, 2), false},
		"a step":                  {ringOf(0, 0, 5, 0, 5, 5, 4, 5, 4, 1, 0, 1), false},
	} {
		same(t, what, must[bool](t, what)(Convex(x.l)), x.want)
		same(t, what+", backwards", must[bool](t, what)(Convex(backwards(x.l))), x.want)
	}
}

func TestMass(t *testing.T) {
	for _, x := range []struct {
		what string
		l    []api.P
		want api.P
	}{
		{"a triangle", ringOf(0, 0, 4, 0, 0, 3), pt("4/3", "1")},
		{"a square", square(), pt("1", "1")},
		{"away from the origin", ringOf(-7, 5, -5, 5, -5, 7, -7, 7), pt("-6", "6")},
		{"a dart", dart(), pt("2", "7/5")},
		{"of three squares", ringOf(0, 0, 2, 0, 2, 1, 1, 1, 1, 2, 0, 2), pt("5/6", "5/6")},
		{"outside", ringOf(0, 0, 3, 0, 3, 3, 2, 3, 2, 1, 1, 1, 1, 3, 0, 3), pt("3/2", "19/14")},
		{"straight corners weigh nothing", straight(), pt("4/3", "4/3")},
		{"around the origin", ringOf(-1, -1, 1, -1, 1, 1, -1, 1), pt("0", "0")},
		{"fractions", []api.P{pt("1/2", "0"), pt("3/2", "-1/2"), pt("1/2", "1/3")}, pt("5/6", "-1/18")},
		{"what is no fraction is 0", rightOdd(), pt("4/3", "1")},
	} {
		same(t, x.what, must[api.P](t, x.what)(Mass(x.l)), x.want)
		same(t, x.what+", backwards", must[api.P](t, x.what)(Mass(backwards(x.l))), x.want)
	}
}

func TestEars(t *testing.T) {
	for _, x := range []struct {
		what string
		l    []api.P
		want [][3]int
	}{
		{"a triangle", ringOf(0, 0, 4, 0, 0, 3), [][3]int{{0, 1, 2}}},
		{"with the clock", ringOf(0, 0, 0, 3, 4, 0), [][3]int{{0, 1, 2}}},
		{"a square", square(), [][3]int{{3, 0, 1}, {1, 2, 3}}},
		{"a square, backwards", backwards(square()), [][3]int{{3, 0, 1}, {1, 2, 3}}},
		{"a dart", dart(), [][3]int{{1, 2, 3}, {0, 1, 3}, {0, 3, 4}}},
		{"a dart, backwards", backwards(dart()), [][3]int{{4, 0, 1}, {1, 2, 3}, {1, 3, 4}}},
		{"straight", straight(), [][3]int{{5, 0, 1}, {5, 1, 2}, {5, 2, 3}, {3, 4, 5}}},
		{"a straight corner first", ringOf(1, 0, 2, 0, 0, 2, 0, 0), [][3]int{{0, 1, 2}, {0, 2, 3}}},
		{"a corner on a triangle's edge", ringOf(0, 0, 4, 0, 4, 4, 2, 2, 0, 4), [][3]int{{1, 2, 3}, {0, 1, 3}, {0, 3, 4}}},
		{"what is no fraction is 0", rightOdd(), [][3]int{{0, 1, 2}}},
	} {
		sameList(t, x.what, must[[][3]int](t, x.what)(Ears(x.l)), x.want)
	}
}

func TestCut(t *testing.T) {
	for _, x := range []struct {
		what string
		l    []api.P
		by   api.L
		want []api.P
	}{
		{"half", square(), ln("-1", "0", "1"), ringOf(0, 0, 1, 0, 1, 2, 0, 2)},
		{"the other half", square(), ln("1", "0", "-1"), ringOf(1, 0, 2, 0, 2, 2, 1, 2)},
		{"not plain", square(), ln("-1/3", "0/5", "02/6"), ringOf(0, 0, 1, 0, 1, 2, 0, 2)},
		{"along an edge, all", square(), ln("1", "0", "0"), square()},
		{"along an edge, that one alone", square(), ln("-1", "0", "0"), ringOf(0, 0, 0, 2)},
		{"all", square(), ln("1", "1", "1"), square()},
		{"nothing", square(), ln("1", "0", "-3"), nil},
		{"a corner alone", square(), ln("1", "1", "-4"), ringOf(2, 2)},
		{"all but a corner's point", square(), ln("-1", "-1", "4"), square()},
		{"through two corners", square(), ln("1", "-1", "0"), ringOf(0, 0, 2, 0, 2, 2)},
		{"through two corners, the other side", square(), ln("-1", "1", "0"), ringOf(0, 0, 2, 2, 0, 2)},
		{"through a corner and an edge", square(), ln("1", "-2", "0"), ringOf(0, 0, 2, 0, 2, 1)},
		{"through a corner and an edge, the other side", square(), ln("-1", "2", "0"), ringOf(0, 0, 2, 1, 2, 2, 0, 2)},
		{"the first corner off", square(), ln("1", "1", "-1"), ringOf(1, 0, 2, 0, 2, 2, 0, 2, 0, 1)},
		{"the first corner alone left", square(), ln("-1", "-1", "1"), ringOf(0, 0, 1, 0, 0, 1)},
		{"the last corner off", square(), ln("1", "-1", "1"), ringOf(0, 0, 2, 0, 2, 2, 1, 2, 0, 1)},
		{"to fractions", square(), ln("3", "0", "-1"), []api.P{pt("1/3", "0"), pt("2", "0"), pt("2", "2"), pt("1/3", "2")}},
		{"askew", ringOf(0, 0, 4, 0, 0, 3), ln("-2", "1", "1"), []api.P{pt("0", "0"), pt("1/2", "0"), pt("16/11", "21/11"), pt("0", "3")}},
		{"corners written otherwise", []api.P{pt("x", "1/0"), pt("08/4", ""), pt("6/3", "02"), pt("+3", "4/2")}, ln("y", "1", "+5"), square()},
	} {
		sameList(t, x.what, must[[]api.P](t, x.what)(Cut(x.l, x.by)), x.want)
	}
	for what, l := range map[string][]api.P{
		"with the clock": backwards(square()), "a dart": dart(), "a dart, backwards": backwards(dart()), "straight": straight(), "a comb": comb(), "a triangle with the clock": ringOf(0, 0, 0, 3, 4, 0),
	} {
		for _, by := range append(noLines(), ln("1", "0", "0")) {
			refusedList[api.P](t, what, api.ErrForm)(Cut(l, by))
		}
	}
	for _, by := range noLines() {
		refusedList[api.P](t, "no line", api.ErrFlat)(Cut(square(), by))
	}
}

func TestGrid(t *testing.T) {
	for _, x := range []struct {
		what string
		l    []api.P
		want counted
	}{
		{"a square", square(), counted{within: 1, on: 8}},
		{"a triangle", ringOf(0, 0, 4, 0, 0, 3), counted{within: 3, on: 8}},
		{"as small as can be", ringOf(0, 0, 1, 0, 0, 1), counted{on: 3}},
		{"thin and long", ringOf(0, 0, 200, 199, 199, 198), counted{on: 3}},
		{"a dart", dart(), counted{within: 4, on: 14}},
		{"a comb", comb(), counted{on: 28}},
		{"straight", straight(), counted{within: 3, on: 12}},
		{"below 0", ringOf(-5, -5, -2, -4, -4, -1), counted{within: 5, on: 3}},
		{"as great as can be", ringOf(-200, -200, 200, -200, 200, 200, -200, 200), counted{within: 159201, on: 1600}},
		{"what is no fraction is 0", rightOdd(), counted{within: 3, on: 8}},
	} {
		same(t, x.what, countedOf(x.l), x.want)
		same(t, x.what+", backwards", countedOf(backwards(x.l)), x.want)
	}
	for _, q := range []api.Q{"1/2", "-7/3", "201", "-201", "401/2", "-18446744073709551615", "18446744073709551617", "4294967297", "9223372036854775808", "-9223372036854775808", "340282366920938463463374607431768211457", "1/340282366920938463463374607431768211456"} {
		for _, l := range [][]api.P{
			{pt(q, "7"), pt("100", "100"), pt("0", "0")}, {pt("7", q), pt("100", "100"), pt("0", "0")}, {pt("0", "0"), pt("100", "100"), pt(q, "7")}, {pt("0", "0"), pt("7", q), pt("100", "100")},
		} {
			same(t, string(q), countedOf(l), counted{e: api.ErrValue})
		}
		same(t, "not simple, too", countedOf([]api.P{pt("0", "0"), pt(q, "0"), pt("5", "0")}), counted{e: api.ErrForm})
	}
}

// calls are all that take a ring.
func calls() map[string]func(l []api.P) {
	return map[string]func(l []api.P){
		"area": func(l []api.P) { Area2(l) }, "simple": func(l []api.P) { Simple(l) }, "side": func(l []api.P) { Side(l, pt("1", "1")) }, "convex": func(l []api.P) { Convex(l) },
		"mass": func(l []api.P) { Mass(l) }, "ears": func(l []api.P) { Ears(l) }, "cut": func(l []api.P) { Cut(l, ln("1", "1", "-1")) }, "grid": func(l []api.P) { Grid(l) },
	}
}

// TestOnlyRead: neither the list nor the spare room behind it is changed.
func TestOnlyRead(t *testing.T) {
	for what, call := range calls() {
		for n := range 13 {
			l := append(square(), comb()...)
			call(l[:n])
			sameList(t, what, l, append(square(), comb()...))
		}
	}
}

// TestAnswersAreNew: what is done to an answer is seen neither in what was handed in nor in the next one.
func TestAnswersAreNew(t *testing.T) {
	l := square()
	first := must[[]api.P](t, "cut")(Cut(l, ln("1", "0", "0")))
	clear(first[:cap(first)])
	sameList(t, "cut", l, square())
	sameList(t, "cut again", must[[]api.P](t, "cut")(Cut(l, ln("1", "0", "0"))), square())
	ears := must[[][3]int](t, "ears")(Ears(l))
	clear(ears[:cap(ears)])
	sameList(t, "ears again", must[[][3]int](t, "ears")(Ears(l)), [][3]int{{3, 0, 1}, {1, 2, 3}})
}

func TestGreatLength(t *testing.T) {
	noughts := api.Q(strings.Repeat("0", 1500))
	great, small := "1"+noughts, "1/1"+noughts
	l := []api.P{pt("0", "0"), pt(great, "0"), pt("0", small)}
	same(t, "area", must[api.Q](t, "area")(Area2(l)), "1")
	same(t, "simple", must[bool](t, "simple")(Simple(l)), true)
	same(t, "within", must[int](t, "side")(Side(l, pt("1", "1/2"+noughts))), 1)
	same(t, "on", must[int](t, "side")(Side(l, pt("5"+noughts[1:], "1/2"+noughts))), 0)
	same(t, "outside", must[int](t, "side")(Side(l, pt("1", small))), -1)
	same(t, "convex", must[bool](t, "convex")(Convex(l)), true)
	same(t, "mass", must[api.P](t, "mass")(Mass(l)), pt(great+"/3", "1/3"+noughts))
	sameList(t, "ears", must[[][3]int](t, "ears")(Ears(l)), [][3]int{{0, 1, 2}})
	sameList(t, "cut", must[[]api.P](t, "cut")(Cut(l, ln("-1", "0", "5"+noughts[1:]))), []api.P{l[0], pt("5"+noughts[1:], "0"), pt("5"+noughts[1:], "1/2"+noughts), l[2]})
	same(t, "grid", countedOf(l), counted{e: api.ErrValue})
	flat := []api.P{pt("0", "0"), pt(great, "1"), pt("2"+noughts, "2")}
	same(t, "flat", must[bool](t, "simple")(Simple(flat)), false)
	refused[int](t, "flat", api.ErrForm)(Side(flat, pt("1", "1")))
}
