package add

import (
	"slices"
	"strings"
	"testing"

	"compass/api"
)

func square() []api.P { return pointsOf(0, 0, 1, 0, 1, 1, 0, 1) }

func triangle() []api.P { return pointsOf(0, 0, 2, 0, 0, 2) }

// house has points within, on edges, and at corners twice.
func house() []api.P {
	return pointsOf(2, 1, 4, 0, 0, 0, 2, 0, 4, 4, 2, 6, 0, 4, 4, 0, 1, 5, 2, 3)
}

func diagonal() []api.P { return pointsOf(1, 1, 0, 0, 3, 3, 2, 2, 0, 0) }

// bowl has as many points as may be, all of them corners.
func bowl() []api.P {
	var l []api.P
	for k := range api.MaxPoints {
		l = append(l, pointsOf(k, k*k)...)
	}
	return l
}

// lid is a bowl upside down, whose edges go other ways.
func lid() []api.P {
	var l []api.P
	for k := range api.MaxPoints {
		l = append(l, pointsOf(2*k, -k*k)...)
	}
	return l
}

// odd is the triangle of 0, 0 and 4, 0 and 0, 3, with what is no fraction, and so is 0, and what is written otherwise than it is answered.
func odd() []api.P {
	return []api.P{pt("x", "1/0"), pt("08/2", "--1"), pt("+1", "06/2"), pt("2/2", "01")}
}

const (
	small = "1/1000000000000000000000000000000"
	hair  = "1000000000000000000000000000001/1000000000000000000000000000000" // 1 and small
)

func TestMany(t *testing.T) {
	one := pointsOf(1, 2)
	for _, l := range [][]api.P{nil, {}, append(bowl(), pt("1/2", "1/2")), make([]api.P, 17), slices.Repeat(one, 17), make([]api.P, 5000)} {
		for _, pair := range [][2][]api.P{{l, one}, {one, l}, {l, l}, {l, nil}, {bowl(), l}} {
			what := "too few, or too many"
			sum, e := Sum(pair[0], pair[1])
			same(t, what, len(sum), 0)
			same(t, what, e, api.ErrMany)
			refused[api.Q](t, what, api.ErrMany)(Mixed(pair[0], pair[1]))
			refused[bool](t, what, api.ErrMany)(Meet(pair[0], pair[1]))
		}
		refused[api.Q](t, "too few, or too many", api.ErrMany)(Area2(l))
		refused[api.Q](t, "too few, or too many", api.ErrMany)(Reach(l, pt("1", "1")))
	}
}

// TestAsManyAsMayBe: a sum may have more corners than may be handed in.
func TestAsManyAsMayBe(t *testing.T) {
	sum := sumOf(t, bowl(), lid())
	same(t, "corners", len(sum), 32)
	sameList(t, "sum", sum, textsOf(wrapped(allSums(spotsAt(bowl()), spotsAt(lid())))))
	_, e := Sum(sum, square())
	same(t, "and no more", e, api.ErrMany)
	same(t, "area", text(area2Of(t, bowl())), "1120")
	same(t, "area of the lid", text(area2Of(t, lid())), "2240")
	same(t, "mixed", text(mixedOf(t, bowl(), lid())), text(mixedIn(spotsAt(bowl()), spotsAt(lid()))))
	same(t, "reach", text(reachOf(t, bowl(), spotAt(pt("1", "1")))), "240")
	same(t, "meet", meetOf(t, bowl(), lid()), true)
	same(t, "one, told often", text(area2Of(t, slices.Repeat(pointsOf(3, 4), api.MaxPoints))), "0")
}

func TestSum(t *testing.T) {
	for _, x := range []struct {
		what       string
		a, b, want []api.P
	}{
		{"points", pointsOf(1, 2), pointsOf(3, -4), pointsOf(4, -2)},
		{"points, told often", pointsOf(1, 2, 1, 2, 1, 2), pointsOf(3, -4, 3, -4), pointsOf(4, -2)},
		{"nothing told", make([]api.P, 3), make([]api.P, 2), pointsOf(0, 0)},
		{"a point and a line", pointsOf(5, -5), diagonal(), pointsOf(5, -5, 8, -2)},
		{"a point and an upright line", pointsOf(5, -5), pointsOf(1, 9, 1, 2), pointsOf(6, -3, 6, 4)},
		{"a point and a square", pointsOf(-1, 2), square(), pointsOf(-1, 2, 0, 2, 0, 3, -1, 3)},
		{"a point and a house", pointsOf(1, 1), house(), pointsOf(1, 1, 5, 1, 5, 5, 3, 7, 1, 5)},
		{"lines that cross", pointsOf(0, 0, 3, 3), pointsOf(0, 2, 2, 0), pointsOf(0, 2, 2, 0, 5, 3, 3, 5)},
		{"lines, level and upright", pointsOf(1, 1, 4, 1), pointsOf(0, 0, 0, 2), pointsOf(1, 1, 4, 1, 4, 3, 1, 3)},
		{"lines, down and upright", pointsOf(0, 3, 1, 0), pointsOf(2, 2, 2, 7), pointsOf(2, 5, 3, 2, 3, 7, 2, 10)},
		{"lines beside each other", pointsOf(0, 0, 3, 3), pointsOf(7, 2, 5, 0), pointsOf(5, 0, 10, 5)},
		{"lines beside each other, level", pointsOf(0, 1, 3, 1), pointsOf(7, 2, -5, 2), pointsOf(-5, 3, 10, 3)},
		{"lines beside each other, upright", pointsOf(1, 4, 1, 0), pointsOf(7, 2, 7, 3), pointsOf(8, 2, 8, 7)},
		{"a line twice", diagonal(), diagonal(), pointsOf(0, 0, 6, 6)},
		{"the document's test", square(), triangle(), pointsOf(0, 0, 3, 0, 3, 1, 1, 3, 0, 3)},
		{"a square twice", square(), square(), pointsOf(0, 0, 2, 0, 2, 2, 0, 2)},
		{"a square, and it turned", square(), pointsOf(0, 1, 1, 0, 2, 1, 1, 2), pointsOf(0, 1, 1, 0, 2, 0, 3, 1, 3, 2, 2, 3, 1, 3, 0, 2)},
		{"a square and a line", square(), pointsOf(0, 0, 2, 3), pointsOf(0, 0, 1, 0, 3, 3, 3, 4, 2, 4, 0, 1)},
		{"a square and a line down", square(), pointsOf(0, 3, 2, 0), pointsOf(0, 3, 2, 0, 3, 0, 3, 1, 1, 4, 0, 4)},
		{"a square and a level line", square(), pointsOf(4, 7, -1, 7), pointsOf(-1, 7, 5, 7, 5, 8, -1, 8)},
		{"a square and an upright line", square(), pointsOf(4, 7, 4, 2), pointsOf(4, 2, 5, 2, 5, 8, 4, 8)},
		{"a triangle, and it upside down", triangle(), pointsOf(0, 0, -2, 0, 0, -2), pointsOf(-2, 0, 0, -2, 2, -2, 2, 0, 0, 2, -2, 2)},
		{"a triangle and itself, longer", triangle(), pointsOf(1, 1, 7, 1, 1, 7), pointsOf(1, 1, 9, 1, 1, 9)},
		{"a house and a triangle", house(), triangle(), pointsOf(0, 0, 6, 0, 6, 4, 2, 8, 0, 6)},
		{"a house and what lies within", house(), pointsOf(-1, 0, 1, 0, 0, 1, 0, -1, 0, 0), pointsOf(-1, 0, 0, -1, 4, -1, 5, 0, 5, 4, 2, 7, -1, 4)},
		{"fractions", []api.P{pt("1/2", "1/3"), pt("-1/6", "0")}, []api.P{pt("1/3", "-1/3"), pt("1/6", "1")}, []api.P{pt("0", "1"), pt("1/6", "-1/3"), pt("5/6", "0"), pt("2/3", "4/3")}},
		{"hardly a turn", pointsOf(0, 0, 1, 1), []api.P{pt("0", "0"), pt("1", hair)}, []api.P{pt("0", "0"), pt("1", "1"), pt("2", "2000000000000000000000000000001/1000000000000000000000000000000"), pt("1", hair)}},
		{"hardly upright", pointsOf(0, 0, 0, 1), []api.P{pt("0", "0"), pt(small, "1")}, []api.P{pt("0", "0"), pt(small, "1"), pt(small, "2"), pt("0", "1")}},
		{"hardly upright, to the left", pointsOf(0, 0, 0, 1), []api.P{pt(small, "0"), pt("0", "1")}, []api.P{pt("0", "1"), pt(small, "0"), pt(small, "1"), pt("0", "2")}},
		{"what is no fraction is 0", odd(), []api.P{pt("", "1"), pt("0x1", "05/5")}, pointsOf(0, 1, 4, 1, 0, 4)},
	} {
		sameList(t, x.what, sumOf(t, x.a, x.b), x.want)
		sameList(t, x.what+", the other way", sumOf(t, x.b, x.a), x.want)
		slices.Reverse(x.a)
		sameList(t, x.what+", backwards", sumOf(t, x.a, x.b), x.want)
	}
}

func TestArea2(t *testing.T) {
	for _, x := range []struct {
		what string
		l    []api.P
		want api.Q
	}{
		{"one", pointsOf(3, 4), "0"},
		{"one, told often", pointsOf(3, 4, 3, 4, 3, 4), "0"},
		{"two", pointsOf(3, 4, 1, 1), "0"},
		{"on a line", diagonal(), "0"},
		{"on an upright line", pointsOf(1, 1, 1, 7, 1, -2), "0"},
		{"a square", square(), "2"},
		{"a square, with the clock", pointsOf(0, 0, 0, 1, 1, 1, 1, 0), "2"},
		{"a square, crosswise", pointsOf(0, 0, 1, 1, 1, 0, 0, 1), "2"},
		{"a triangle", triangle(), "4"},
		{"the document's triangle", pointsOf(0, 0, 4, 0, 0, 3), "12"},
		{"away from the origin", pointsOf(-100, -200, -96, -200, -100, -197), "12"},
		{"a house", house(), "40"},
		{"a dart", pointsOf(0, 0, 4, 0, 4, 4, 2, 1, 0, 4), "32"},
		{"fractions", []api.P{pt("0", "0"), pt("1/2", "0"), pt("0", "1/3")}, "1/6"},
		{"hardly an area", []api.P{pt("0", "0"), pt("2", "2"), pt("1", hair)}, "1/500000000000000000000000000000"},
		{"what is no fraction is 0", odd(), "12"},
	} {
		same(t, x.what, must[api.Q](t, x.what)(Area2(x.l)), x.want)
		slices.Reverse(x.l)
		same(t, x.what+", backwards", must[api.Q](t, x.what)(Area2(x.l)), x.want)
	}
}

func TestMixed(t *testing.T) {
	for _, x := range []struct {
		what string
		a, b []api.P
		want api.Q
	}{
		{"points", pointsOf(1, 2), pointsOf(3, -4), "0"},
		{"a point and a line", pointsOf(5, -5), diagonal(), "0"},
		{"a point and a house", pointsOf(5, -5), house(), "0"},
		{"lines that cross", pointsOf(0, 0, 3, 3), pointsOf(0, 2, 2, 0), "24"},
		{"lines that don't", pointsOf(0, 0, 3, 3), pointsOf(100, 2, 102, 0), "24"},
		{"lines beside each other", pointsOf(0, 0, 3, 3), pointsOf(7, 2, 5, 0), "0"},
		{"the document's test", square(), triangle(), "8"},
		{"a square twice", square(), square(), "4"},
		{"a square twice, elsewhere", square(), pointsOf(-7, 5, -6, 5, -6, 6, -7, 6), "4"},
		{"a square and one three times as long", square(), pointsOf(0, 0, 3, 0, 3, 3, 0, 3), "12"},
		{"a square and a line", square(), pointsOf(0, 0, 2, 3), "10"},
		{"a square and a level line", square(), pointsOf(4, 7, -1, 7), "10"},
		{"a triangle twice", triangle(), triangle(), "8"},
		{"a triangle, and it upside down", triangle(), pointsOf(0, 0, -2, 0, 0, -2), "16"},
		{"a house and a square", house(), square(), "20"},
		{"fractions", []api.P{pt("0", "0"), pt("1/2", "0")}, []api.P{pt("0", "0"), pt("1/7", "1/3")}, "1/3"},
		{"hardly anything", pointsOf(0, 0, 1, 1), []api.P{pt("0", "0"), pt("1", hair)}, "1/500000000000000000000000000000"},
		{"what is no fraction is 0", odd(), []api.P{pt("", "1"), pt("0x1", "012/2")}, "40"},
	} {
		same(t, x.what, must[api.Q](t, x.what)(Mixed(x.a, x.b)), x.want)
		same(t, x.what+", the other way", must[api.Q](t, x.what)(Mixed(x.b, x.a)), x.want)
		slices.Reverse(x.a)
		same(t, x.what+", backwards", must[api.Q](t, x.what)(Mixed(x.a, x.b)), x.want)
	}
}

func TestReach(t *testing.T) {
	for _, x := range []struct {
		what  string
		l     []api.P
		along api.P
		want  api.Q
	}{
		{"the document's test", triangle(), pt("1", "1"), "2"},
		{"one", pointsOf(3, 4), pt("2", "-5"), "-14"},
		{"one, backwards", pointsOf(3, 4), pt("-2", "5"), "14"},
		{"at one end", diagonal(), pt("1", "0"), "3"},
		{"at the other end", diagonal(), pt("-1", "0"), "0"},
		{"across a line", diagonal(), pt("1", "-1"), "0"},
		{"a house, up", house(), pt("0", "1"), "6"},
		{"a house, down", house(), pt("0", "-1"), "0"},
		{"a house, along an edge", house(), pt("1", "1"), "8"},
		{"a house, askew", house(), pt("-3", "1/2"), "2"},
		{"below 0", pointsOf(-3, -4, -5, -6), pt("1", "1/3"), "-13/3"},
		{"below 0, all of it", pointsOf(-5, -6, -3, -4, -3, -7), pt("1", "0"), "-3"},
		{"nowhere", house(), pt("0", "0"), "0"},
		{"nowhere told", house(), api.P{}, "0"},
		{"twice as far", triangle(), pt("2", "2"), "4"},
		{"fractions", []api.P{pt("1/2", "-1/3"), pt("1/3", "1/7")}, pt("3/5", "-7"), "79/30"},
		{"hardly farther", []api.P{pt("1", "1"), pt("0", hair), pt("0", "1")}, pt("0", "1"), hair},
		{"what is no fraction is 0", odd(), pt("03/1", "+7"), "12"},
		{"what is written otherwise", odd(), pt("y", "014/2"), "21"},
	} {
		same(t, x.what, must[api.Q](t, x.what)(Reach(x.l, x.along)), x.want)
		slices.Reverse(x.l)
		same(t, x.what+", backwards", must[api.Q](t, x.what)(Reach(x.l, x.along)), x.want)
	}
}

// pairs that meet, and pairs that don't.
func pairs(meet bool) map[string][2][]api.P {
	if meet {
		return map[string][2][]api.P{
			"one and the same":         {pointsOf(3, -4), pointsOf(3, -4, 3, -4)},
			"an end":                   {diagonal(), pointsOf(3, 3, 9, 1)},
			"the middle of a line":     {diagonal(), pointsOf(1, 1, 9, 1)},
			"a point of a line":        {diagonal(), {pt("1/3", "2/6")}},
			"lines that cross":         {diagonal(), pointsOf(0, 3, 3, 0)},
			"behind on the line":       {diagonal(), pointsOf(3, 3, 9, 9)},
			"along a line":             {diagonal(), pointsOf(2, 2, 9, 9)},
			"along an upright line":    {pointsOf(2, 0, 2, 5), pointsOf(2, 5, 2, 9)},
			"the document's test":      {square(), pointsOf(1, 1, 5, 5)},
			"a corner at a corner":     {square(), pointsOf(1, 1, 5, 2, 2, 5)},
			"a corner at an edge":      {pointsOf(0, 0, 2, 0, 2, 2, 0, 2), pointsOf(2, 1, 5, 0, 5, 5)},
			"an edge at a corner":      {square(), pointsOf(2, 0, 0, 2)},
			"edge at edge":             {square(), pointsOf(1, 0, 5, 0, 5, 5, 1, 5)},
			"along an edge":            {square(), pointsOf(1, -5, 1, 9)},
			"a point within":           {house(), pointsOf(1, 1)},
			"one within":               {pointsOf(-9, -9, 20, -9, 0, 20), square()},
			"the same":                 {house(), house()},
			"crossing without corners": {pointsOf(0, 1, 9, 1, 9, 2, 0, 2), pointsOf(4, -5, 5, -5, 5, 5, 4, 5)},
			"a star":                   {pointsOf(0, 0, 6, 0, 3, 5), pointsOf(0, 3, 6, 3, 3, -2)},
			"a little":                 {square(), {pt("999999999999999999/1000000000000000000", "1/2"), pt("9", "0"), pt("9", "9")}},
			"what is no fraction is 0": {pointsOf(-1, 0, 0, 0), {pt("x", "1/0"), pt("07", "y")}},
		}
	}
	return map[string][2][]api.P{
		"points":                       {pointsOf(1, 2), pointsOf(1, 3)},
		"opposite points":              {pointsOf(1, 2), pointsOf(-1, -2)},
		"points close by":              {pointsOf(1, 0), {pt("1", small)}},
		"a point and a line":           {pointsOf(0, 2), pointsOf(0, 0, 3, 1)},
		"a point on the line":          {pointsOf(4, 4), diagonal()},
		"a point ahead on the line":    {pointsOf(-1, -1), diagonal()},
		"a point beside an upright":    {pointsOf(1, 2), pointsOf(2, 0, 2, 9)},
		"upright on one line":          {pointsOf(2, -1, 2, -9), pointsOf(2, 0, 2, 9)},
		"level on one line":            {pointsOf(1, 2, 5, 2), pointsOf(6, 2, 7, 2)},
		"lines beside each other":      {pointsOf(0, 0, 4, 4), pointsOf(1, 0, 5, 4)},
		"lines that would cross":       {pointsOf(0, 0, 4, 4), pointsOf(4, 0, 3, 1)},
		"the document's test":          {square(), pointsOf(2, 1, 5, 5)},
		"a square and its opposite":    {pointsOf(1, 1, 2, 1, 2, 2, 1, 2), pointsOf(-1, -1, -2, -1, -2, -2, -1, -2)},
		"a square and one on its line": {square(), pointsOf(2, 1)},
		"a square and a slanted line":  {square(), pointsOf(3, 0, 0, 3)},
		"a square and hardly":          {square(), {pt("2", small), pt("0", "2")}},
		"squares":                      {square(), pointsOf(2, 0, 3, 0, 3, 1, 2, 1)},
		"squares close by":             {square(), {pt(hair, "0"), pt(hair, "1"), pt("2", "0"), pt("2", "1")}},
		"a dart's notch":               {pointsOf(0, 0, 4, 0, 2, 2), pointsOf(0, 3, 4, 3, 2, 9)},
		"what is no fraction is 0":     {odd(), {pt("x", "-1"), pt("05", "1/0")}},
	}
}

func TestMeet(t *testing.T) {
	for _, want := range []bool{true, false} {
		for what, x := range pairs(want) {
			same(t, what, meetOf(t, x[0], x[1]), want)
			same(t, what+", the other way", meetOf(t, x[1], x[0]), want)
			slices.Reverse(x[0])
			same(t, what+", backwards", meetOf(t, x[0], x[1]), want)
		}
	}
}

// calls are all that take a list.
func calls() map[string]func(l []api.P) {
	return map[string]func(l []api.P){
		"sum": func(l []api.P) { Sum(l, square()) }, "sum, the second": func(l []api.P) { Sum(square(), l) }, "sum, both": func(l []api.P) { Sum(l, l) },
		"mixed": func(l []api.P) { Mixed(l, square()) }, "mixed, the second": func(l []api.P) { Mixed(square(), l) }, "mixed, both": func(l []api.P) { Mixed(l, l) },
		"meet": func(l []api.P) { Meet(l, square()) }, "meet, the second": func(l []api.P) { Meet(square(), l) }, "meet, both": func(l []api.P) { Meet(l, l) },
		"area": func(l []api.P) { Area2(l) }, "reach": func(l []api.P) { Reach(l, pt("1", "1")) },
	}
}

// TestOnlyRead: neither the list nor the spare room behind it is changed.
func TestOnlyRead(t *testing.T) {
	for what, call := range calls() {
		for n := range 18 {
			l := append(house(), house()...)
			call(l[:n])
			sameList(t, what, l, append(house(), house()...))
		}
	}
}

// TestAnswersAreNew: what is done to an answer is seen neither in what was handed in nor in the next one.
func TestAnswersAreNew(t *testing.T) {
	a, b := square(), pointsOf(0, 0)
	first := sumOf(t, a, b)
	clear(first[:cap(first)])
	sameList(t, "the first list", a, square())
	sameList(t, "the second list", b, pointsOf(0, 0))
	sameList(t, "sum again", sumOf(t, a, b), square())
}

func TestGreatLength(t *testing.T) {
	noughts := api.Q(strings.Repeat("0", 1500))
	great, little := "1"+noughts, "1/1"+noughts
	a, b := []api.P{pt("0", "0"), pt(great, "0"), pt("0", little)}, []api.P{pt("0", "0"), pt(little, "0"), pt("0", great)}
	wide := plus(rat(great), rat(little))
	sameList(t, "sum", sumOf(t, a, b), []api.P{pt("0", "0"), pt(text(wide), "0"), pt(great, great), pt("0", text(wide))})
	same(t, "area", must[api.Q](t, "area")(Area2(a)), "1")
	same(t, "mixed", mixedOf(t, a, b).Cmp(mixedIn(spotsAt(a), spotsAt(b))), 0)
	same(t, "reach", must[api.Q](t, "reach")(Reach(a, pt(little, great))), "1")
	same(t, "meet", meetOf(t, a, b), true)
	beyond := []api.P{pt(great, little), pt("1", little)}
	same(t, "don't meet", meetOf(t, a, beyond), false)
}
