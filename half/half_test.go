package half

import (
	"slices"
	"strings"
	"testing"

	"compass/api"
)

// corner is the triangle of 0, 0 and 2, 0 and 0, 2.
func corner() []api.L { return halvesOf(1, 0, 0, 0, 1, 0, -1, -1, 2) }

// quarter has all points of which neither number is below 0.
func quarter() []api.L { return halvesOf(1, 0, 0, 0, 1, 0) }

// strip has all points from x = 1 to x = 5.
func strip() []api.L { return halvesOf(1, 0, -1, -1, 0, 5) }

// apart have no point in common, but each two of them do.
func apart() []api.L { return halvesOf(1, 0, 0, 0, 1, 0, -1, -1, -1) }

// ring has as many halves as may be, each of which is needed: they touch x x = y from above, but for the last one.
func ring() []api.L {
	var l []api.L
	for k := -4; k < 5; k++ {
		l = append(l, halvesOf(-2*k, 1, k*k)...)
	}
	return append(l, halvesOf(0, -1, 100)...)
}

// odd is the triangle corner, with what is no fraction, and so is 0, and what is written otherwise than it is answered.
func odd() []api.L {
	return []api.L{ln("02/2", "x", "1/0"), ln("--1", "3", ""), ln("-06/4", "-3/02", "0003")}
}

func TestMany(t *testing.T) {
	for _, l := range [][]api.L{append(ring(), corner()[0]), make([]api.L, 11), slices.Repeat(apart(), 4), make([]api.L, 5000)} {
		refused[api.P](t, "too many", api.ErrMany)(Common(l))
		refused[[3]int](t, "too many", api.ErrMany)(Helly(l))
		refusedMost(t, "too many", l, pt("1", "1"), api.ErrMany)
	}
	must[api.P](t, "as many as may be")(Common(ring()))
	refused[[3]int](t, "as many as may be", api.ErrNone)(Helly(ring()))
	same(t, "as many as may be", reachOf(t, "as many as may be", ring(), pt("0", "1")).most, "100")
}

func TestFlat(t *testing.T) {
	for _, flat := range []api.L{{}, ln("0", "0", "0"), ln("0", "0", "1"), ln("0", "0", "-1"), ln("x", "1/0", "5"), ln("-0", "0/7", "1/2"), ln("+1", "1.5", "1"), ln("", " 1", "1")} {
		for _, l := range [][]api.L{{flat}, append(corner(), flat), append([]api.L{flat}, apart()...), append(strip(), flat, flat), make([]api.L, 10)} {
			refused[api.P](t, "no line", api.ErrFlat)(Common(l))
			refused[[3]int](t, "no line", api.ErrFlat)(Helly(l))
			refusedMost(t, "no line", l, pt("0", "1"), api.ErrFlat)
		}
	}
}

// TestCommon: of halves that have but one point in common.
func TestCommon(t *testing.T) {
	for _, x := range []struct {
		what string
		l    []api.L
		want api.P
	}{
		{"a cross", halvesOf(1, 0, -3, -1, 0, 3, 0, 1, 4, 0, -1, -4), pt("3", "-4")},
		{"a cross, askew", halvesOf(1, 1, -3, -2, -2, 6, 3, -1, -2, -3, 1, 2), pt("5/4", "7/4")},
		{"three through a point", halvesOf(1, 0, -1, 0, 1, -2, -1, -1, 3), pt("1", "2")},
		{"three through the origin", halvesOf(1, 0, 0, 0, 1, 0, -1, -1, 0), pt("0", "0")},
		{"two edges and a corner", halvesOf(1, 0, -1, -1, 0, 1, 1, 1, -3, 1, -1, 1), pt("1", "2")},
		{"fractions", []api.L{ln("1/2", "0", "-1/3"), ln("-3", "0", "2"), ln("0", "1/7", "1"), ln("0", "-1", "-7")}, pt("2/3", "-7")},
		{"the tip of a triangle", append(corner(), halvesOf(-1, 1, -2)...), pt("0", "2")},
		{"one edge of it, from both ends", append(corner(), halvesOf(0, -1, 0, 1, 0, -2)...), pt("2", "0")},
		{"what is no fraction is 0", append(odd(), ln("01", "1/0", "-4/2")), pt("2", "0")},
	} {
		same(t, x.what, must[api.P](t, x.what)(Common(x.l)), x.want)
		slices.Reverse(x.l)
		same(t, x.what+", backwards", must[api.P](t, x.what)(Common(x.l)), x.want)
		refused[[3]int](t, x.what, api.ErrNone)(Helly(x.l))
	}
}

// wide are halves that have more than a point in common.
func wide() map[string][]api.L {
	return map[string][]api.L{
		"none":                       nil,
		"none, but a list":           {},
		"one":                        halvesOf(2, 3, 5),
		"one, far from the origin":   halvesOf(-2, 3, -500),
		"one, its line level":        halvesOf(0, -3, -7),
		"one, told often":            slices.Repeat(halvesOf(-2, 3, -500), 10),
		"one within another":         halvesOf(1, 0, -9, 1, 0, -12),
		"a strip":                    strip(),
		"a strip, askew":             halvesOf(3, 4, -60, -3, -4, 61),
		"a line":                     halvesOf(3, 4, -60, -3, -4, 60),
		"a line, one of many":        halvesOf(0, 1, -7, 0, 1, -9, 0, -2, 18, 0, -1, 12),
		"a quarter":                  quarter(),
		"a quarter elsewhere":        halvesOf(1, 0, -20, 0, 1, -30),
		"a ray":                      halvesOf(1, 0, -20, -1, 0, 20, 0, 1, -30),
		"a piece of a line":          halvesOf(1, -1, 3, -1, 1, -3, 1, 0, -20, 0, -1, 30),
		"a triangle":                 corner(),
		"a triangle and more":        append(corner(), halvesOf(1, 1, 7, -1, 0, 90)...),
		"as many as may be":          ring(),
		"hardly anything":            append(halvesOf(1, 0, -1, 0, 1, -2), ln("-1", "-1", "3000000000000000000000000000001/1000000000000000000000000000000")),
		"what is no fraction is 0":   odd(),
		"a strip beside the origin":  halvesOf(1, 0, 7, -1, 0, -5, 2, 0, 13),
		"nothing told but A, and B":  {{A: "1"}, {B: "1"}, {A: "-1"}},
		"away from the origin, open": halvesOf(1, 2, -50, 2, 1, -50, -1, 1, 10),
	}
}

// bare are halves that have no point in common, and the first three that have none.
func bare() map[string]struct {
	l     []api.L
	three [3]int
} {
	small := api.Q("-1/1000000000000000000000000000000")
	type pair = struct {
		l     []api.L
		three [3]int
	}
	return map[string]pair{
		"two":                         {halvesOf(1, 0, -1, -1, 0, 0), [3]int{0, 0, 1}},
		"two, askew":                  {halvesOf(3, 4, 5, -6, -8, -11), [3]int{0, 0, 1}},
		"two, hardly":                 {[]api.L{ln("1", "0", "0"), ln("-1", "0", small)}, [3]int{0, 0, 1}},
		"the first and the last":      {halvesOf(1, 0, -1, 0, 1, 0, -1, 0, 0), [3]int{0, 0, 2}},
		"two behind the first":        {halvesOf(0, 1, 0, 1, 0, -1, -1, 0, 0), [3]int{0, 1, 2}},
		"two far behind":              {halvesOf(0, 1, 0, 0, 1, 1, 0, 1, 2, 1, 0, -1, -1, 0, 0), [3]int{0, 3, 4}},
		"three":                       {apart(), [3]int{0, 1, 2}},
		"three, the other way":        {halvesOf(-1, -1, -1, 0, 1, 0, 1, 0, 0), [3]int{0, 1, 2}},
		"three, hardly":               {append(quarter(), ln("-1", "-1", small)), [3]int{0, 1, 2}},
		"three behind the first":      {append(halvesOf(1, 1, 9), apart()...), [3]int{1, 2, 3}},
		"three among others":          {halvesOf(1, 1, 9, 1, 0, 0, 0, 1, 5, 0, 1, 0, 1, 2, 9, -1, -1, -1), [3]int{1, 3, 5}},
		"three, ahead of two":         {append(apart(), halvesOf(0, -1, -1)...), [3]int{0, 1, 2}},
		"two, ahead of three":         {append(apart(), halvesOf(-1, 0, -1)...), [3]int{0, 0, 3}},
		"one, and one twice":          {halvesOf(1, 0, -1, 1, 0, -1, -1, 0, 0, -1, 0, 0), [3]int{0, 0, 2}},
		"a line and one beside it":    {halvesOf(0, 1, -3, 0, -1, 3, 0, -1, 2), [3]int{0, 0, 2}},
		"a line and a quarter":        {halvesOf(1, 1, 1, -1, -1, -1, 1, 0, 0, 0, 1, 0), [3]int{1, 2, 3}},
		"a point and one beside it":   {halvesOf(1, 0, 0, -1, 0, 0, 0, 1, 0, 0, -1, 0, 1, 1, -1), [3]int{1, 3, 4}},
		"a triangle and one outside":  {append(corner(), halvesOf(1, 1, -3)...), [3]int{0, 2, 3}},
		"as many as may be":           {append(ring()[:9], halvesOf(0, -1, -1)...), [3]int{0, 4, 9}},
		"what is no fraction is 0":    {append(odd(), ln("01", "1/0", "-5/2")), [3]int{1, 2, 3}},
		"all as they are handed in":   {halvesOf(-1, 0, -1, 0, -1, -1, 1, 1, 0), [3]int{0, 1, 2}},
		"the last three of ten":       {append(halvesOf(1, 1, 3, 1, 1, 4, 1, 1, 5, 1, 1, 6, 1, 1, 7, 1, 1, 8, 1, 1, 9), apart()...), [3]int{7, 8, 9}},
		"beside each other, ten":      {halvesOf(2, 3, 1, 2, 3, 2, 2, 3, 3, 2, 3, 4, 2, 3, 5, -2, -3, 5, -2, -3, 4, -2, -3, 3, -2, -3, 2, -2, -3, -2), [3]int{0, 0, 9}},
		"beside each other, the last": {halvesOf(2, 3, 1, 2, 3, 2, 2, 3, 0, -2, -3, 0, -2, -3, -1, 2, 3, -1), [3]int{0, 2, 4}},
	}
}

func TestCommonOfMany(t *testing.T) {
	for what, l := range wide() {
		same(t, what, inAll(rowsOf(l), must[api.P](t, what)(Common(l))), true)
		refused[[3]int](t, what, api.ErrNone)(Helly(l))
	}
	for what, x := range bare() {
		refused[api.P](t, what, api.ErrNone)(Common(x.l))
	}
}

func TestHelly(t *testing.T) {
	for what, x := range bare() {
		same(t, what, must[[3]int](t, what)(Helly(x.l)), x.three)
	}
}

// TestMost: where the point and the weights are the only ones.
func TestMost(t *testing.T) {
	for _, x := range []struct {
		what  string
		l     []api.L
		along api.P
		want  reach
	}{
		{"a triangle", corner(), pt("1", "2"), reach{"4", pt("0", "2"), []api.Q{"1", "0", "2"}}},
		{"a triangle, to the right", corner(), pt("5", "2"), reach{"10", pt("2", "0"), []api.Q{"0", "3", "5"}}},
		{"a triangle, down", corner(), pt("-1/2", "-7/3"), reach{"0", pt("0", "0"), []api.Q{"1/2", "7/3", "0"}}},
		{"a quarter", quarter(), pt("-3", "-4"), reach{"0", pt("0", "0"), []api.Q{"3", "4"}}},
		{"a quarter elsewhere", halvesOf(1, 0, -20, 0, 1, -30), pt("-3", "-4"), reach{"-180", pt("20", "30"), []api.Q{"3", "4"}}},
		{"told twice as great", halvesOf(2, 0, -40, 0, 3, -90), pt("-3", "-4"), reach{"-180", pt("20", "30"), []api.Q{"3/2", "4/3"}}},
		{"told as fractions", []api.L{ln("1/2", "0", "-10"), ln("0", "1/3", "-10")}, pt("-3", "-4"), reach{"-180", pt("20", "30"), []api.Q{"6", "12"}}},
		{"as many as may be", ring(), pt("5", "-1"), reach{"13/2", pt("5/2", "6"), []api.Q{"0", "0", "0", "0", "0", "0", "1/2", "1/2", "0", "0"}}},
		{"what is no fraction is 0", odd(), pt("02/2", "+5"), reach{"2", pt("2", "0"), []api.Q{"0", "1/3", "2/3"}}},
	} {
		got := reachOf(t, x.what, x.l, x.along)
		same(t, x.what, got.most, x.want.most)
		same(t, x.what, got.at, x.want.at)
		sameList(t, x.what, got.weights, x.want.weights)
		tells(t, x.what, rowsOf(x.l), x.along, got)
	}
}

// TestMostOfMany: where many points go as far, or many weights tell it.
func TestMostOfMany(t *testing.T) {
	for _, x := range []struct {
		what  string
		l     []api.L
		along api.P
		most  api.Q
	}{
		{"nowhere, without a half", nil, pt("0", "0"), "0"},
		{"nowhere, without a half, but a list", []api.L{}, pt("x", "0/5"), "0"},
		{"nowhere in a half", halvesOf(-2, 3, -500), api.P{}, "0"},
		{"nowhere in a triangle", corner(), pt("-0", "0"), "0"},
		{"nowhere in a ray", halvesOf(1, 0, -20, -1, 0, 20, 0, 1, -30), pt("0", "0"), "0"},
		{"against one", halvesOf(-1, 0, 3), pt("2", "0"), "6"},
		{"against one, askew", halvesOf(-6, 4, 7), pt("3", "-2"), "7/2"},
		{"against one, told often", slices.Repeat(halvesOf(-1, 0, 3), 10), pt("2", "0"), "6"},
		{"against one, told three times as great", halvesOf(-3, 0, 9, -1, 0, 3, -6, 0, 18), pt("2", "0"), "6"},
		{"against the nearer", halvesOf(-1, 0, 5, -2, 0, 6, -3, 0, 12), pt("2", "0"), "6"},
		{"against the nearer, below 0", halvesOf(-1, 0, 5, -2, 0, -6), pt("1", "0"), "-3"},
		{"a strip", strip(), pt("1", "0"), "5"},
		{"a strip, backwards", strip(), pt("-2", "0"), "-2"},
		{"a line", halvesOf(3, 4, -60, -3, -4, 60), pt("3", "4"), "60"},
		{"a line, backwards", halvesOf(3, 4, -60, -3, -4, 60), pt("-3/2", "-2"), "-30"},
		{"along an edge", corner(), pt("1", "1"), "2"},
		{"along the lower edge", corner(), pt("0", "-7"), "0"},
		{"along an edge without end", quarter(), pt("0", "-7"), "0"},
		{"along an edge without end, elsewhere", halvesOf(1, 0, -20, 0, 1, -30), pt("-1", "0"), "-20"},
		{"a ray", halvesOf(1, 0, -20, -1, 0, 20, 0, 1, -30), pt("5", "-1"), "70"},
		{"a piece of a line", halvesOf(1, -1, 3, -1, 1, -3, 1, 0, -20, 0, -1, 30), pt("1", "1"), "57"},
		{"a piece of a line, across it", halvesOf(1, -1, 3, -1, 1, -3, 1, 0, -20, 0, -1, 30), pt("-1", "1"), "3"},
		{"a point", halvesOf(1, 0, -3, -1, 0, 3, 0, 1, 4, 0, -1, -4), pt("5", "7"), "-13"},
		{"three through a point", halvesOf(1, 0, -1, 0, 1, -2, -1, -1, 3), pt("5", "7"), "19"},
		{"many through a corner", halvesOf(-1, 0, 2, -1, -1, 2, 0, 1, 0, 1, 1, -2, -2, -1, 4, -3, -1, 6, 0, -1, 5), pt("7", "1"), "14"},
		{"what is farther doesn't count", append(corner(), halvesOf(-1, 0, 2, -1, -1, 9, 0, -1, 2)...), pt("1", "2"), "4"},
		{"as many as may be", ring(), pt("0", "-1"), "0"},
		{"as many as may be, up", ring(), pt("1/7", "1"), "1429/14"},
		{"as many as may be, along one", ring(), pt("6", "-1"), "9"},
	} {
		got := reachOf(t, x.what, x.l, x.along)
		same(t, x.what, got.most, x.most)
		tells(t, x.what, rowsOf(x.l), x.along, got)
	}
}

func TestMostFree(t *testing.T) {
	for what, x := range map[string]struct {
		l     []api.L
		along []api.P
	}{
		"without a half": {nil, []api.P{pt("1", "0"), pt("0", "-1/9")}},
		"one":            {halvesOf(2, 3, 5), []api.P{pt("2", "3"), pt("3", "-2"), pt("-3", "2"), pt("-2", "-2"), pt("-2000000000000000000001", "-3000000000000000000000")}},
		"a strip":        {strip(), []api.P{pt("0", "1"), pt("0", "-1"), pt("1", "1/1000000000000000000000"), pt("-3", "5")}},
		"a line":         {halvesOf(3, 4, -60, -3, -4, 60), []api.P{pt("4", "-3"), pt("-4", "3"), pt("1", "0"), pt("0", "-1")}},
		"a quarter":      {quarter(), []api.P{pt("1", "2"), pt("1", "-2"), pt("-2", "1"), pt("1", "0"), pt("0", "1")}},
		"a ray":          {halvesOf(1, 0, -20, -1, 0, 20, 0, 1, -30), []api.P{pt("0", "1"), pt("-5", "1"), pt("5", "1")}},
		"open above":     {ring()[:9], []api.P{pt("0", "1"), pt("9", "-1"), pt("-9", "-1"), pt("1", "0")}},
		"odd":            {odd()[:2], []api.P{pt("x", "01"), pt("3/3", "x")}},
	} {
		for _, along := range x.along {
			refusedMost(t, what, x.l, along, api.ErrFree)
		}
	}
}

// TestMostNone: that nothing is common is told ahead of what would go on without end.
func TestMostNone(t *testing.T) {
	for what, x := range bare() {
		for _, along := range []api.P{pt("0", "0"), pt("1", "2"), pt("0", "1"), pt("-1", "0"), pt("x", "1/0")} {
			refusedMost(t, what, x.l, along, api.ErrNone)
		}
	}
}

// calls are all that take a list.
func calls() map[string]func(l []api.L) {
	return map[string]func(l []api.L){
		"common": func(l []api.L) { Common(l) }, "helly": func(l []api.L) { Helly(l) }, "most": func(l []api.L) { Most(l, pt("1", "2")) },
	}
}

// TestOnlyRead: neither the list nor the spare room behind it is changed.
func TestOnlyRead(t *testing.T) {
	for what, call := range calls() {
		for n := range 13 {
			l := append(ring(), apart()...)
			call(l[:n])
			sameList(t, what, l, append(ring(), apart()...))
		}
	}
}

// TestAnswersAreNew: what is done to an answer isn't seen in the next one.
func TestAnswersAreNew(t *testing.T) {
	first := reachOf(t, "most", corner(), pt("1", "2"))
	clear(first.weights[:cap(first.weights)])
	sameList(t, "most again", reachOf(t, "most", corner(), pt("1", "2")).weights, []api.Q{"1", "0", "2"})
}

func TestGreatLength(t *testing.T) {
	noughts := api.Q(strings.Repeat("0", 1500))
	great, small := "1"+noughts, "1/1"+noughts
	l := []api.L{ln(small, "0", "-1"), ln("0", great, "-1"), ln("-"+small, "-"+great, "2")}
	same(t, "common", must[api.P](t, "common")(Common(l)), pt(great, small))
	refused[[3]int](t, "helly", api.ErrNone)(Helly(l))
	got := reachOf(t, "most", l, pt("1", "1"))
	same(t, "most", got.most, text(plus(rat(great), rat(small))))
	tells(t, "most", rowsOf(l), pt("1", "1"), got)
	l[2].C = api.Q("1" + strings.Repeat("9", 1500) + "/1" + string(noughts))
	refused[api.P](t, "hardly nothing", api.ErrNone)(Common(l))
	same(t, "hardly nothing", must[[3]int](t, "helly")(Helly(l)), [3]int{0, 1, 2})
	refusedMost(t, "hardly nothing", l, pt("1", "1"), api.ErrNone)
}
