package angle

import (
	"math"
	"strings"
	"testing"

	"compass/api"
)

// flat: what is handed in as an angle and is none.
func flat() []api.T {
	return []api.T{{}, an("0", "0"), an("-0", "000"), an("0/7", "-0/3"), an("1/0", "-2/0"), an("x", " 1"), an("+1", "1/-2"), an("1.5", "١"), an("", "1/2/3")}
}

// flatLines: what is handed in as a line and is none.
func flatLines() []api.L {
	return []api.L{{}, ln("0", "0", "1"), ln("-0", "0/5", "x"), ln("1/0", "+1", "2")}
}

// noAngle checks that an angle was refused as flat, with nothing beside the error.
func noAngle(t *testing.T, what string) func(api.T, api.Errno) {
	return func(got api.T, e api.Errno) {
		t.Helper()
		same(t, what, got, api.T{})
		same(t, what, e, api.ErrFlat)
	}
}

func noLine(t *testing.T, what string) func(api.L, api.Errno) {
	return func(got api.L, e api.Errno) {
		t.Helper()
		same(t, what, got, api.L{})
		same(t, what, e, api.ErrFlat)
	}
}

func TestPlain(t *testing.T) {
	for _, c := range []struct {
		what    string
		a, want api.T
	}{
		{"fractions, C below 0", an("1/2", "-1/3"), an("-3", "2")},
		{"both below 0", an("-1/2", "-1/3"), an("3", "2")},
		{"S below 0", an("-4", "6"), an("-2", "3")},
		{"plain already", an("-3", "2"), an("-3", "2")},
		{"a right angle", an("7/3", "0"), an("1", "0")},
		{"a right angle, the other way", an("-5", "0"), an("1", "0")},
		{"none", an("0", "3/4"), an("0", "1")},
		{"none, C below 0", an("-0", "-9"), an("0", "1")},
		{"noughts ahead", an("006/04", "-03"), an("-1", "2")},
		{"what is no fraction is 0", an("x", "1/2"), an("0", "1")},
		{"what is divided by 0 is 0", an("-1/2", "3/0"), an("1", "0")},
	} {
		got, e := Plain(c.a)
		same(t, c.what, got, c.want)
		same(t, c.what, e, api.OK)
	}
}

func TestWhatIsNoAngle(t *testing.T) {
	l, p, good := ln("1", "2", "3"), pt("1", "2"), an("1", "2")
	for _, a := range flat() {
		what := string(a.S) + " over " + string(a.C)
		noAngle(t, "plain "+what)(Plain(a))
		noAngle(t, "sum, first "+what)(Sum(a, good))
		noAngle(t, "sum, second "+what)(Sum(good, a))
		noAngle(t, "sum, both "+what)(Sum(a, a))
		for _, n := range []int{0, 1, -1, api.MaxTimes, api.MaxTimes + 1, -api.MaxTimes - 1, math.MaxInt, math.MinInt} {
			noAngle(t, "times "+what)(Times(a, n))
		}
		noLine(t, "turned "+what)(Turned(l, p, a))
	}
}

func TestWhatIsNoLine(t *testing.T) {
	good, p := ln("1", "2", "3"), pt("1", "2")
	for _, l := range flatLines() {
		what := strings.Join([]string{string(l.A), string(l.B), string(l.C)}, " ")
		noAngle(t, "from, first "+what)(From(l, good))
		noAngle(t, "from, second "+what)(From(good, l))
		noAngle(t, "from, both "+what)(From(l, l))
		noLine(t, "turned "+what)(Turned(l, p, an("1", "2")))
		noLine(t, "turned, both "+what)(Turned(l, p, api.T{}))
	}
}

func TestFrom(t *testing.T) {
	level, upright := ln("0", "1", "0"), ln("1", "0", "0")
	for _, c := range []struct {
		what string
		l, m api.L
		want api.T
	}{
		{"the document's", level, ln("1", "-1", "0"), an("1", "1")},
		{"the document's, back", ln("1", "-1", "0"), level, an("-1", "1")},
		{"away from the origin", ln("0", "1", "-7"), ln("1", "-1", "5"), an("1", "1")},
		{"the sign the other way", ln("0", "-3", "21"), ln("1/2", "-1/2", "5"), an("1", "1")},
		{"level to upright", level, upright, an("1", "0")},
		{"upright to level", upright, level, an("1", "0")},
		{"falling", level, ln("2", "1", "0"), an("-2", "1")},
		{"more than a right angle", ln("1", "-2", "0"), ln("1", "1", "0"), an("-3", "1")},
		{"upright to slanted", upright, ln("2", "-1", "0"), an("-1", "2")},
		{"beside each other", ln("2", "3", "1"), ln("-4", "-6", "9"), an("0", "1")},
		{"the same", ln("2", "3", "1"), ln("2", "3", "1"), an("0", "1")},
		{"at right angles", ln("2", "3", "1"), ln("-3/5", "2/5", "0"), an("1", "0")},
		{"fractions", ln("1/2", "1/3", "1"), ln("-1/5", "1", "0"), an("17", "7")},
		{"what is no fraction is 0", ln("x", "5", "x"), ln("1", "1/0", ""), an("1", "0")},
	} {
		got, e := From(c.l, c.m)
		same(t, c.what, got, c.want)
		same(t, c.what, e, api.OK)
	}
}

func TestSum(t *testing.T) {
	for _, c := range []struct {
		what       string
		a, b, want api.T
	}{
		{"two parts of half a right angle", an("1", "2"), an("1", "3"), an("1", "1")},
		{"the document's", an("1", "1"), an("1", "1"), an("1", "0")},
		{"not plain", an("-1/2", "-1"), an("-2", "-6"), an("1", "1")},
		{"with none", an("-2/3", "4"), an("0", "-5"), an("-1", "6")},
		{"with a right angle", an("1", "2"), an("1", "0"), an("-2", "1")},
		{"two right angles", an("-3", "0"), an("1/7", "0"), an("0", "1")},
		{"forth and back", an("3", "5"), an("-3", "5"), an("0", "1")},
		{"to a right angle", an("2", "3"), an("3", "2"), an("1", "0")},
		{"beyond a right angle", an("2", "1"), an("3", "1"), an("-1", "1")},
		{"what is no fraction is 0", an("1", "1"), an("1", "x"), an("-1", "1")},
	} {
		for _, pair := range [][2]api.T{{c.a, c.b}, {c.b, c.a}} {
			got, e := Sum(pair[0], pair[1])
			same(t, c.what, got, c.want)
			same(t, c.what, e, api.OK)
		}
	}
}

func TestTimes(t *testing.T) {
	for _, c := range []struct {
		what string
		a    api.T
		n    int
		want api.T
		e    api.Errno
	}{
		{"the document's", an("1", "1"), 2, an("1", "0"), api.OK},
		{"three times", an("1", "1"), 3, an("-1", "1"), api.OK},
		{"half a turn", an("1", "1"), 4, an("0", "1"), api.OK},
		{"fractions", an("1/3", "2/3"), 2, an("4", "3"), api.OK},
		{"once", an("3/2", "-2"), 1, an("-3", "4"), api.OK},
		{"never", an("3/2", "-2"), 0, an("0", "1"), api.OK},
		{"never a right angle", an("1", "0"), 0, an("0", "1"), api.OK},
		{"back", an("1", "2"), -1, an("-1", "2"), api.OK},
		{"twice back", an("1", "2"), -2, an("-4", "3"), api.OK},
		{"a right angle back", an("-7", "0"), -1, an("1", "0"), api.OK},
		{"a right angle, odd", an("2", "0"), 59, an("1", "0"), api.OK},
		{"none", an("0", "-2"), 17, an("0", "1"), api.OK},
		{"as often as may be", an("1", "1"), api.MaxTimes, an("0", "1"), api.OK},
		{"as often back as may be", an("1", "-1"), -api.MaxTimes, an("0", "1"), api.OK},
		{"one less", an("1", "1"), api.MaxTimes - 1, an("-1", "1"), api.OK},
		{"once too often", an("1", "2"), api.MaxTimes + 1, api.T{}, api.ErrMany},
		{"once too often back", an("1", "2"), -api.MaxTimes - 1, api.T{}, api.ErrMany},
		{"none, too often", an("0", "1"), api.MaxTimes + 1, api.T{}, api.ErrMany},
		{"the greatest number", an("1", "2"), math.MaxInt, api.T{}, api.ErrMany},
		{"the lowest number", an("1", "2"), math.MinInt, api.T{}, api.ErrMany},
	} {
		got, e := Times(c.a, c.n)
		same(t, c.what, got, c.want)
		same(t, c.what, e, c.e)
	}
}

func TestSeen(t *testing.T) {
	o := pt("0", "0")
	for _, c := range []struct {
		what    string
		a, b, p api.P
		want    api.T
		e       api.Errno
	}{
		{"a right angle", pt("1", "0"), pt("0", "1"), o, an("1", "0"), api.OK},
		{"a right angle, back", pt("0", "1"), pt("1", "0"), o, an("1", "0"), api.OK},
		{"half of it", pt("5", "0"), pt("2", "2"), o, an("1", "1"), api.OK},
		{"half of it, back", pt("2", "2"), pt("5", "0"), o, an("-1", "1"), api.OK},
		{"from behind", pt("-5", "0"), pt("2", "2"), o, an("1", "1"), api.OK},
		{"away from the origin", pt("4", "7"), pt("5", "9"), pt("3", "7"), an("1", "1"), api.OK},
		{"fractions", pt("1/2", "1/3"), pt("-1", "1/5"), pt("1/2", "0"), an("15", "2"), api.OK},
		{"between them", pt("-1", "-1"), pt("3", "3"), pt("1", "1"), an("0", "1"), api.OK},
		{"on their line", pt("1", "2"), pt("2", "4"), o, an("0", "1"), api.OK},
		{"both are one", pt("1", "2"), pt("1", "2"), o, an("0", "1"), api.OK},
		{"what is no fraction is 0", pt("1", "x"), pt("1/0", "-1"), pt("", "-"), an("1", "0"), api.OK},
		{"it is the first", pt("1", "2"), pt("3", "4"), pt("1", "2"), api.T{}, api.ErrFlat},
		{"it is the second", pt("1", "2"), pt("3", "4"), pt("3", "4"), api.T{}, api.ErrFlat},
		{"it is the first, told otherwise", pt("1/2", "x"), pt("3", "4"), pt("02/4", "-0"), api.T{}, api.ErrFlat},
		{"all are one", pt("1", "2"), pt("1", "2"), pt("1", "2"), api.T{}, api.ErrFlat},
		{"zero values", api.P{}, api.P{}, api.P{}, api.T{}, api.ErrFlat},
		{"a hair away", pt("0", "1"), pt("1/1000000000000000000000", "0"), o, an("1", "0"), api.OK},
	} {
		got, e := Seen(c.a, c.b, c.p)
		same(t, c.what, got, c.want)
		same(t, c.what, e, c.e)
	}
}

func TestTurned(t *testing.T) {
	for _, c := range []struct {
		what string
		l    api.L
		p    api.P
		a    api.T
		want api.L
	}{
		{"up by half a right angle", ln("0", "1", "0"), pt("1", "1"), an("1", "1"), ln("1", "-1", "0")},
		{"down by half a right angle", ln("0", "1", "0"), pt("1", "1"), an("-1", "1"), ln("1", "1", "-2")},
		{"neither is plain", ln("0", "-3", "0"), pt("1", "1"), an("-1/2", "-1/2"), ln("1", "-1", "0")},
		{"by none", ln("1", "2", "3"), pt("1", "1"), an("0", "-4"), ln("1", "2", "-3")},
		{"by none, on it", ln("-2", "-4", "-6"), pt("-1", "-1"), an("0", "1"), ln("1", "2", "3")},
		{"by a right angle", ln("1", "2", "3"), pt("1", "1"), an("5", "0"), ln("2", "-1", "-1")},
		{"fractions", ln("1/2", "-1", "7"), pt("1/2", "-1/3"), an("1/3", "1"), ln("6", "-6", "-5")},
		{"to upright", ln("1", "-1", "0"), pt("1/3", "9"), an("1", "1"), ln("3", "0", "-1")},
		{"to level", ln("1", "1", "0"), pt("9", "-1/3"), an("1", "1"), ln("0", "3", "1")},
		{"what is no fraction is 0", ln("x", "1", "1/0"), pt("", "2"), an("1", ""), ln("1", "0", "0")},
	} {
		got, e := Turned(c.l, c.p, c.a)
		same(t, c.what, got, c.want)
		same(t, c.what, e, api.OK)
	}
}

func TestGreatLength(t *testing.T) {
	nines := api.Q(strings.Repeat("9", 1000))
	ten := "1" + api.Q(strings.Repeat("0", 1000))
	same(t, "plain", must[api.T](t, "plain")(Plain(an("-"+nines+"/"+ten, "-"+nines))), an("1", ten))
	first, second := an("1", nines), an(nines, "-1/"+ten)
	same(t, "sum", must[api.T](t, "sum")(Sum(first, second)), angleOf(first).times(angleOf(second)).told())
	same(t, "seen", must[api.T](t, "seen")(Seen(pt(ten, nines), pt("0", ten), pt("0", nines))), an("1", "0"))
	same(t, "from", must[api.T](t, "from")(From(ln(ten, nines, ten), ln("1", "1", "0"))), an("1", "1"+nines))
	same(t, "turned", must[api.L](t, "turned")(Turned(ln("0", nines, ten), pt(ten, "1/"+ten), an("0", ten))), ln("0", ten, "-1"))
	a := an(nines, ten)
	often := must[api.T](t, "times")(Times(a, api.MaxTimes))
	back := must[api.T](t, "times back")(Times(a, -api.MaxTimes))
	same(t, "forth and back", must[api.T](t, "sum")(Sum(often, back)), an("0", "1"))
}
