package hyper

import (
	"strings"
	"testing"

	"compass/api"
)

// noPoints: on the circle or outside.
func noPoints() []api.P {
	return []api.P{
		pt("1", "0"), pt("0", "-1"), pt("-3/5", "4/5"), pt("5/13", "-12/13"), pt("03/3", "x"),
		pt("2", "0"), pt("1", "1"), pt("-1", "1/1000000"), pt("4/5", "3/4"), pt("-5/7", "-5/7"), pt("0", "1000000000001/1000000000000"), pt("1/0", "-7"),
	}
}

// noLines: they touch the circle, pass by, or are none anywhere.
func noLines() []api.L {
	return []api.L{
		ln("1", "0", "-1"), ln("0", "-2", "2"), ln("3", "4", "5"), ln("3/5", "-4/5", "-1"), ln("-1/2", "x", "1/2"),
		ln("1", "0", "2"), ln("1", "1", "2"), ln("-1", "-1", "3/2"), ln("3", "4", "-5000000000001/1000000000000"), ln("0", "1/3", "-1"),
		{}, ln("0", "0", "0"), ln("0", "-0", "1"), ln("1/0", "x", "-3"), ln("", "1.5", "0"), ln("+1", "1/-2", "0"),
	}
}

func TestFar(t *testing.T) {
	for _, x := range []struct {
		what string
		p, q api.P
		want api.Q
	}{
		{"from the middle", pt("0", "0"), pt("1/2", "0"), "4/3"},
		{"down from the middle", pt("0", "0"), pt("0", "-3/5"), "25/16"},
		{"across the middle", pt("1/2", "0"), pt("-1/2", "0"), "25/9"},
		{"any two", pt("1/2", "1/3"), pt("-1/4", "2/5"), "14161/7153"},
		{"turned over", pt("1/2", "1/3"), pt("1/3", "1/2"), "576/529"},
		{"level", pt("3/5", "3/5"), pt("-3/5", "3/5"), "625/49"},
		{"near the circle", pt("0", "0"), pt("999999/1000000", "0"), "1000000000000/1999999"},
		{"one", pt("1/2", "1/3"), pt("1/2", "1/3"), "1"},
		{"one, written otherwise", pt("02/4", "-0"), pt("1/2", "x"), "1"},
		{"zero values", api.P{}, api.P{}, "1"},
		{"what is no fraction is 0", pt("1/0", "1.5"), pt("01/02", "+1"), "4/3"},
	} {
		answers(t, x.what, x.want, api.OK)(Far(x.p, x.q))
		answers(t, x.what+", back", x.want, api.OK)(Far(x.q, x.p))
	}
	for _, p := range noPoints() {
		refused[api.Q](t, "the first outside", api.ErrValue)(Far(p, pt("1/2", "0")))
		refused[api.Q](t, "the second outside", api.ErrValue)(Far(pt("1/2", "0"), p))
		refused[api.Q](t, "both outside", api.ErrValue)(Far(p, p))
	}
}

func TestCheck(t *testing.T) {
	for _, l := range []api.L{
		ln("2", "0", "-1"), ln("1", "0", "0"), ln("0", "-1", "0"), ln("-1/1000000", "0", "0"), ln("1", "1", "-1"), ln("5", "5", "7"),
		ln("3", "4", "-4999999999999/1000000000000"), ln("02/4", "x", "1/0"), ln("0", "-1", "1/2"), ln("-3/5", "-4/5", "99/100"),
	} {
		same(t, "a line", Check(l), api.OK)
	}
	for _, l := range noLines() {
		same(t, "no line", Check(l), api.ErrFlat)
	}
}

func TestLeanAndCommon(t *testing.T) {
	for _, x := range []struct {
		what   string
		l, m   api.L
		lean   api.Q
		common api.L
		wrong  api.Errno
	}{
		{"half a right angle", ln("1", "0", "0"), ln("1", "1", "0"), "1/2", api.L{}, api.ErrNone},
		{"a right angle", ln("1", "0", "0"), ln("0", "1", "0"), "0", api.L{}, api.ErrNone},
		{"a right angle off the axes", ln("1", "2", "0"), ln("-2", "1", "0"), "0", api.L{}, api.ErrNone},
		{"a right angle off the middle", ln("2", "0", "-1"), ln("1", "4", "-2"), "0", api.L{}, api.ErrNone},
		{"no right angle within, though one in the plane", ln("2", "0", "-1"), ln("0", "2", "-1"), "1/9", api.L{}, api.ErrNone},
		{"they meet", ln("2", "1", "1"), ln("1", "-3", "1"), "1/9", api.L{}, api.ErrNone},
		{"fractions", ln("1/2", "-1/3", "1/4"), ln("0", "2", "1"), "121/129", api.L{}, api.ErrNone},
		{"they meet on the circle", ln("1", "1", "-1"), ln("0", "1", "0"), "1", api.L{}, api.ErrNone},
		{"they meet on the circle, the sign turned round", ln("-5", "0", "3"), ln("0", "5", "-4"), "1", api.L{}, api.ErrNone},
		{"one", ln("2", "1", "1"), ln("-4", "-2", "-2"), "1", api.L{}, api.ErrNone},
		{"one, written otherwise", ln("02/4", "x", "1/0"), ln("-1/3", "-0", "0"), "1", api.L{}, api.ErrNone},
		{"beside each other in the plane", ln("2", "0", "-1"), ln("2", "0", "1"), "25/9", ln("0", "1", "0"), api.OK},
		{"they meet outside", ln("3", "1", "-1"), ln("1", "2", "2"), "49/9", ln("4", "-7", "-5"), api.OK},
		{"square to each other in the plane", ln("5", "0", "-4"), ln("0", "5", "-4"), "256/81", ln("4", "4", "-5"), api.OK},
		{"fractions, not plain", ln("-5/3", "1/0", "4/3"), ln("x", "-010", "8"), "256/81", ln("4", "4", "-5"), api.OK},
		{"on one side of the middle", ln("4", "0", "-1"), ln("2", "0", "-1"), "49/45", ln("0", "1", "0"), api.OK},
	} {
		answers(t, x.what+": lean", x.lean, api.OK)(Lean(x.l, x.m))
		answers(t, x.what+": lean, the other way", x.lean, api.OK)(Lean(x.m, x.l))
		answers(t, x.what+": common", x.common, x.wrong)(Common(x.l, x.m))
		answers(t, x.what+": common, the other way", x.common, x.wrong)(Common(x.m, x.l))
	}
}

func TestMirrorFootSquare(t *testing.T) {
	for _, x := range []struct {
		what         string
		l            api.L
		p            api.P
		mirror, foot api.P
		square       api.L
	}{
		{"of the middle", ln("2", "0", "-1"), pt("0", "0"), pt("4/5", "0"), pt("1/2", "0"), ln("0", "1", "0")},
		{"off the axis", ln("2", "0", "-1"), pt("0", "1/2"), pt("4/5", "3/10"), pt("1/2", "3/8"), ln("1", "4", "-2")},
		{"upright, through the middle", ln("1", "0", "0"), pt("1/2", "1/3"), pt("-1/2", "1/3"), pt("0", "1/3"), ln("0", "3", "-1")},
		{"level, through the middle", ln("0", "1", "0"), pt("1/2", "1/3"), pt("1/2", "-1/3"), pt("1/2", "0"), ln("2", "0", "-1")},
		{"slanted, through the middle", ln("1", "1", "0"), pt("1/2", "1/3"), pt("-1/3", "-1/2"), pt("1/12", "-1/12"), ln("6", "-6", "-1")},
		{"slanted", ln("2", "1", "1"), pt("1/2", "-1/3"), pt("-7/11", "-7/11"), pt("-4/17", "-9/17"), ln("4", "-15", "-7")},
		{"slanted, of the middle", ln("3", "4", "-2"), pt("0", "0"), pt("12/29", "16/29"), pt("6/25", "8/25"), ln("4", "-3", "0")},
		{"fractions", ln("1/2", "-1/3", "1/4"), pt("-1/4", "2/5"), pt("-191/848", "41/106"), pt("-29/122", "24/61"), ln("8", "15", "-4")},
		{"across the middle", ln("5", "0", "-4"), pt("-3/5", "-3/5"), pt("323/325", "-27/325"), pt("4/5", "-27/185"), ln("12", "-37", "-15")},
		{"the sign turned round", ln("-2", "0", "1"), pt("1/4", "0"), pt("11/16", "0"), pt("1/2", "0"), ln("0", "1", "0")},
		{"on it", ln("3", "-1", "-1"), pt("1/2", "1/2"), pt("1/2", "1/2"), pt("1/2", "1/2"), ln("3", "5", "-4")},
		{"on it, written otherwise", ln("0", "2", "1"), pt("06/10", "-02/4"), pt("3/5", "-1/2"), pt("3/5", "-1/2"), ln("5", "-2", "-4")},
		{"on it, upright", ln("2", "0", "-1"), pt("1/2", "1/2"), pt("1/2", "1/2"), pt("1/2", "1/2"), ln("1", "3", "-2")},
		{"on it, in the middle", ln("1", "0", "0"), pt("0", "0"), pt("0", "0"), pt("0", "0"), ln("0", "1", "0")},
		{"what is no fraction is 0", ln("04/2", "x", "-1"), pt("1/0", "1.5"), pt("4/5", "0"), pt("1/2", "0"), ln("0", "1", "0")},
	} {
		answers(t, x.what+": mirror", x.mirror, api.OK)(Mirror(x.l, x.p))
		answers(t, x.what+": foot", x.foot, api.OK)(Foot(x.l, x.p))
		answers(t, x.what+": square", x.square, api.OK)(Square(x.l, x.p))
	}
}

func TestWhatIsNoPoint(t *testing.T) {
	for _, p := range noPoints() {
		for _, l := range []api.L{ln("2", "0", "-1"), ln("0", "1", "0"), ln("1", "1", "1")} {
			refused[api.P](t, "mirror", api.ErrValue)(Mirror(l, p))
			refused[api.P](t, "foot", api.ErrValue)(Foot(l, p))
			refused[api.L](t, "square", api.ErrValue)(Square(l, p))
		}
	}
}

func TestWhatIsNoLine(t *testing.T) {
	good := ln("2", "0", "-1")
	for _, l := range noLines() {
		for _, two := range [][2]api.L{{l, good}, {good, l}, {l, l}, {ln("1", "0", "-1"), l}} {
			refused[api.Q](t, "lean", api.ErrFlat)(Lean(two[0], two[1]))
			refused[api.L](t, "common", api.ErrFlat)(Common(two[0], two[1]))
		}
		// Of a line and a point that both are none, what is wrong with the line is told.
		for _, p := range append(noPoints(), pt("1/2", "0"), api.P{}) {
			refused[api.P](t, "mirror", api.ErrFlat)(Mirror(l, p))
			refused[api.P](t, "foot", api.ErrFlat)(Foot(l, p))
			refused[api.L](t, "square", api.ErrFlat)(Square(l, p))
		}
	}
}

func TestGreatLength(t *testing.T) {
	noughts := api.Q(strings.Repeat("0", 1500))
	nines := api.Q(strings.Repeat("9", 1500))
	ten := "1" + noughts
	p := pt(nines+"/"+ten, "0")
	// <p, p> is - 199..99 over ten times ten.
	answers(t, "far", ten+noughts+"/1"+nines, api.OK)(Far(pt("0", "0"), p))
	refused[api.Q](t, "on the circle", api.ErrValue)(Far(pt("0", "0"), pt(ten+"/"+ten, "0")))
	refused[api.Q](t, "a hair outside", api.ErrValue)(Far(pt("1"+noughts[1:]+"1/"+ten, "0"), p))
	same(t, "a hair within", Check(ln(ten, "0", nines)), api.OK)
	same(t, "a hair outside", Check(ln(nines, "0", ten)), api.ErrFlat)
	answers(t, "mirror", pt("-"+nines+"/"+ten, "0"), api.OK)(Mirror(ln(nines, "0", "0"), p))
	answers(t, "foot", p, api.OK)(Foot(ln("-"+ten, "0", nines), p))
	answers(t, "square", ln(ten, "0", "-"+nines), api.OK)(Square(ln("0", "1/"+nines, "0"), p))
	answers(t, "common", ln("0", "1", "0"), api.OK)(Common(ln(ten, "0", nines), ln("-"+ten, "0", nines)))
}
