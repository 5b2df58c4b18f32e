package turn

import (
	"strings"
	"testing"

	"compass/api"
)

// noCircles: what is handed in as a circle and is none.
func noCircles() []api.C {
	return []api.C{{}, circ("1", "2", "0"), circ("1", "2", "-1"), circ("3", "4", "x"), circ("3", "4", "1/0"), circ("3", "4", "+1"), circ("0", "5", "-25")}
}

// noBends: what is handed in as a circle or a line and is neither.
func noBends() []api.G {
	return []api.G{
		{}, bend("0", "0", "0", "1"), bend("0", "0", "0", "-1"), bend("x", "1/0", "-0", "3"),
		bend("1", "0", "0", "0"), bend("-2/3", "0", "0", "0"), bend("1", "-2", "0", "1"), bend("1", "-6", "8", "25"), bend("-1", "6", "-8", "-25"),
		bend("1", "0", "0", "1"), bend("-1", "0", "0", "-1"), bend("1", "-2", "0", "1000000000000000000001/1000000000000000000000"),
		bend("1/1000000", "1", "1", "500001"), bend("+1", "x", "", "-1"),
	}
}

// noMaps: what is handed in as a map and is none.
func noMaps() []api.M {
	return []api.M{
		{}, ofFractions("1", "0", "0", "0"), ofFractions("0", "0", "0", "1"), ofFractions("1", "2", "0", "0"), ofFractions("0", "1", "0", "2"),
		ofFractions("1", "2", "2", "4"), ofFractions("1/2", "1/3", "3", "2"), ofFractions("1", "x", "1/0", "+1"),
		frac(pt("1", "1"), pt("0", "2"), pt("1", "0"), pt("1", "1")), frac(pt("0", "1"), pt("1", "0"), pt("-1", "0"), pt("0", "1")),
	}
}

func TestWhatIsNoCircle(t *testing.T) {
	for _, c := range noCircles() {
		refused[api.G](t, "of a circle", api.ErrValue)(OfCircle(c))
		for _, p := range []api.P{c.M, pt("7", "1/2")} {
			refused[api.P](t, "point", api.ErrValue)(Point(c, p))
		}
		for _, g := range append(noBends(), bend("0", "1", "0", "-2"), bend("1", "0", "0", "-4")) {
			refused[api.G](t, "round", api.ErrValue)(Round(c, g))
		}
	}
}

func TestWhatIsNeitherCircleNorLine(t *testing.T) {
	for _, g := range noBends() {
		refused[api.L](t, "to a line", api.ErrFlat)(ToLine(g))
		refused[api.C](t, "to a circle", api.ErrFlat)(ToCircle(g))
		refused[api.G](t, "round", api.ErrFlat)(Round(circ("0", "0", "1"), g))
		refused[api.G](t, "carry", api.ErrFlat)(Carry(ofFractions("1", "0", "0", "1"), g))
	}
	for _, l := range []api.L{{}, ln("0", "0", "1"), ln("-0", "0/3", "-2"), ln("x", "1/0", "5"), ln("+1", "--1", "1")} {
		refused[api.G](t, "of a line", api.ErrFlat)(OfLine(l))
	}
}

func TestWhatIsNoMap(t *testing.T) {
	good := ofFractions("1", "2", "3", "4")
	for _, m := range noMaps() {
		for _, z := range []api.P{pt("0", "0"), pt("1", "-1"), pt("-2", "0")} {
			refused[image](t, "apply", api.ErrFlat)(imageOf(m, z))
		}
		refused[api.M](t, "after", api.ErrFlat)(After(m, good))
		refused[api.M](t, "after", api.ErrFlat)(After(good, m))
		refused[api.M](t, "after", api.ErrFlat)(After(m, m))
		refused[api.M](t, "back", api.ErrFlat)(Back(m))
		refused[api.G](t, "carry", api.ErrFlat)(Carry(m, bend("1", "0", "0", "-4")))
		refused[api.G](t, "carry", api.ErrFlat)(Carry(m, bend("1", "0", "0", "4")))
	}
}

func TestPoint(t *testing.T) {
	c := circ("1", "2", "25")
	for _, x := range []struct {
		what    string
		c       api.C
		p, want api.P
	}{
		{"the document's", circ("0", "0", "1"), pt("2", "0"), pt("1/2", "0")},
		{"on it", c, pt("4", "6"), pt("4", "6")},
		{"outside", c, pt("7", "10"), pt("5/2", "4")},
		{"within", c, pt("5/2", "4"), pt("7", "10")},
		{"near the middle", c, pt("1", "2000001/1000000"), pt("1", "25000002")},
		{"on the other side", c, pt("-9", "2"), pt("-3/2", "2")},
		{"a radius that is no fraction", circ("0", "1", "2"), pt("3", "1"), pt("2/3", "1")},
		{"fractions", circ("1/2", "-1/3", "1/4"), pt("0", "0"), pt("4/26", "-4/39")},
		{"what is no fraction is 0", circ("x", "1/0", "04/2"), pt("02", "2/1"), pt("1/2", "1/2")},
	} {
		same(t, x.what, must[api.P](t, x.what)(Point(x.c, x.p)), plain(x.want))
	}
	for _, p := range []api.P{pt("1", "2"), pt("02/2", "4/2")} {
		refused[api.P](t, "the middle", api.ErrFlat)(Point(c, p))
	}
	refused[api.P](t, "the origin", api.ErrFlat)(Point(circ("x", "", "1"), pt("1/0", "-0")))
}

func TestToAndFro(t *testing.T) {
	for _, x := range []struct {
		what string
		l    api.L
		want api.G
	}{
		{"plain", ln("1", "2", "-3"), bend("0", "1", "2", "-3")},
		{"through the origin", ln("0", "1", "0"), bend("0", "0", "1", "0")},
		{"not plain", ln("-1/2", "1/3", "5"), bend("0", "3", "-2", "-30")},
		{"level, not plain", ln("x", "-2", "6"), bend("0", "0", "1", "-3")},
	} {
		same(t, x.what, must[api.G](t, x.what)(OfLine(x.l)), x.want)
		refused[api.C](t, x.what, api.ErrForm)(ToCircle(x.want))
		refused[api.C](t, x.what, api.ErrForm)(ToCircle(bend("1/0", x.l.A, x.l.B, x.l.C)))
		back := must[api.L](t, x.what)(ToLine(x.want))
		same(t, x.what, back, ln(x.want.B, x.want.C, x.want.D))
		same(t, x.what, must[api.L](t, x.what)(ToLine(bend("0", x.l.A, x.l.B, x.l.C))), back)
	}
	for _, x := range []struct {
		what string
		c    api.C
		want api.G
	}{
		{"around the origin", circ("0", "0", "4"), bend("1", "0", "0", "-4")},
		{"through the origin", circ("3", "-4", "25"), bend("1", "-6", "8", "0")},
		{"the origin within", circ("1", "2", "25"), bend("1", "-2", "-4", "-20")},
		{"the origin outside", circ("14", "2", "144"), bend("1", "-28", "-4", "56")},
		{"fractions", circ("1/2", "-1/3", "1/4"), bend("9", "-9", "6", "1")},
		{"a radius that is no fraction", circ("0", "1/2", "2/3"), bend("12", "0", "-12", "-5")},
		{"all but a point", circ("1", "0", "1/1000000"), bend("1000000", "-2000000", "0", "999999")},
	} {
		same(t, x.what, must[api.G](t, x.what)(OfCircle(x.c)), x.want)
		same(t, x.what, must[api.C](t, x.what)(ToCircle(x.want)), x.c)
		refused[api.L](t, x.what, api.ErrForm)(ToLine(x.want))
	}
	same(t, "not plain", must[api.C](t, "not plain")(ToCircle(bend("-1/2", "1", "04/2", "10"))), circ("1", "2", "25"))
	same(t, "noughts ahead", must[api.G](t, "noughts")(OfCircle(circ("01", "4/2", "050/2"))), bend("1", "-2", "-4", "-20"))
	same(t, "all but a line", must[api.C](t, "all but a line")(ToCircle(bend("1/1000000", "0", "1", "0"))), circ("0", "-500000", "250000000000"))
}

func TestRound(t *testing.T) {
	one, c := circ("0", "0", "1"), circ("1", "2", "25")
	for _, x := range []struct {
		what string
		c    api.C
		g    api.G
		want api.G
	}{
		{"the document's line", one, bend("0", "1", "0", "-2"), bend("2", "-1", "0", "0")},
		{"its line back", one, bend("2", "-1", "0", "0"), bend("0", "1", "0", "-2")},
		{"a line through the middle", one, bend("0", "1", "1", "0"), bend("0", "1", "1", "0")},
		{"a line through another middle", c, bend("0", "2", "-1", "0"), bend("0", "2", "-1", "0")},
		{"a line that touches", c, bend("0", "1", "0", "-6"), bend("1", "-7", "-4", "10")},
		{"a circle that leans in the middle", c, bend("1", "-7", "-4", "10"), bend("0", "1", "0", "-6")},
		{"itself", c, bend("1", "-2", "-4", "-20"), bend("1", "-2", "-4", "-20")},
		{"one around the middle", one, bend("1", "0", "0", "-4"), bend("4", "0", "0", "-1")},
		{"at right angles", c, bend("1", "-28", "-4", "56"), bend("1", "-28", "-4", "56")},
		{"outside", one, bend("1", "-6", "0", "8"), bend("8", "-6", "0", "1")},
		{"around all", one, bend("1", "-2", "0", "-8"), bend("8", "2", "0", "-1")},
		{"askew", one, bend("1", "-3", "5", "2"), bend("2", "-3", "5", "1")},
		{"not plain", one, bend("-1/3", "1", "-5/3", "-2/3"), bend("2", "-3", "5", "1")},
		{"a radius that is no fraction", circ("0", "0", "2"), bend("1", "-3", "5", "2"), bend("1", "-3", "5", "2")},
	} {
		same(t, x.what, must[api.G](t, x.what)(Round(x.c, x.g)), x.want)
		same(t, x.what, must[api.G](t, x.what)(Round(x.c, x.want)), must[api.G](t, x.what)(Carry(ofFractions("1", "0", "0", "1"), x.g)))
	}
}

func TestCross(t *testing.T) {
	for _, x := range []struct {
		what       string
		a, b, c, d api.P
		want       api.P
	}{
		{"in order", pt("0", "0"), pt("1", "0"), pt("2", "0"), pt("3", "0"), pt("4/3", "0")},
		{"the other pairs", pt("0", "0"), pt("2", "0"), pt("1", "0"), pt("3", "0"), pt("-1/3", "0")},
		{"the last two changed", pt("0", "0"), pt("1", "0"), pt("3", "0"), pt("2", "0"), pt("3/4", "0")},
		{"harmonic", pt("0", "0"), pt("6", "0"), pt("2", "0"), pt("-6", "0"), pt("-1", "0")},
		{"a square", pt("1", "0"), pt("0", "1"), pt("-1", "0"), pt("0", "-1"), pt("2", "0")},
		{"on no circle", pt("0", "0"), pt("1", "0"), pt("0", "1"), pt("2", "0"), pt("1/4", "-1/4")},
		{"mirrored", pt("0", "0"), pt("1", "0"), pt("0", "-1"), pt("2", "0"), pt("1/4", "1/4")},
		{"fractions", pt("1/2", "0"), pt("0", "1/3"), pt("0", "0"), pt("1", "0"), pt("-1", "-3")},
		{"what is no fraction is 0", pt("x", "1/0"), pt("01", ""), pt("4/2", "-0"), pt("3", "+1"), pt("4/3", "0")},
	} {
		same(t, x.what, must[api.P](t, x.what)(Cross(x.a, x.b, x.c, x.d)), x.want)
	}
	apart := [4]api.P{pt("1/2", "3"), pt("0", "1"), pt("5", "-2"), pt("1", "1")}
	for i := range apart {
		for j := range i {
			l := apart
			l[i] = pt(l[j].X+"/01", "0"+l[j].Y)
			if l[j].X == "1/2" || l[j].Y == "-2" {
				l[i] = l[j]
			}
			refused[api.P](t, "two are one", api.ErrFlat)(Cross(l[0], l[1], l[2], l[3]))
		}
	}
	refused[api.P](t, "all are one", api.ErrFlat)(Cross(api.P{}, api.P{}, api.P{}, api.P{}))
}

func TestApply(t *testing.T) {
	over := ofFractions("0", "1", "1", "0")
	cayley := frac(pt("1", "0"), pt("0", "-1"), pt("1", "0"), pt("0", "1"))
	for _, x := range []struct {
		what string
		m    api.M
		z    api.P
		want image
	}{
		{"nothing", ofFractions("1", "0", "0", "1"), pt("2/4", "-3"), image{pt("1/2", "-3"), false}},
		{"nothing, many times", ofFractions("-7/2", "0", "0", "-7/2"), pt("2/4", "-3"), image{pt("1/2", "-3"), false}},
		{"a shift", frac(pt("1", "0"), pt("2", "-1/2"), pt("0", "0"), pt("1", "0")), pt("1", "1"), image{pt("3", "1/2"), false}},
		{"a turn", frac(pt("0", "1"), pt("0", "0"), pt("0", "0"), pt("1", "0")), pt("1", "2"), image{pt("-2", "1"), false}},
		{"one over", over, pt("3", "4"), image{pt("3/25", "-4/25"), false}},
		{"one over 0", over, pt("0", "0"), image{api.P{}, true}},
		{"one over what is no fraction", over, pt("x", "1/0"), image{api.P{}, true}},
		{"to the middle", cayley, pt("0", "1"), image{pt("0", "0"), false}},
		{"to the rim", cayley, pt("1", "0"), image{pt("0", "-1"), false}},
		{"beyond", cayley, pt("0", "-1"), image{api.P{}, true}},
		{"all but beyond", cayley, pt("0", "-1000001/1000000"), image{pt("2000001", "0"), false}},
		{"all of it", frac(pt("1", "1"), pt("2", "0"), pt("0", "1"), pt("1", "-1")), pt("1/2", "1"), image{pt("-3", "3"), false}},
	} {
		same(t, x.what, must[image](t, x.what)(imageOf(x.m, x.z)), x.want)
	}
}

func TestAfterAndBack(t *testing.T) {
	over := ofFractions("0", "1", "1", "0")
	i, zero, one := pt("0", "1"), pt("0", "0"), pt("1", "0")
	shift, turned := frac(one, i, zero, one), frac(i, zero, zero, one)
	for _, x := range []struct {
		what string
		m, n api.M
		want api.M
	}{
		{"one over, twice", over, over, ofFractions("1", "0", "0", "1")},
		{"a shift, then a turn", turned, shift, frac(one, i, zero, pt("0", "-1"))},
		{"a turn, then a shift", shift, turned, frac(one, one, zero, pt("0", "-1"))},
		{"a shift, then one over", over, shift, frac(zero, one, one, i)},
		{"one over, then a shift", shift, over, frac(one, pt("0", "-1"), pt("0", "-1"), zero)},
		{"of fractions", ofFractions("1", "2", "3", "4"), ofFractions("5", "6", "7", "8"), ofFractions("1", "22/19", "43/19", "50/19")},
		{"what is no fraction is 0", ofFractions("x", "02", "4/2", "1/0"), ofFractions("", "-1", "-1", "+1"), ofFractions("1", "0", "0", "1")},
	} {
		same(t, x.what, must[api.M](t, x.what)(After(x.m, x.n)), x.want)
	}
	for _, x := range []struct {
		what    string
		m, want api.M
	}{
		{"one over", over, over},
		{"a shift", shift, frac(one, pt("0", "-1"), zero, one)},
		{"a turn", turned, frac(one, zero, zero, i)},
		{"of fractions", ofFractions("1", "2", "3", "4"), ofFractions("1", "-1/2", "-3/4", "1/4")},
		{"without D", ofFractions("2", "3", "1/2", "0"), ofFractions("0", "1", "1/6", "-2/3")},
		{"all of it", frac(pt("1", "1"), pt("2", "0"), i, pt("1", "-1")), frac(one, pt("-1", "-1"), pt("1/2", "-1/2"), i)},
	} {
		same(t, x.what, must[api.M](t, x.what)(Back(x.m)), x.want)
	}
}

func TestThree(t *testing.T) {
	zero, one, two := pt("0", "0"), pt("1", "0"), pt("2", "0")
	i, less := pt("0", "1"), pt("-1", "0")
	for _, x := range []struct {
		what string
		p, q [3]api.P
		want api.M
	}{
		{"nothing", [3]api.P{zero, one, i}, [3]api.P{zero, one, i}, ofFractions("1", "0", "0", "1")},
		{"twice as far", [3]api.P{zero, one, i}, [3]api.P{zero, two, pt("0", "2")}, ofFractions("1", "0", "0", "1/2")},
		{"one over", [3]api.P{one, two, i}, [3]api.P{one, pt("1/2", "0"), pt("0", "-1")}, ofFractions("0", "1", "1", "0")},
		{"a line to a circle", [3]api.P{zero, one, less}, [3]api.P{less, pt("0", "-1"), i}, frac(one, pt("0", "-1"), one, i)},
		{"two change places", [3]api.P{zero, one, two}, [3]api.P{zero, two, one}, ofFractions("1", "0", "3/2", "-1")},
		{"what is no fraction is 0", [3]api.P{{}, pt("02/2", "x"), pt("1/0", "01")}, [3]api.P{zero, pt("4/2", "-0"), pt("+7", "2")}, ofFractions("1", "0", "0", "1/2")},
	} {
		same(t, x.what, must[api.M](t, x.what)(Three(x.p, x.q)), x.want)
	}
	good := [3]api.P{zero, one, pt("3", "1/2")}
	for _, l := range [][3]api.P{{}, {zero, zero, i}, {zero, i, zero}, {i, zero, zero}, {i, one, pt("02/2", "x")}, {pt("1/2", "3"), two, pt("2/4", "03")}} {
		refused[api.M](t, "two of p are one", api.ErrFlat)(Three(l, good))
		refused[api.M](t, "two of q are one", api.ErrFlat)(Three(good, l))
		refused[api.M](t, "two of both are one", api.ErrFlat)(Three(l, l))
	}
}

func TestCarry(t *testing.T) {
	over := ofFractions("0", "1", "1", "0")
	cayley := frac(pt("1", "0"), pt("0", "-1"), pt("1", "0"), pt("0", "1"))
	shift := frac(pt("1", "0"), pt("2", "-1"), pt("0", "0"), pt("1", "0"))
	for _, x := range []struct {
		what    string
		m       api.M
		g, want api.G
	}{
		{"nothing", ofFractions("1", "0", "0", "1"), bend("-2", "0", "4", "6"), bend("1", "0", "-2", "-3")},
		{"a line shifted", shift, bend("0", "1", "1", "0"), bend("0", "1", "1", "-1")},
		{"a circle shifted", shift, bend("1", "0", "0", "-1"), bend("1", "-4", "2", "4")},
		{"a line turned", frac(pt("0", "1"), pt("0", "0"), pt("0", "0"), pt("1", "0")), bend("0", "1", "0", "-1"), bend("0", "0", "1", "-1")},
		{"a circle stretched", ofFractions("2", "0", "0", "1"), bend("1", "-2", "0", "0"), bend("1", "-4", "0", "0")},
		{"one over a line", over, bend("0", "1", "0", "-1"), bend("1", "-1", "0", "0")},
		{"one over a line above", over, bend("0", "0", "1", "-1"), bend("1", "0", "1", "0")},
		{"one over a line through 0", over, bend("0", "1", "1", "0"), bend("0", "1", "-1", "0")},
		{"one over a circle through 0", over, bend("1", "0", "1", "0"), bend("0", "0", "1", "-1")},
		{"one over a circle", over, bend("1", "-3", "5", "2"), bend("2", "-3", "-5", "1")},
		{"the level line to the rim", cayley, bend("0", "0", "1", "0"), bend("1", "0", "0", "-1")},
		{"the upright line to itself level", cayley, bend("0", "1", "0", "0"), bend("0", "0", "1", "0")},
		{"the rim to the upright line", cayley, bend("1", "0", "0", "-1"), bend("0", "1", "0", "0")},
		{"what is no fraction is 0", ofFractions("x", "02/2", "1", "1/0"), bend("", "-1/2", "+3", "01/2"), bend("1", "-1", "0", "0")},
	} {
		same(t, x.what, must[api.G](t, x.what)(Carry(x.m, x.g)), x.want)
	}
}

func TestGreatLength(t *testing.T) {
	noughts := api.Q(strings.Repeat("0", 2000))
	great, square := "1"+noughts, "1"+noughts+noughts
	c := circ("0", "0", square)
	same(t, "point", must[api.P](t, "point")(Point(c, pt("1", "0"))), pt(square, "0"))
	same(t, "of a circle", must[api.G](t, "of")(OfCircle(circ(great, "0", square))), bend("1", "-2"+noughts, "0", "0"))
	same(t, "to a circle", must[api.C](t, "to")(ToCircle(bend("1", "-2"+noughts, "0", "0"))), circ(great, "0", square))
	same(t, "round", must[api.G](t, "round")(Round(c, bend("1", "-2"+noughts, "0", "0"))), bend("0", "1", "0", "-5"+noughts[1:]))
	same(t, "cross", must[api.P](t, "cross")(Cross(pt("0", "0"), pt(great, "0"), pt("2"+noughts, "0"), pt("3"+noughts, "0"))), pt("4/3", "0"))
	over := ofFractions("0", "1", great, "0")
	same(t, "apply", must[image](t, "apply")(imageOf(over, pt("0", great))), image{pt("0", "-1/"+square), false})
	same(t, "after", must[api.M](t, "after")(After(over, over)), ofFractions("1", "0", "0", "1"))
	same(t, "carry", must[api.G](t, "carry")(Carry(over, bend("0", "1", "0", "-1"))), bend(great, "-1", "0", "0"))
}
