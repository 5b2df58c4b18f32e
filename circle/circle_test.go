package circle

import (
	"strings"
	"testing"

	"compass/api"
)

// noCircles: what is handed in as a circle and is none.
func noCircles() []api.C {
	return []api.C{
		{}, circ("1", "2", "0"), circ("1", "2", "-1"), circ("0", "0", "-1/1000000000000000000000"), circ("3", "4", "-0"), circ("3", "4", "x"),
		circ("3", "4", "1/0"), circ("3", "4", "+1"), circ("3", "4", "1/-1"), circ("0", "5", "-25"), circ("3", "4", "0/7"), circ("3", "4", "1.5"), circ("3", "4", " 1"),
	}
}

// noLines: what is handed in as a line and is none.
func noLines() []api.L {
	return []api.L{{}, ln("0", "0", "1"), ln("-0", "0/3", "-2"), ln("x", "1/0", "5"), ln("+1", "--1", "1")}
}

func TestWhatIsNoCircle(t *testing.T) {
	// Each call is given what would be refused for another reason, too.
	good := circ("0", "0", "25")
	for _, c := range noCircles() {
		for _, p := range []api.P{c.M, pt("3", "4"), pt("1", "0")} {
			refused[api.Q](t, "power", api.ErrValue)(Power(c, p))
			refused[api.L](t, "touch", api.ErrValue)(Touch(c, p))
			refused[api.L](t, "polar", api.ErrValue)(Polar(c, p))
			refused[api.P](t, "second", api.ErrValue)(Second(c, p, pt("3", "4")))
			refused[api.P](t, "second", api.ErrValue)(Second(c, pt("3", "4"), p))
		}
		for _, l := range []api.L{ln("1", "0", "0"), ln("3", "4", "-25"), ln("0", "1", "99")} {
			refused[chord](t, "chord", api.ErrValue)(chordOf(c, l))
			refused[api.P](t, "pole", api.ErrValue)(Pole(c, l))
		}
		for _, two := range [][2]api.C{{c, good}, {good, c}, {c, c}} {
			refused[api.L](t, "axis", api.ErrValue)(Axis(two[0], two[1]))
			refused[int](t, "lie", api.ErrValue)(Lie(two[0], two[1]))
			refused[bool](t, "square", api.ErrValue)(Square(two[0], two[1]))
			refused[api.P](t, "heart", api.ErrValue)(Heart(two[0], two[1], good))
			refused[api.P](t, "heart", api.ErrValue)(Heart(good, two[0], two[1]))
			refused[api.P](t, "heart", api.ErrValue)(Heart(two[1], circ("7", "1", "2"), two[0]))
		}
	}
}

func TestWhatIsNoLine(t *testing.T) {
	// Of a line and a circle that both are none, the document tells what is wrong with the line first.
	for _, l := range noLines() {
		for _, c := range append(noCircles(), circ("0", "0", "25"), circ("-1", "1/3", "2")) {
			refused[chord](t, "chord", api.ErrFlat)(chordOf(c, l))
			refused[api.P](t, "pole", api.ErrFlat)(Pole(c, l))
		}
	}
}

func TestThrough(t *testing.T) {
	for _, c := range []struct {
		what string
		l    [3]api.P
		want api.C
	}{
		{"the document's", [3]api.P{pt("0", "0"), pt("4", "0"), pt("0", "3")}, circ("2", "3/2", "25/4")},
		{"with the clock", [3]api.P{pt("0", "0"), pt("0", "3"), pt("4", "0")}, circ("2", "3/2", "25/4")},
		{"around the origin", [3]api.P{pt("5", "0"), pt("0", "5"), pt("-3", "4")}, circ("0", "0", "25")},
		{"obtuse", [3]api.P{pt("0", "0"), pt("6", "0"), pt("-2", "2")}, circ("3", "5", "34")},
		{"as good as flat", [3]api.P{pt("0", "0"), pt("2", "0"), pt("1", "1/1000000")}, circ("1", "-999999999999/2000000", "1000000000002000000000001/4000000000000")},
		{"what is no fraction is 0", [3]api.P{pt("x", ""), pt("04", "1/0"), pt("-0", "6/2")}, circ("2", "3/2", "25/4")},
	} {
		same(t, c.what, must[api.C](t, c.what)(Through(c.l[0], c.l[1], c.l[2])), c.want)
	}
	for _, l := range [][3]api.P{
		{},
		{pt("0", "0"), pt("1", "1"), pt("2", "2")},
		{pt("1", "2"), pt("1", "2"), pt("5", "7")},
		{pt("1", "2"), pt("5", "7"), pt("1", "2")},
		{pt("5", "7"), pt("1", "2"), pt("1", "02/1")},
		{pt("1/3", "1/5"), pt("1/3", "-2"), pt("1/3", "77")},
		{pt("x", "1"), pt("1/0", "2"), pt("-0", "3")},
	} {
		refused[api.C](t, "on one line", api.ErrFlat)(Through(l[0], l[1], l[2]))
	}
}

func TestPower(t *testing.T) {
	c := circ("1", "2", "25")
	for _, x := range []struct {
		what string
		c    api.C
		p    api.P
		want api.Q
	}{
		{"outside", c, pt("7", "2"), "11"},
		{"on it", c, pt("4", "6"), "0"},
		{"within", c, pt("1", "1/2"), "-91/4"},
		{"the middle", c, pt("1", "2"), "-25"},
		{"the origin", c, pt("x", "1/0"), "-20"},
		{"fractions", circ("1/2", "-1/3", "1/4"), pt("0", "0"), "1/9"},
		{"noughts ahead", circ("01", "04/2", "050/2"), pt("007", "2"), "11"},
	} {
		same(t, x.what, must[api.Q](t, x.what)(Power(x.c, x.p)), x.want)
	}
}

func TestAxis(t *testing.T) {
	for _, x := range []struct {
		what string
		c, d api.C
		want api.L
	}{
		{"apart", circ("0", "0", "25"), circ("20", "0", "25"), ln("1", "0", "-10")},
		{"they cross", circ("0", "0", "25"), circ("8", "0", "25"), ln("1", "0", "-4")},
		{"they touch", circ("0", "0", "25"), circ("6", "8", "25"), ln("3", "4", "-25")},
		{"one within", circ("0", "0", "100"), circ("1", "0", "1"), ln("1", "0", "-50")},
		{"unlike", circ("0", "0", "1"), circ("0", "-2", "3"), ln("0", "2", "1")},
		{"fractions", circ("1/2", "0", "1/9"), circ("0", "1/3", "1/4"), ln("18", "-12", "-5")},
		{"noughts ahead", circ("00", "", "025"), circ("020", "0/3", "50/2"), ln("1", "0", "-10")},
	} {
		same(t, x.what, must[api.L](t, x.what)(Axis(x.c, x.d)), x.want)
		same(t, x.what, must[api.L](t, x.what)(Axis(x.d, x.c)), x.want)
	}
	refused[api.L](t, "the same", api.ErrFree)(Axis(circ("1", "2", "3"), circ("1", "2", "3")))
	refused[api.L](t, "the same, written otherwise", api.ErrFree)(Axis(circ("1/2", "x", "1/3"), circ("2/4", "-0", "03/9")))
	refused[api.L](t, "one middle", api.ErrNone)(Axis(circ("1", "2", "3"), circ("1", "2", "4")))
	refused[api.L](t, "one middle, written otherwise", api.ErrNone)(Axis(circ("1/2", "1/0", "4"), circ("03/6", "0", "3")))
}

func TestHeart(t *testing.T) {
	for _, x := range []struct {
		what    string
		c, d, e api.C
		want    api.P
	}{
		{"alike", circ("0", "0", "25"), circ("10", "0", "25"), circ("0", "10", "25"), pt("5", "5")},
		{"with the clock", circ("0", "0", "25"), circ("0", "10", "25"), circ("10", "0", "25"), pt("5", "5")},
		{"unlike", circ("0", "0", "1"), circ("4", "0", "9"), circ("0", "2", "3"), pt("1", "1/2")},
		{"fractions", circ("1/2", "0", "1/4"), circ("0", "1/3", "1/9"), circ("1", "1", "2"), pt("0", "0")},
		{"points of no circle", circ("0", "0", "1/1000"), circ("1", "0", "1/1000"), circ("0", "1", "1000001/1000"), pt("1/2", "-999/2")},
	} {
		for _, l := range [][3]api.C{{x.c, x.d, x.e}, {x.d, x.e, x.c}, {x.e, x.d, x.c}} {
			same(t, x.what, must[api.P](t, x.what)(Heart(l[0], l[1], l[2])), x.want)
		}
	}
	for _, x := range [][3]api.C{
		{circ("0", "0", "1"), circ("1", "1", "2"), circ("2", "2", "5")},
		{circ("0", "0", "1"), circ("0", "0", "2"), circ("2", "2", "5")},
		{circ("2", "2", "5"), circ("0", "0", "1"), circ("0", "0", "1")},
		{circ("0", "0", "1"), circ("2", "1", "2"), circ("0", "0", "3")},
		{circ("7", "1/3", "1"), circ("7", "1/3", "1"), circ("7", "2/6", "1")},
		{circ("x", "1", "1"), circ("1/0", "2", "1"), circ("", "3", "1")},
	} {
		refused[api.P](t, "on one line", api.ErrFlat)(Heart(x[0], x[1], x[2]))
	}
}

func TestChord(t *testing.T) {
	c := circ("1", "2", "25")
	for _, x := range []struct {
		what string
		l    api.L
		want chord
	}{
		{"it crosses", ln("1", "0", "-4"), chord{pt("4", "2"), "16"}},
		{"not plain", ln("-1/2", "0", "2"), chord{pt("4", "2"), "16"}},
		{"through the middle", ln("2", "-1", "0"), chord{pt("1", "2"), "25"}},
		{"it touches", ln("3", "4", "-36"), chord{pt("4", "6"), "0"}},
		{"it touches below", ln("0", "-1/3", "-1"), chord{pt("1", "-3"), "0"}},
		{"all but touching", ln("0", "1", "-699/100"), chord{pt("1", "699/100"), "999/10000"}},
		{"askew", ln("1", "1", "0"), chord{pt("-1/2", "1/2"), "41/2"}},
		{"what is no fraction is 0", ln("1", "x", "-4"), chord{pt("4", "2"), "16"}},
	} {
		same(t, x.what, must[chord](t, x.what)(chordOf(c, x.l)), x.want)
	}
	for _, l := range []api.L{ln("1", "0", "-7"), ln("0", "1", "-701/100"), ln("3", "4", "-36000001/1000000"), ln("1", "1", "100")} {
		refused[chord](t, "beside", api.ErrNone)(chordOf(c, l))
	}
}

func TestTouchAndPolar(t *testing.T) {
	c := circ("1", "2", "25")
	for _, x := range []struct {
		what string
		c    api.C
		p    api.P
		on   bool
		want api.L
	}{
		{"on it", c, pt("4", "6"), true, ln("3", "4", "-36")},
		{"at the right", c, pt("6", "2"), true, ln("1", "0", "-6")},
		{"at the left", c, pt("-4", "2"), true, ln("1", "0", "4")},
		{"at the bottom", c, pt("1", "-3"), true, ln("0", "1", "3")},
		{"fractions", circ("0", "0", "1"), pt("3/5", "-4/5"), true, ln("3", "-4", "-5")},
		{"a radius that is no fraction", circ("0", "1", "2"), pt("1", "2"), true, ln("1", "1", "-3")},
		{"noughts ahead", circ("01", "4/2", "025"), pt("04", "06"), true, ln("3", "4", "-36")},
		{"outside", c, pt("11", "2"), false, ln("2", "0", "-7")},
		{"within", c, pt("1", "3"), false, ln("0", "1", "-27")},
		{"all but the middle", c, pt("1000001/1000000", "2"), false, ln("1", "0", "-25000001")},
	} {
		same(t, x.what, must[api.L](t, x.what)(Polar(x.c, x.p)), x.want)
		if x.on {
			same(t, x.what, must[api.L](t, x.what)(Touch(x.c, x.p)), x.want)
		} else {
			refused[api.L](t, x.what, api.ErrNone)(Touch(x.c, x.p))
		}
	}
	for _, p := range []api.P{pt("1", "2"), pt("02/2", "4/2")} {
		refused[api.L](t, "the middle", api.ErrFlat)(Polar(c, p))
		refused[api.L](t, "the middle", api.ErrNone)(Touch(c, p))
	}
	refused[api.L](t, "the origin", api.ErrFlat)(Polar(circ("x", "0", "1"), pt("1/0", "")))
	refused[api.L](t, "all but on it", api.ErrNone)(Touch(c, pt("4", "60000000000000000001/10000000000000000000")))
}

func TestPole(t *testing.T) {
	c := circ("1", "2", "25")
	for _, x := range []struct {
		what string
		l    api.L
		want api.P
	}{
		{"it touches", ln("3", "4", "-36"), pt("4", "6")},
		{"outside", ln("0", "1", "-27"), pt("1", "3")},
		{"it crosses", ln("2", "0", "-7"), pt("11", "2")},
		{"on the other side", ln("2", "0", "3"), pt("-9", "2")},
		{"not plain", ln("-1/2", "0", "7/4"), pt("11", "2")},
		{"through the origin", ln("1", "0", "0"), pt("-24", "2")},
		{"all but through the middle", ln("1", "1", "-3000001/1000000"), pt("25000001", "25000002")},
	} {
		same(t, x.what, must[api.P](t, x.what)(Pole(c, x.l)), x.want)
	}
	for _, l := range []api.L{ln("1", "0", "-1"), ln("0", "1", "-2"), ln("-1/2", "-1/2", "3/2"), ln("2", "-1", "x")} {
		refused[api.P](t, "through the middle", api.ErrNone)(Pole(c, l))
	}
}

func TestSecond(t *testing.T) {
	c, p := circ("1", "2", "25"), pt("4", "6")
	for _, x := range []struct {
		what string
		q    api.P
		want api.P
	}{
		{"level", pt("0", "6"), pt("-2", "6")},
		{"level, away from it", pt("1000", "6"), pt("-2", "6")},
		{"upright", pt("4", "7"), pt("4", "-2")},
		{"through the middle", pt("1", "2"), pt("-2", "-2")},
		{"to another of its points", pt("6", "2"), pt("6", "2")},
		{"it touches", pt("8", "3"), pt("4", "6")},
		{"it touches, the other way", pt("0", "9"), pt("4", "6")},
		{"fractions", pt("3", "4"), pt("-2/5", "-14/5")},
		{"what is no fraction is 0", pt("x", "06"), pt("-2", "6")},
	} {
		same(t, x.what, must[api.P](t, x.what)(Second(c, p, x.q)), x.want)
	}
	same(t, "answered in lowest terms", must[api.P](t, "second")(Second(c, pt("08/2", "6"), pt("16/2", "3"))), pt("4", "6"))
	for _, q := range []api.P{pt("4", "6"), pt("04", "12/2")} {
		refused[api.P](t, "q is p", api.ErrFlat)(Second(c, p, q))
	}
	for _, p := range []api.P{pt("1", "2"), pt("0", "0"), pt("4", "5"), pt("4", "60000000000000000001/10000000000000000000")} {
		refused[api.P](t, "not on it", api.ErrNone)(Second(c, p, pt("4", "6")))
		refused[api.P](t, "not on it, and q is p", api.ErrNone)(Second(c, p, p))
	}
}

func TestLie(t *testing.T) {
	c, root2 := circ("1", "2", "25"), circ("0", "0", "2")
	for _, x := range []struct {
		what string
		c, d api.C
		want int
	}{
		{"the same", c, c, api.Same},
		{"the same, written otherwise", c, circ("02/2", "2", "50/2"), api.Same},
		{"apart", c, circ("20", "2", "25"), api.Outside},
		{"all but touching", c, circ("11000001/1000000", "2", "25"), api.Outside},
		{"a small one outside", c, circ("7", "2", "1/2"), api.Outside},
		{"beside each other", c, circ("11", "2", "25"), api.Touches},
		{"a small one touches", c, circ("13/2", "2", "1/4"), api.Touches},
		{"askew", c, circ("7", "10", "25"), api.Touches},
		{"all but apart", c, circ("10999999/1000000", "2", "25"), api.Crosses},
		{"they cross", c, circ("6", "2", "25"), api.Crosses},
		{"at right angles", c, circ("14", "2", "144"), api.Crosses},
		{"the middle of one on the other", c, circ("4", "6", "1"), api.Crosses},
		{"it juts out", c, circ("4", "2", "5"), api.Crosses},
		{"it leans", c, circ("4", "2", "4"), api.Leans},
		{"it leans askew", c, circ("11/5", "18/5", "9"), api.Leans},
		{"it leans, all but as great", c, circ("1000001/1000000", "2", "24999990000001/1000000000000"), api.Leans},
		{"within", c, circ("2", "2", "4"), api.Within},
		{"one middle", c, circ("1", "2", "24"), api.Within},
		{"all but leaning", c, circ("3999999/1000000", "2", "4"), api.Within},
		{"radii that are no fractions: they touch", root2, circ("3", "3", "8"), api.Touches},
		{"radii that are no fractions: it leans", root2, circ("-1", "1", "8"), api.Leans},
		{"radii that are no fractions: they cross", root2, circ("2", "2", "3"), api.Crosses},
		{"radii that are no fractions: apart", root2, circ("3", "3", "7"), api.Outside},
		{"radii that are no fractions: within", root2, circ("1", "1", "9"), api.Within},
	} {
		same(t, x.what, must[int](t, x.what)(Lie(x.c, x.d)), x.want)
		same(t, x.what, must[int](t, x.what)(Lie(x.d, x.c)), x.want)
	}
}

func TestSquare(t *testing.T) {
	c := circ("1", "2", "25")
	for _, x := range []struct {
		what string
		d    api.C
		want bool
	}{
		{"level", circ("14", "2", "144"), true},
		{"askew", circ("7", "10", "75"), true},
		{"fractions", circ("1", "15/2", "21/4"), true},
		{"all but", circ("14", "2", "144000001/1000000"), false},
		{"they cross otherwise", circ("6", "2", "25"), false},
		{"they touch", circ("11", "2", "25"), false},
		{"it leans", circ("4", "2", "4"), false},
		{"the same", c, false},
		{"one middle", circ("1", "2", "24"), false},
	} {
		same(t, x.what, must[bool](t, x.what)(Square(c, x.d)), x.want)
		same(t, x.what, must[bool](t, x.what)(Square(x.d, c)), x.want)
	}
}

func TestFar(t *testing.T) {
	for _, x := range []struct {
		what string
		a, b api.P
		k    api.Q
		want api.C
	}{
		{"twice as far", pt("0", "0"), pt("3", "0"), "4", circ("4", "0", "4")},
		{"half as far", pt("0", "0"), pt("3", "0"), "1/4", circ("-1", "0", "4")},
		{"the other way", pt("3", "0"), pt("0", "0"), "4", circ("-1", "0", "4")},
		{"the square root of 2 as far", pt("1", "2"), pt("3", "-1"), "2", circ("5", "-4", "26")},
		{"fractions", pt("1/2", "0"), pt("0", "1/3"), "1/9", circ("9/16", "-1/24", "13/256")},
		{"all but as far", pt("0", "0"), pt("0", "1"), "1000001/1000000", circ("0", "1000001", "1000001000000")},
		{"all but at b", pt("0", "0"), pt("1", "0"), "1000001", circ("1000001/1000000", "0", "1000001/1000000000000")},
		{"what is no fraction is 0", pt("x", "1/0"), pt("03", "-"), "08/2", circ("4", "0", "4")},
	} {
		same(t, x.what, must[api.C](t, x.what)(Far(x.a, x.b, x.k)), x.want)
	}
	for _, k := range []api.Q{"0", "", "x", "1/0", "-1", "-1/2", "-4", "1", "01", "7/7", "+2"} {
		refused[api.C](t, "k", api.ErrValue)(Far(pt("0", "0"), pt("3", "0"), k))
	}
	for _, k := range []api.Q{"4", "1/4", "1", "0", "-1", "x"} {
		refused[api.C](t, "a is b", api.ErrFlat)(Far(pt("1/2", "3"), pt("2/4", "03"), k))
	}
}

func TestGreatLength(t *testing.T) {
	noughts := strings.Repeat("0", 2000)
	great, half, square := api.Q("4"+noughts), api.Q("2"+noughts), api.Q("4"+noughts+noughts)
	c := circ("0", "0", square)
	same(t, "through", must[api.C](t, "through")(Through(pt(half, "0"), pt("0", half), pt("-"+half, "0"))), c)
	same(t, "power", must[api.Q](t, "power")(Power(c, pt("0", great))), api.Q("12"+noughts+noughts))
	same(t, "axis", must[api.L](t, "axis")(Axis(c, circ(great, "0", square))), ln("1", "0", "-"+half))
	same(t, "chord", must[chord](t, "chord")(chordOf(c, ln("0", "1", "-"+half))), chord{pt("0", half), "0"})
	same(t, "touch", must[api.L](t, "touch")(Touch(c, pt(half, "0"))), ln("1", "0", "-"+half))
	same(t, "pole", must[api.P](t, "pole")(Pole(c, ln("1", "0", "-1"))), pt(square, "0"))
	same(t, "second", must[api.P](t, "second")(Second(c, pt(half, "0"), pt("0", half))), pt("0", half))
	same(t, "lie", must[int](t, "lie")(Lie(c, circ(great, "0", square))), api.Touches)
	nines := api.Q(strings.Repeat("9", 1999))
	same(t, "all but touching", must[int](t, "lie")(Lie(c, circ("4"+api.Q(noughts[1:])+"1", "0", square))), api.Outside)
	same(t, "all but apart", must[int](t, "lie")(Lie(c, circ("3"+nines+"9", "0", square))), api.Crosses)
	same(t, "it leans", must[int](t, "lie")(Lie(c, circ("1"+nines+"9", "0", "1"))), api.Leans)
	same(t, "all but leaning", must[int](t, "lie")(Lie(c, circ("1"+nines+"8", "0", "1"))), api.Within)
	same(t, "far", must[api.C](t, "far")(Far(pt("0", "0"), pt("3"+api.Q(noughts), "0"), "4")), circ(great, "0", square))
}
