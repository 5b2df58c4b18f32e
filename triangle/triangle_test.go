package triangle

import (
	"math"
	"strings"
	"testing"

	"compass/api"
)

// flat: what is handed in as a triangle and is none.
func flat() [][3]api.P {
	return [][3]api.P{
		{},
		tri("0", "0", "1", "1", "2", "2"),
		tri("1", "2", "1", "2", "5", "7"),
		tri("1", "2", "5", "7", "1", "2"),
		tri("5", "7", "1", "2", "1", "2"),
		tri("1/2", "3", "02/4", "6/2", "3/6", "03"),
		tri("-1/3", "7", "9", "7", "1000000000000000000000", "7"),
		tri("x", "1", "1/0", "2", "-0", "3"),
		tri("0", "0", "1", "+1", "2", "1/-2"),
		tri("1/3", "1/5", "1/3", "-2", "1/3", "77"),
	}
}

func TestWhatIsNoTriangle(t *testing.T) {
	// Each call is given what would be refused for another reason, too.
	for _, x := range flat() {
		refused[[3]api.Q](t, "sides", api.ErrFlat)(Sides(x))
		for _, which := range []int{api.Mass, api.Around, api.Heights, api.Nine, api.Lemoine, 0, 6, -1, math.MaxInt, math.MinInt} {
			refused[api.P](t, "centre", api.ErrFlat)(Centre(x, which))
		}
		for _, p := range []api.P{{}, pt("1", "2"), pt("7", "-1/3"), x[0], x[1], x[2]} {
			refused[[3]api.Q](t, "weights", api.ErrFlat)(Weights(x, p))
			refused[[3]api.P](t, "feet", api.ErrFlat)(Feet(x, p))
			refused[[3]api.P](t, "rays", api.ErrFlat)(Rays(x, p))
			refused[api.P](t, "isogonal", api.ErrFlat)(Isogonal(x, p))
			refused[api.P](t, "isotomic", api.ErrFlat)(Isotomic(x, p))
		}
		for _, w := range [][3]api.Q{{}, {"1", "1", "1"}, {"1", "-1", "0"}} {
			refused[api.P](t, "weigh", api.ErrFlat)(Weigh(x, w))
		}
		refused[api.C](t, "circle", api.ErrFlat)(Circle(x, false))
		refused[api.C](t, "nine", api.ErrFlat)(Circle(x, true))
	}
}

func TestSides(t *testing.T) {
	for _, c := range []struct {
		what string
		x    [3]api.P
		want [3]api.Q
	}{
		{"each across its corner", tri("0", "0", "4", "0", "0", "3"), [3]api.Q{"25", "9", "16"}},
		{"with the clock", tri("0", "0", "0", "3", "4", "0"), [3]api.Q{"25", "16", "9"}},
		{"from another corner", tri("4", "0", "0", "3", "0", "0"), [3]api.Q{"9", "16", "25"}},
		{"away from the origin", tri("-5", "7", "-1", "7", "-5", "10"), [3]api.Q{"25", "9", "16"}},
		{"fractions", tri("1/2", "0", "0", "1/3", "0", "0"), [3]api.Q{"1/9", "1/4", "13/36"}},
		{"as good as flat", tri("0", "0", "1", "0", "2", "1/1000000000000"), [3]api.Q{"1000000000000000000000001/1000000000000000000000000", "4000000000000000000000001/1000000000000000000000000", "1"}},
		{"what is no fraction is 0", tri("x", "1/0", "04", "", "-0", "3"), [3]api.Q{"25", "9", "16"}},
	} {
		same(t, c.what, must[[3]api.Q](t, c.what)(Sides(c.x)), c.want)
	}
}

func TestCentre(t *testing.T) {
	for _, c := range []struct {
		what string
		x    [3]api.P
		// in the order of package api, Mass first.
		want [5]api.P
	}{
		{"the document's", tri("0", "0", "4", "0", "0", "3"), [5]api.P{pt("4/3", "1"), pt("2", "3/2"), pt("0", "0"), pt("1", "3/4"), pt("18/25", "24/25")}},
		{"with the clock", tri("0", "3", "4", "0", "0", "0"), [5]api.P{pt("4/3", "1"), pt("2", "3/2"), pt("0", "0"), pt("1", "3/4"), pt("18/25", "24/25")}},
		{"acute", tri("0", "0", "4", "0", "1", "3"), [5]api.P{pt("5/3", "1"), pt("2", "1"), pt("1", "1"), pt("3/2", "1"), pt("14/11", "12/11")}},
		{"obtuse", tri("0", "0", "6", "0", "-2", "2"), [5]api.P{pt("4/3", "2/3"), pt("3", "5"), pt("-2", "-8"), pt("1/2", "-3/2"), pt("-3/14", "9/14")}},
		{"two sides alike", tri("-1", "0", "1", "0", "0", "2"), [5]api.P{pt("0", "2/3"), pt("0", "3/4"), pt("0", "1/2"), pt("0", "5/8"), pt("0", "4/7")}},
		{"fractions", tri("1/2", "1/3", "-1/2", "1/3", "1/2", "-2/3"), [5]api.P{pt("1/6", "0"), pt("0", "-1/6"), pt("1/2", "1/3"), pt("1/4", "1/12"), pt("1/4", "1/12")}},
	} {
		for i, want := range c.want {
			same(t, c.what, must[api.P](t, c.what)(Centre(c.x, i+1)), want)
		}
	}
	for _, which := range []int{0, 6, -1, -5, 7, math.MaxInt, math.MinInt} {
		refused[api.P](t, "another", api.ErrWho)(Centre(tri("0", "0", "4", "0", "0", "3"), which))
	}
}

func TestWeights(t *testing.T) {
	x := tri("0", "0", "4", "0", "0", "3")
	for _, c := range []struct {
		what string
		x    [3]api.P
		p    api.P
		want [3]api.Q
	}{
		{"inside", x, pt("1", "1"), [3]api.Q{"5/12", "1/4", "1/3"}},
		{"with the clock", tri("0", "0", "0", "3", "4", "0"), pt("1", "1"), [3]api.Q{"5/12", "1/3", "1/4"}},
		{"outside", x, pt("-4", "3"), [3]api.Q{"1", "-1", "1"}},
		{"first corner", x, pt("0", "0"), [3]api.Q{"1", "0", "0"}},
		{"second corner", x, pt("4", "0"), [3]api.Q{"0", "1", "0"}},
		{"third corner", x, pt("0", "3"), [3]api.Q{"0", "0", "1"}},
		{"middle of a side", x, pt("2", "0"), [3]api.Q{"1/2", "1/2", "0"}},
		{"beyond a side's end", x, pt("0", "-3"), [3]api.Q{"2", "0", "-1"}},
		{"away from the origin", tri("7", "-2", "11", "-2", "7", "1"), pt("8", "-1"), [3]api.Q{"5/12", "1/4", "1/3"}},
		{"what is no fraction is 0", x, pt("x", "3/0"), [3]api.Q{"1", "0", "0"}},
	} {
		same(t, c.what, must[[3]api.Q](t, c.what)(Weights(c.x, c.p)), c.want)
	}
}

func TestWeigh(t *testing.T) {
	x := tri("0", "0", "4", "0", "0", "3")
	for _, c := range []struct {
		what string
		w    [3]api.Q
		want api.P
	}{
		{"whole numbers", [3]api.Q{"1", "1", "2"}, pt("1", "3/2")},
		{"fractions", [3]api.Q{"1/4", "1/4", "1/2"}, pt("1", "3/2")},
		{"below 0", [3]api.Q{"-1", "-1", "-2"}, pt("1", "3/2")},
		{"outside", [3]api.Q{"1", "-1", "1"}, pt("-4", "3")},
		{"the second alone", [3]api.Q{"0", "7/3", "0"}, pt("4", "0")},
		{"what is no fraction is 0", [3]api.Q{"x", "1/0", "5"}, pt("0", "3")},
	} {
		same(t, c.what, must[api.P](t, c.what)(Weigh(x, c.w)), c.want)
	}
	for _, w := range [][3]api.Q{{"1", "1", "-2"}, {"0", "0", "0"}, {}, {"x", "1/0", "-"}, {"1/2", "1/3", "-5/6"}, {"-1", "0", "01"}} {
		refused[api.P](t, "nothing", api.ErrNone)(Weigh(x, w))
	}
}

func TestFeet(t *testing.T) {
	x := tri("0", "0", "4", "0", "0", "3")
	for _, c := range []struct {
		what string
		p    api.P
		want [3]api.P
	}{
		{"inside", pt("1", "1"), tri("8/5", "9/5", "0", "1", "1", "0")},
		{"outside", pt("4", "3"), tri("64/25", "27/25", "0", "3", "4", "0")},
		{"beyond a side's end", pt("-2", "-1/2"), tri("2/5", "27/10", "0", "-1/2", "-2", "0")},
		{"a corner", pt("0", "0"), tri("36/25", "48/25", "0", "0", "0", "0")},
		{"on a side", pt("2", "3/2"), tri("2", "3/2", "0", "3/2", "2", "0")},
		{"what is no fraction is 0", pt("1/0", ""), tri("36/25", "48/25", "0", "0", "0", "0")},
	} {
		same(t, c.what, must[[3]api.P](t, c.what)(Feet(x, c.p)), c.want)
	}
}

func TestRays(t *testing.T) {
	x := tri("0", "0", "4", "0", "0", "3")
	for _, c := range []struct {
		what string
		p    api.P
		want [3]api.P
	}{
		{"of the mean", pt("4/3", "1"), tri("2", "3/2", "0", "3/2", "2", "0")},
		{"inside", pt("1", "1"), tri("12/7", "12/7", "0", "4/3", "3/2", "0")},
		{"outside", pt("8", "6"), tri("2", "3/2", "0", "-6", "-8", "0")},
		{"on a side", pt("2", "0"), tri("4", "0", "0", "0", "2", "0")},
	} {
		same(t, c.what, must[[3]api.P](t, c.what)(Rays(x, c.p)), c.want)
	}
	for _, p := range []api.P{x[0], x[1], x[2], pt("-4", "3"), pt("4", "5"), pt("-7", "3"), pt("8", "3"), pt("8", "-6"), {}, pt("4", "x")} {
		refused[[3]api.P](t, "beside a side", api.ErrNone)(Rays(x, p))
	}
}

func TestIsogonalAndIsotomic(t *testing.T) {
	x := tri("0", "0", "4", "0", "0", "3")
	for _, c := range []struct {
		what string
		call func([3]api.P, api.P) (api.P, api.Errno)
		p    api.P
		want api.P
	}{
		{"the mean", Isogonal, pt("4/3", "1"), pt("18/25", "24/25")},
		{"and back", Isogonal, pt("18/25", "24/25"), pt("4/3", "1")},
		{"as far from all sides", Isogonal, pt("1", "1"), pt("1", "1")},
		{"as far from all sides, outside", Isogonal, pt("6", "6"), pt("6", "6")},
		{"inside", Isogonal, pt("2", "1/2"), pt("8/21", "32/21")},
		{"the mean", Isotomic, pt("4/3", "1"), pt("4/3", "1")},
		{"inside", Isotomic, pt("1", "1"), pt("80/47", "45/47")},
		{"a corner mirrored at its side's middle", Isotomic, pt("4", "3"), pt("4", "3")},
	} {
		same(t, c.what, must[api.P](t, c.what)(c.call(x, c.p)), c.want)
	}
	for _, p := range []api.P{x[0], x[1], x[2], pt("1", "0"), pt("-3", "0"), pt("0", "1/7"), pt("2", "3/2"), pt("8", "-3"), {}, pt("5", "1/0")} {
		refused[api.P](t, "isogonal of a side's point", api.ErrValue)(Isogonal(x, p))
		refused[api.P](t, "isotomic of a side's point", api.ErrValue)(Isotomic(x, p))
	}
	for _, p := range []api.P{pt("4", "3"), pt("-1/2", "3/2"), pt("2", "-1")} {
		refused[api.P](t, "isogonal of a point of the circle", api.ErrNone)(Isogonal(x, p))
		must[api.P](t, "isotomic of a point of the circle")(Isotomic(x, p))
	}
	for _, p := range []api.P{pt("8/3", "-1"), pt("-4/3", "2"), pt("8/3", "2")} {
		refused[api.P](t, "isotomic, beside", api.ErrNone)(Isotomic(x, p))
		must[api.P](t, "isogonal of these")(Isogonal(x, p))
	}
}

func TestCircle(t *testing.T) {
	for _, c := range []struct {
		what         string
		x            [3]api.P
		around, nine api.C
	}{
		{"the document's", tri("0", "0", "4", "0", "0", "3"), api.C{M: pt("2", "3/2"), R2: "25/4"}, api.C{M: pt("1", "3/4"), R2: "25/16"}},
		{"with the clock", tri("4", "0", "0", "0", "0", "3"), api.C{M: pt("2", "3/2"), R2: "25/4"}, api.C{M: pt("1", "3/4"), R2: "25/16"}},
		{"obtuse", tri("0", "0", "6", "0", "-2", "2"), api.C{M: pt("3", "5"), R2: "34"}, api.C{M: pt("1/2", "-3/2"), R2: "17/2"}},
		{"fractions", tri("1/2", "1/3", "-1/2", "1/3", "1/2", "-2/3"), api.C{M: pt("0", "-1/6"), R2: "1/2"}, api.C{M: pt("1/4", "1/12"), R2: "1/8"}},
		{"what is no fraction is 0", tri("x", "", "04", "1/0", "-0", "6/2"), api.C{M: pt("2", "3/2"), R2: "25/4"}, api.C{M: pt("1", "3/4"), R2: "25/16"}},
	} {
		same(t, c.what, must[api.C](t, c.what)(Circle(c.x, false)), c.around)
		same(t, c.what, must[api.C](t, c.what)(Circle(c.x, true)), c.nine)
	}
}

func TestGreatLength(t *testing.T) {
	noughts := strings.Repeat("0", 2000)
	great, half := api.Q("4"+noughts), api.Q("2"+noughts)
	x := tri("0", "0", great, "0", "0", great)
	same(t, "sides", must[[3]api.Q](t, "sides")(Sides(x))[0], api.Q("32"+noughts+noughts))
	same(t, "around", must[api.P](t, "around")(Centre(x, api.Around)), pt(half, half))
	same(t, "nine", must[api.C](t, "nine")(Circle(x, true)), api.C{M: pt(api.Q("1"+noughts), api.Q("1"+noughts)), R2: api.Q("2" + noughts + noughts)})
	same(t, "weights", must[[3]api.Q](t, "weights")(Weights(x, pt("1", half))), [3]api.Q{api.Q("1" + strings.Repeat("9", 2000) + "/" + string(great)), "1/" + great, "1/2"})
	same(t, "isotomic", must[api.P](t, "isotomic")(Isotomic(x, pt(api.Q("1"+noughts), half))), pt(api.Q("16"+noughts[1:]), api.Q("8"+noughts[1:])))
}
