package conic

import (
	"strings"
	"testing"

	"compass/api"
)

// rim is the circle of radius 1 around the origin.
func rim() api.K { return api.K{"1", "0", "1", "0", "0", "-1"} }

// bowl is y = x x.
func bowl() api.K { return api.K{"1", "0", "0", "0", "-1", "0"} }

// overX is x y = 1.
func overX() api.K { return api.K{"0", "1", "0", "0", "0", "-1"} }

// crossing is x x = y y: two lines that cross at the origin.
func crossing() api.K { return api.K{"1", "0", "-1", "0", "0", "0"} }

// noConics: what is handed in as a conic and is none.
func noConics() []api.K {
	return []api.K{
		{}, {"0", "0", "0", "0", "0", "0"}, {"0", "0", "0", "0", "0", "1"}, {"-0", "0/3", "00", "x", "1/0", "-7/2"}, {"+1", "", "--1", "1.5", " 1", "3"},
	}
}

func TestWhatIsNoConic(t *testing.T) {
	for _, k := range noConics() {
		refused[api.K](t, "plain", api.ErrFlat)(Plain(k))
		refused[int](t, "kind", api.ErrFlat)(Kind(k))
		refused[api.P](t, "centre", api.ErrFlat)(Centre(k))
		for _, p := range []api.P{origin(), pt("1", "-2/3")} {
			refused[int](t, "side", api.ErrFlat)(Side(k, p))
			refused[api.L](t, "polar", api.ErrFlat)(Polar(k, p))
			refused[api.L](t, "touch", api.ErrFlat)(Touch(k, p))
			refused[api.L](t, "middles", api.ErrFlat)(Middles(k, p))
			refused[api.P](t, "second", api.ErrFlat)(Second(k, p, pt("1", "0")))
			refused[api.P](t, "second", api.ErrFlat)(Second(k, pt("1", "0"), p))
			refused[api.K](t, "pencil", api.ErrFlat)(Pencil(k, rim(), p))
			refused[api.K](t, "pencil", api.ErrFlat)(Pencil(rim(), k, p))
			refused[api.K](t, "pencil", api.ErrFlat)(Pencil(k, k, p))
		}
	}
}

func TestPlain(t *testing.T) {
	for _, x := range []struct {
		what    string
		k, want api.K
	}{
		{"already", rim(), rim()},
		{"of one product", api.K{"0", "-1/2", "0", "0", "0", "3"}, api.K{"0", "1", "0", "0", "0", "-6"}},
		{"a common divisor", api.K{"4", "0", "-6", "8", "0", "10"}, api.K{"2", "0", "-3", "4", "0", "5"}},
		{"fractions", api.K{"1/2", "1/3", "1/4", "1/5", "1/6", "1/7"}, api.K{"210", "140", "105", "84", "70", "60"}},
		{"the first below 0", api.K{"-1/3", "2", "0", "0", "0", "0"}, api.K{"1", "-6", "0", "0", "0", "0"}},
		{"of squares of y", api.K{"0", "0", "-2", "4", "-6", "8"}, api.K{"0", "0", "1", "-2", "3", "-4"}},
		{"a line to the right", api.K{"0", "0", "0", "-5", "0", "10"}, api.K{"0", "0", "0", "1", "0", "-2"}},
		{"a line up", api.K{"0", "0", "0", "0", "-1/5", "1"}, api.K{"0", "0", "0", "0", "1", "-5"}},
		{"what is no fraction is 0", api.K{"x", "1/0", "06/4", "+1", "", "-0"}, api.K{"0", "0", "1", "0", "0", "0"}},
	} {
		same(t, x.what, must[api.K](t, x.what)(Plain(x.k)), x.want)
	}
}

func TestThrough(t *testing.T) {
	for _, x := range []struct {
		what string
		l    [5]api.P
		want api.K
	}{
		{"the document's", [5]api.P{pt("1", "0"), pt("0", "1"), pt("-1", "0"), pt("0", "-1"), pt("3/5", "4/5")}, rim()},
		{"a bowl", [5]api.P{pt("0", "0"), pt("1", "1"), pt("-1", "1"), pt("2", "4"), pt("1/2", "1/4")}, bowl()},
		{"one over", [5]api.P{pt("1", "1"), pt("2", "1/2"), pt("-1", "-1"), pt("1/3", "3"), pt("-4", "-1/4")}, overX()},
		{"three on a line", [5]api.P{pt("0", "0"), pt("1", "0"), pt("5", "0"), pt("0", "1"), pt("1", "3")}, api.K{"0", "2", "-1", "0", "1", "0"}},
		{"two lines that share a point of them", [5]api.P{pt("0", "0"), pt("1", "1"), pt("2", "2"), pt("1", "-1"), pt("3", "-3")}, crossing()},
		{"two lines beside each other", [5]api.P{pt("0", "0"), pt("1", "0"), pt("2", "0"), pt("0", "1"), pt("7", "1")}, api.K{"0", "0", "1", "0", "-1", "0"}},
		{"askew", [5]api.P{pt("0", "0"), pt("1", "0"), pt("0", "1"), pt("1", "2"), pt("2", "1")}, api.K{"1", "-1", "1", "-1", "-1", "0"}},
		{"what is no fraction is 0", [5]api.P{pt("01", "x"), pt("1/0", "2/2"), pt("-1", ""), pt("+3", "-1"), pt("3/5", "8/10")}, rim()},
	} {
		for i := range x.l {
			// Whichever is the first: the answer is the same.
			l := x.l
			for j := range l {
				l[j] = x.l[(i+j)%5]
			}
			same(t, x.what, must[api.K](t, x.what)(Through(l)), x.want)
			l[1], l[3] = l[3], l[1]
			same(t, x.what, must[api.K](t, x.what)(Through(l)), x.want)
		}
	}
}

func TestThroughThatIsFree(t *testing.T) {
	refused[api.K](t, "all are one", api.ErrFree)(Through([5]api.P{}))
	apart := [5]api.P{pt("1", "0"), pt("0", "1"), pt("-1", "0"), pt("0", "-1"), pt("3/5", "4/5")}
	for i := range apart {
		for j := range i {
			l := apart
			l[i] = pt(l[j].X, "00"+l[j].Y)
			if l[j].Y == "-1" {
				l[i] = pt("0/7", "-2/2")
			}
			refused[api.K](t, "two are one", api.ErrFree)(Through(l))
		}
		l := [5]api.P{pt("0", "1"), pt("1", "3"), pt("-1/2", "0"), pt("5", "11"), pt("100", "201")}
		l[i] = pt("7", "7")
		refused[api.K](t, "four on a line", api.ErrFree)(Through(l))
	}
	refused[api.K](t, "five on a line", api.ErrFree)(Through([5]api.P{pt("0", "1"), pt("1", "3"), pt("-1/2", "0"), pt("5", "11"), pt("100", "201")}))
}

func TestSide(t *testing.T) {
	for _, x := range []struct {
		what string
		k    api.K
		p    api.P
		want int
	}{
		{"within", rim(), origin(), -1},
		{"on it", rim(), pt("3/5", "-4/5"), 0},
		{"outside", rim(), pt("1", "1/1000000"), 1},
		{"within, of the plain form", api.K{"-1", "0", "-1", "0", "0", "1"}, origin(), -1},
		{"outside, of the plain form", api.K{"-1/3", "0", "-1/3", "0", "0", "1/3"}, pt("2", "0"), 1},
		{"above a bowl", bowl(), pt("0", "1"), -1},
		{"below a bowl", bowl(), pt("0", "-1"), 1},
		{"of one product, below 0", api.K{"0", "-2", "0", "0", "0", "0"}, pt("1", "-3"), -1},
		{"of squares of y, below 0", api.K{"0", "0", "-2", "1", "0", "0"}, pt("0", "5"), 1},
		{"of a line, below 0", api.K{"0", "0", "0", "-2", "0", "1"}, pt("1", "7"), 1},
		{"of a level line, below 0", api.K{"0", "0", "0", "0", "-1", "1"}, pt("4", "3"), 1},
		{"all of it", api.K{"1", "2", "3", "4", "5", "6"}, pt("-1/2", "-1"), 1},
		{"all of it, to 0", api.K{"1", "2", "3", "4", "5", "11/4"}, pt("-1/2", "-1"), 0},
		{"what is no fraction is 0", api.K{"1/0", "x", "", "03/3", "-0", "+9"}, pt("-2", "y"), -1},
	} {
		same(t, x.what, must[int](t, x.what)(Side(x.k, x.p)), x.want)
	}
}

func TestPolar(t *testing.T) {
	for _, x := range []struct {
		what string
		k    api.K
		p    api.P
		want api.L
	}{
		{"outside", rim(), pt("2", "0"), ln("2", "0", "-1")},
		{"within", rim(), pt("0", "-1/3"), ln("0", "1", "3")},
		{"on it", rim(), pt("-3/5", "4/5"), ln("3", "-4", "5")},
		{"above a bowl", bowl(), pt("0", "1"), ln("0", "1", "1")},
		{"below a bowl", bowl(), pt("1", "0"), ln("2", "-1", "0")},
		{"one over", overX(), pt("1", "3"), ln("3", "1", "-2")},
		{"one over, of its middle's neighbour", overX(), pt("0", "1/5"), ln("1", "0", "-10")},
		{"of two lines", crossing(), pt("2", "1"), ln("2", "-1", "0")},
		{"of a line, not on it", api.K{"0", "0", "0", "1", "0", "-1"}, pt("5", "5"), ln("1", "0", "3")},
		{"of a line, on it", api.K{"0", "0", "0", "1", "0", "-1"}, pt("1", "5"), ln("1", "0", "-1")},
		{"of two lines beside each other", api.K{"1", "0", "0", "0", "0", "-1"}, pt("2", "9"), ln("2", "0", "-1")},
		{"of nothing at all", api.K{"1", "0", "1", "0", "0", "1"}, pt("1", "1"), ln("1", "1", "1")},
		{"all of it", api.K{"1", "2", "3", "4", "5", "6"}, pt("1", "-1"), ln("4", "1", "11")},
		{"not plain", api.K{"-1/2", "-1", "-3/2", "-2", "-5/2", "-3"}, pt("1", "-1"), ln("4", "1", "11")},
		{"what is no fraction is 0", api.K{"01", "x", "2/2", "1/0", "", "-1"}, pt("2", "+1"), ln("2", "0", "-1")},
	} {
		same(t, x.what, must[api.L](t, x.what)(Polar(x.k, x.p)), x.want)
	}
	for _, x := range []struct {
		what string
		k    api.K
		p    api.P
	}{
		{"of the middle", rim(), origin()},
		{"of another middle", api.K{"1", "0", "1", "-2", "4", "0"}, pt("1", "-02")},
		{"of a hyperbola's middle", overX(), pt("x", "1/0")},
		{"where two lines cross", crossing(), origin()},
		{"of one point", api.K{"1", "1", "1", "0", "0", "0"}, origin()},
		{"between two lines", api.K{"1", "0", "0", "0", "0", "-1"}, pt("0", "3")},
		{"on a line that is there twice", api.K{"1", "-2", "1", "0", "0", "0"}, pt("4", "4")},
		{"of nothing's middle", api.K{"1", "0", "1", "0", "0", "1"}, origin()},
	} {
		refused[api.L](t, x.what, api.ErrNone)(Polar(x.k, x.p))
	}
}

func TestTouch(t *testing.T) {
	for _, x := range []struct {
		what string
		k    api.K
		p    api.P
		want api.L
	}{
		{"a circle", rim(), pt("3/5", "4/5"), ln("3", "4", "-5")},
		{"a bowl", bowl(), pt("2", "4"), ln("4", "-1", "-4")},
		{"its bottom", bowl(), origin(), ln("0", "1", "0")},
		{"one over", overX(), pt("-1/2", "-2"), ln("4", "1", "4")},
		{"one of two lines", crossing(), pt("3", "-3"), ln("1", "1", "0")},
		{"one of two beside each other", api.K{"1", "0", "0", "0", "0", "-1"}, pt("-1", "9"), ln("1", "0", "1")},
		{"a line", api.K{"0", "0", "0", "-2", "4", "6"}, pt("3", "0"), ln("1", "-2", "-3")},
		{"all of it", api.K{"1", "2", "3", "4", "5", "-1"}, pt("1", "-1"), ln("4", "1", "-3")},
	} {
		if value(x.k, x.p).Sign() != 0 {
			t.Fatalf("%s: not on it", x.what)
		}
		same(t, x.what, must[api.L](t, x.what)(Touch(x.k, x.p)), x.want)
	}
	for _, p := range []api.P{origin(), pt("2", "0"), pt("3/5", "4/6"), pt("1", "1/1000000")} {
		refused[api.L](t, "not on it", api.ErrValue)(Touch(rim(), p))
	}
	refused[api.L](t, "a middle that isn't on it", api.ErrValue)(Touch(overX(), origin()))
	refused[api.L](t, "where two lines cross", api.ErrNone)(Touch(crossing(), origin()))
	refused[api.L](t, "one point", api.ErrNone)(Touch(api.K{"2", "0", "3", "-4", "0", "2"}, pt("1", "0")))
	refused[api.L](t, "a line that is there twice", api.ErrNone)(Touch(api.K{"1", "-2", "1", "0", "0", "0"}, pt("4", "4")))
}

func TestKind(t *testing.T) {
	for _, x := range []struct {
		what string
		k    api.K
		want int
	}{
		{"a circle", rim(), api.Ellipse},
		{"a circle, not plain", api.K{"-1/2", "0", "-1/2", "0", "0", "1/2"}, api.Ellipse},
		{"askew", api.K{"1", "-1", "1", "-1", "-1", "0"}, api.Ellipse},
		{"all but a bowl", api.K{"1", "0", "1/1000000", "0", "-1", "0"}, api.Ellipse},
		{"one over", overX(), api.Hyperbola},
		{"less than one over", api.K{"0", "1", "0", "0", "0", "1"}, api.Hyperbola},
		{"squares apart", api.K{"1", "0", "-1", "0", "0", "-1"}, api.Hyperbola},
		{"one square alone", api.K{"1", "1", "0", "0", "0", "-1"}, api.Hyperbola},
		{"all but a bowl, beyond", api.K{"1", "0", "-1/1000000", "0", "-1", "0"}, api.Hyperbola},
		{"a bowl", bowl(), api.Parabola},
		{"a bowl to the right", api.K{"0", "0", "-3", "1", "0", "5"}, api.Parabola},
		{"a bowl askew", api.K{"1", "2", "1", "1", "-1", "0"}, api.Parabola},
		{"two lines", crossing(), api.Lines},
		{"the lines of one over", api.K{"0", "1", "0", "0", "0", "0"}, api.Lines},
		{"two lines off the origin", api.K{"0", "1", "0", "-2", "-3", "6"}, api.Lines},
		{"one point", api.K{"1", "0", "1", "0", "0", "0"}, api.Lines},
		{"one point off the origin", api.K{"2", "0", "3", "-4", "0", "2"}, api.Lines},
		{"two beside each other", api.K{"1", "0", "0", "0", "0", "-1"}, api.Beside},
		{"one twice", api.K{"1", "-2", "1", "0", "0", "0"}, api.Beside},
		{"none", api.K{"1", "0", "0", "0", "0", "1"}, api.Beside},
		{"one line", api.K{"0", "0", "0", "1", "0", "0"}, api.Beside},
		{"one line askew", api.K{"0", "0", "0", "2", "-3", "1/2"}, api.Beside},
		{"nothing", api.K{"1", "0", "1", "0", "0", "1"}, api.Void},
		{"nothing, not plain", api.K{"-1", "0", "-1", "0", "0", "-1"}, api.Void},
		{"nothing, askew", api.K{"2", "1", "1", "0", "1", "1"}, api.Void},
		{"what is no fraction is 0", api.K{"02/2", "x", "1/0", "", "-1", "+3"}, api.Parabola},
	} {
		same(t, x.what, must[int](t, x.what)(Kind(x.k)), x.want)
	}
}

func TestCentre(t *testing.T) {
	for _, x := range []struct {
		what string
		k    api.K
		want api.P
	}{
		{"a circle", api.K{"1", "0", "1", "-2", "4", "0"}, pt("1", "-2")},
		{"one over", overX(), origin()},
		{"one over, shifted", api.K{"0", "-1", "0", "2", "3", "5"}, pt("3", "2")},
		{"two lines", api.K{"0", "1", "0", "-2", "-3", "6"}, pt("3", "2")},
		{"one point", api.K{"2", "0", "3", "-4", "0", "2"}, pt("1", "0")},
		{"askew", api.K{"1", "-1", "1", "-1", "-1", "0"}, pt("1", "1")},
		{"nothing", api.K{"2", "1", "1", "0", "1", "1"}, pt("1/7", "-4/7")},
		{"all of it", api.K{"1", "2", "3", "4", "5", "6"}, pt("-7/4", "-1/4")},
		{"what is no fraction is 0", api.K{"01", "x", "2/2", "1/0", "-03", ""}, pt("0", "3/2")},
	} {
		same(t, x.what, must[api.P](t, x.what)(Centre(x.k)), x.want)
	}
	for _, x := range []struct {
		what string
		k    api.K
	}{
		{"a bowl", bowl()},
		{"a bowl askew", api.K{"1", "2", "1", "1", "-1", "0"}},
		{"two beside each other", api.K{"1", "0", "0", "0", "0", "-1"}},
		{"one twice", api.K{"1", "-2", "1", "0", "0", "0"}},
		{"one line", api.K{"0", "0", "0", "1", "1", "0"}},
	} {
		refused[api.P](t, x.what, api.ErrNone)(Centre(x.k))
	}
}

func TestMiddles(t *testing.T) {
	for _, x := range []struct {
		what string
		k    api.K
		way  api.P
		want api.L
	}{
		{"a circle", rim(), pt("1", "1"), ln("1", "1", "0")},
		{"a circle, back", rim(), pt("-1/2", "-1/2"), ln("1", "1", "0")},
		{"a circle off the origin", api.K{"1", "0", "1", "-2", "4", "0"}, pt("0", "3"), ln("0", "1", "2")},
		{"an ellipse", api.K{"1", "0", "4", "0", "0", "-4"}, pt("2", "-1"), ln("1", "-2", "0")},
		{"a bowl, level", bowl(), pt("1", "0"), ln("1", "0", "0")},
		{"a bowl, upward", bowl(), pt("1", "3"), ln("2", "0", "-3")},
		{"one over, level", overX(), pt("5", "0"), ln("0", "1", "0")},
		{"one over", overX(), pt("1", "-2"), ln("2", "-1", "0")},
		{"two lines, along one", crossing(), pt("1", "1"), ln("1", "-1", "0")},
		{"two beside each other", api.K{"1", "0", "0", "0", "0", "-1"}, pt("1", "7"), ln("1", "0", "0")},
		{"nothing", api.K{"1", "0", "1", "-2", "0", "2"}, pt("1", "0"), ln("1", "0", "-1")},
		{"all of it", api.K{"1", "2", "3", "4", "5", "6"}, pt("1", "-1"), ln("0", "4", "1")},
		{"what is no fraction is 0", api.K{"01", "x", "2/2", "1/0", "4", ""}, pt("+1", "2/4"), ln("0", "1", "2")},
	} {
		same(t, x.what, must[api.L](t, x.what)(Middles(x.k, x.way)), x.want)
	}
	for _, x := range []struct {
		what string
		k    api.K
		way  api.P
	}{
		{"a bowl, straight up", bowl(), pt("0", "1")},
		{"two beside each other, along them", api.K{"1", "0", "0", "0", "0", "-1"}, pt("0", "-2")},
		{"one twice, along it", api.K{"1", "-2", "1", "0", "0", "0"}, pt("1/3", "1/3")},
		{"one line, along it", api.K{"0", "0", "0", "1", "-1", "0"}, pt("1", "1")},
		{"one line, across", api.K{"0", "0", "0", "1", "-1", "0"}, pt("1", "0")},
	} {
		refused[api.L](t, x.what, api.ErrNone)(Middles(x.k, x.way))
	}
	for _, way := range []api.P{{}, origin(), pt("-0", "0/5"), pt("x", "1/0")} {
		for _, k := range append(noConics(), rim(), bowl(), crossing()) {
			refused[api.L](t, "no way", api.ErrFlat)(Middles(k, way))
		}
	}
}

func TestSecond(t *testing.T) {
	for _, x := range []struct {
		what         string
		k            api.K
		p, way, want api.P
	}{
		{"a circle", rim(), pt("-1", "0"), pt("1", "1/2"), pt("3/5", "4/5")},
		{"a circle, from there", rim(), pt("3/5", "4/5"), pt("-2", "-1"), pt("-1", "0")},
		{"a circle, touched", rim(), pt("3/5", "4/5"), pt("-4", "3"), pt("3/5", "4/5")},
		{"a bowl", bowl(), pt("1", "1"), pt("1", "1"), origin()},
		{"a bowl, steep", bowl(), pt("1", "1"), pt("1", "1000"), pt("999", "998001")},
		{"a bowl, touched", bowl(), pt("2/2", "01"), pt("1", "2"), pt("1", "1")},
		{"one over, to the other branch", overX(), pt("1", "1"), pt("1", "2"), pt("-1/2", "-2")},
		{"one over, on this branch", overX(), pt("1", "1"), pt("1", "-3"), pt("1/3", "3")},
		{"from line to line", crossing(), pt("2", "2"), pt("0", "1"), pt("2", "-2")},
		{"where two lines cross", crossing(), origin(), pt("0", "1"), origin()},
		{"one point", api.K{"2", "0", "3", "-4", "0", "2"}, pt("1", "0"), pt("3", "7"), pt("1", "0")},
		{"between two beside each other", api.K{"1", "0", "0", "0", "0", "-1"}, pt("1", "5"), pt("2", "3"), pt("-1", "2")},
		{"one twice, across", api.K{"1", "-2", "1", "0", "0", "0"}, pt("4", "4"), pt("0", "1"), pt("4", "4")},
		{"all of it", api.K{"1", "2", "3", "4", "5", "-1"}, pt("1", "-1"), pt("0", "2"), pt("1", "-4/3")},
		{"what is no fraction is 0", api.K{"01", "x", "2/2", "1/0", "", "-1"}, pt("-1", "+7"), pt("1", "2/4"), pt("3/5", "4/5")},
	} {
		same(t, x.what, must[api.P](t, x.what)(Second(x.k, x.p, x.way)), x.want)
	}
}

func TestSecondThatIsNone(t *testing.T) {
	line := api.K{"0", "0", "0", "1", "-1", "0"}
	for _, x := range []struct {
		what   string
		k      api.K
		p, way api.P
		want   api.Errno
	}{
		{"a bowl, straight up", bowl(), origin(), pt("0", "1"), api.ErrNone},
		{"a bowl, straight down", bowl(), pt("2", "4"), pt("0", "-1/9"), api.ErrNone},
		{"one over, level", overX(), pt("1", "1"), pt("1", "0"), api.ErrNone},
		{"two lines, beside one of them", crossing(), pt("2", "2"), pt("1", "-1"), api.ErrNone},
		{"one line, across", line, pt("3", "3"), pt("1", "2"), api.ErrNone},
		{"two lines, along one", crossing(), pt("2", "2"), pt("1", "1"), api.ErrFree},
		{"two lines, from where they cross", crossing(), origin(), pt("-3", "3"), api.ErrFree},
		{"two beside each other, along one", api.K{"1", "0", "0", "0", "0", "-1"}, pt("-1", "5"), pt("0", "4"), api.ErrFree},
		{"one twice, along it", api.K{"1", "-2", "1", "0", "0", "0"}, pt("4", "4"), pt("1", "1"), api.ErrFree},
		{"one line, along it", line, pt("3", "3"), pt("1", "1"), api.ErrFree},
		{"not on it", rim(), pt("1", "1"), pt("1", "0"), api.ErrValue},
		{"the middle", rim(), origin(), pt("1", "0"), api.ErrValue},
		{"beside a bowl, straight up", bowl(), pt("0", "1"), pt("0", "1"), api.ErrValue},
		{"beside a line, along it", line, pt("3", "2"), pt("1", "1"), api.ErrValue},
		{"no way, on it", rim(), pt("1", "0"), origin(), api.ErrFlat},
		{"no way, not on it", rim(), pt("1", "1"), pt("x", "1/0"), api.ErrFlat},
	} {
		refused[api.P](t, x.what, x.want)(Second(x.k, x.p, x.way))
	}
	for _, k := range noConics() {
		refused[api.P](t, "no conic, no way", api.ErrFlat)(Second(k, origin(), origin()))
	}
}

func TestPencil(t *testing.T) {
	axes := api.K{"0", "1", "0", "0", "0", "0"}
	for _, x := range []struct {
		what string
		a, b api.K
		p    api.P
		want api.K
	}{
		{"a circle and the axes", rim(), axes, pt("1", "1"), api.K{"1", "-1", "1", "0", "0", "-1"}},
		{"the other way round", axes, rim(), pt("1", "1"), api.K{"1", "-1", "1", "0", "0", "-1"}},
		{"p on the first", rim(), axes, pt("3/5", "4/5"), rim()},
		{"p on the second", rim(), axes, pt("0", "7"), axes},
		{"circles around one middle", rim(), api.K{"1", "0", "1", "0", "0", "-4"}, pt("3", "0"), api.K{"1", "0", "1", "0", "0", "-9"}},
		{"circles around one middle, through it", rim(), api.K{"1", "0", "1", "0", "0", "-4"}, origin(), api.K{"1", "0", "1", "0", "0", "0"}},
		{"two circles, in their axis", rim(), api.K{"1", "0", "1", "-2", "0", "0"}, pt("1/2", "5"), api.K{"0", "0", "0", "2", "0", "-1"}},
		{"two lines", api.K{"0", "0", "0", "1", "0", "0"}, api.K{"0", "0", "0", "0", "1", "0"}, pt("2", "3"), api.K{"0", "0", "0", "3", "-2", "0"}},
		{"lines beside each other", api.K{"0", "0", "0", "1", "0", "0"}, api.K{"0", "0", "0", "1", "0", "-1"}, pt("5", "8"), api.K{"0", "0", "0", "1", "0", "-5"}},
		{"a bowl and a line", bowl(), api.K{"0", "0", "0", "0", "-1/2", "1/2"}, origin(), bowl()},
		{"one of nothing at all", rim(), api.K{"1", "0", "1", "0", "0", "1"}, pt("2", "0"), api.K{"1", "0", "1", "0", "0", "-4"}},
		{"not plain", api.K{"-1/2", "0", "-1/2", "0", "0", "1/2"}, api.K{"0", "-7", "0", "0", "0", "0"}, pt("1", "1"), api.K{"1", "-1", "1", "0", "0", "-1"}},
		{"what is no fraction is 0", api.K{"01", "x", "2/2", "1/0", "", "-1"}, api.K{"+1", "-3", "", "", "", "y"}, pt("1", "01"), api.K{"1", "-1", "1", "0", "0", "-1"}},
	} {
		same(t, x.what, must[api.K](t, x.what)(Pencil(x.a, x.b, x.p)), x.want)
	}
	for _, x := range []struct {
		what string
		a, b api.K
		p    api.P
	}{
		{"both are one", rim(), rim(), pt("5", "5")},
		{"both are one, not plain", rim(), api.K{"-2/3", "0", "-2/3", "0", "0", "2/3"}, origin()},
		{"both are one, p on it", rim(), rim(), pt("1", "0")},
		{"p on both", rim(), axes, pt("0", "1")},
		{"p on both lines", api.K{"0", "0", "0", "1", "0", "-2"}, api.K{"0", "0", "0", "0", "1", "-3"}, pt("2", "3")},
		{"p where both touch", bowl(), api.K{"0", "0", "0", "0", "1", "0"}, origin()},
	} {
		refused[api.K](t, x.what, api.ErrFree)(Pencil(x.a, x.b, x.p))
	}
}

func TestGreatLength(t *testing.T) {
	noughts := api.Q(strings.Repeat("0", 1500))
	great, square := "1"+noughts, "1"+noughts+noughts
	wide := api.K{"1", "0", "1", "0", "0", "-" + square}
	same(t, "plain", must[api.K](t, "plain")(Plain(api.K{"1/" + square, "0", "1/" + square, "0", "0", "-1"})), wide)
	same(t, "through", must[api.K](t, "through")(Through([5]api.P{pt(great, "0"), pt("0", great), pt("-"+great, "0"), pt("0", "-"+great), pt("6"+noughts[1:], "8"+noughts[1:])})), wide)
	same(t, "side", must[int](t, "side")(Side(wide, pt(great, "1/"+great))), 1)
	same(t, "polar", must[api.L](t, "polar")(Polar(wide, pt("1", "0"))), ln("1", "0", "-"+square))
	same(t, "touch", must[api.L](t, "touch")(Touch(wide, pt("0", great))), ln("0", "1", "-"+great))
	same(t, "kind", must[int](t, "kind")(Kind(api.K{"1", "0", "-1/" + square, "0", "-1", "0"})), api.Hyperbola)
	same(t, "centre", must[api.P](t, "centre")(Centre(api.K{"1", "0", "1", "-2" + noughts, "4/" + great, "0"})), pt(great, "-1/5"+noughts[1:]))
	same(t, "middles", must[api.L](t, "middles")(Middles(bowl(), pt("1", "2"+noughts))), ln("1", "0", "-"+great))
	same(t, "second", must[api.P](t, "second")(Second(bowl(), origin(), pt("1", great))), pt(great, square))
	same(t, "pencil", must[api.K](t, "pencil")(Pencil(rim(), api.K{"1", "0", "1", "0", "0", "0"}, pt("0", great))), wide)
}
