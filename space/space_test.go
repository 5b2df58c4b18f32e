package space

import (
	"strings"
	"testing"

	"compass/api"
)

func origin() api.P3 { return pt("0", "0", "0") }

// flat: what is handed in as a plane and is none.
func flat() []api.E {
	return []api.E{{}, pl("0", "0", "0", "0"), pl("0", "0", "0", "1"), pl("-0", "000", "0/5", "-7/2"), pl("1/0", "-2/0", "00/0", "3"), pl("x", " 1", "1.5", "1"), pl("+1", "1/-2", "--1", "2"), pl("", "1/", "/1", ""), pl("1e3", "١", "0x1", "2")}
}

func TestWhatIsNoPlane(t *testing.T) {
	p, q := pt("1", "2", "3"), pt("0", "1", "0")
	x, y := pl("1", "0", "0", "-1"), pl("0", "1", "0", "2")
	for _, e := range flat() {
		what := strings.Join([]string{string(e.A), string(e.B), string(e.C), string(e.D)}, " ")
		refused[int](t, "side: "+what, api.ErrFlat)(Side(e, p))
		refused[api.P3](t, "foot: "+what, api.ErrFlat)(Foot(e, p))
		refused[api.P3](t, "pierce: "+what, api.ErrFlat)(Pierce(e, p, q))
		refused[api.P3](t, "pierce, one point: "+what, api.ErrFlat)(Pierce(e, p, p))
		refused[api.P3](t, "meet, first: "+what, api.ErrFlat)(Meet(e, x, y))
		refused[api.P3](t, "meet, second: "+what, api.ErrFlat)(Meet(x, e, y))
		refused[api.P3](t, "meet, third: "+what, api.ErrFlat)(Meet(x, y, e))
		refused[api.P3](t, "meet, all: "+what, api.ErrFlat)(Meet(e, e, e))
		// What else is wrong is told behind that.
		refused[api.P3](t, "meet, the others the same: "+what, api.ErrFlat)(Meet(x, x, e))
		refused[api.P3](t, "meet, the others beside each other: "+what, api.ErrFlat)(Meet(x, pl("1", "0", "0", "0"), e))
	}
}

func TestFar2(t *testing.T) {
	for _, x := range []struct {
		what string
		p, q api.P3
		want api.Q
	}{
		{"the test's", pt("1", "0", "0"), pt("1", "2", "2"), "8"},
		{"all differ", pt("1", "2", "3"), pt("3", "5", "9"), "49"},
		{"back", pt("3", "5", "9"), pt("1", "2", "3"), "49"},
		{"below 0", pt("-1", "-1", "-1"), pt("1", "-2", "3"), "21"},
		{"fractions", pt("1/2", "1/3", "1/4"), pt("0", "0", "0"), "61/144"},
		{"X alone", pt("-7/2", "4", "5"), pt("1/2", "4", "5"), "16"},
		{"Z alone", pt("1", "1", "1/3"), pt("1", "1", "-1/3"), "4/9"},
		{"one", pt("1/2", "-3", "4"), pt("02/4", "-3/1", "8/2"), "0"},
		{"zero values", api.P3{}, api.P3{}, "0"},
		{"what is no fraction is 0", pt("x", "1/0", " 5"), pt("3", "-4", "12"), "169"},
		{"a hair apart", pt("0", "0", "0"), pt("0", "0", "1/1000000000000"), "1/1000000000000000000000000"},
	} {
		same(t, x.what, Far2(x.p, x.q), x.want)
	}
}

func TestVolume(t *testing.T) {
	a, b, c := pt("1", "0", "0"), pt("0", "1", "0"), pt("0", "0", "1")
	for _, x := range []struct {
		what       string
		a, b, c, d api.P3
		want       api.Q
	}{
		{"the test's", origin(), a, b, c, "1"},
		{"two changed", origin(), b, a, c, "-1"},
		{"all go round", origin(), b, c, a, "1"},
		{"the first changed", a, origin(), b, c, "-1"},
		{"the first isn't the origin", pt("1", "1", "1"), pt("3", "1", "1"), pt("1", "4", "1"), pt("1", "1", "6"), "30"},
		{"all differ", pt("1", "0", "2"), pt("2", "3", "5"), pt("5", "4", "8"), pt("8", "8", "12"), "10"},
		{"fractions", origin(), pt("1/2", "1/3", "0"), pt("0", "1/5", "-1"), pt("7", "0", "1/7"), "-487/210"},
		{"on a plane", pt("1", "0", "0"), pt("0", "1", "0"), pt("0", "0", "1"), pt("1/3", "1/3", "1/3"), "0"},
		{"on a line", origin(), a, pt("2", "0", "0"), pt("-1/2", "0", "0"), "0"},
		{"one", a, a, a, a, "0"},
		{"zero values", api.P3{}, api.P3{}, api.P3{}, api.P3{}, "0"},
		{"what is no fraction is 0", pt("", "x", "1/0"), pt("2", "-", "+1"), pt("1/", "03", "2.0"), pt("--1", "/1", "4/2"), "12"},
		{"off the plane by a hair", origin(), a, b, pt("1", "1", "-1/1000000000000000000000"), "-1/1000000000000000000000"},
	} {
		same(t, x.what, Volume(x.a, x.b, x.c, x.d), x.want)
	}
}

func TestThrough(t *testing.T) {
	for _, x := range []struct {
		what    string
		a, b, c api.P3
		want    api.E
		wrong   api.Errno
	}{
		{"the test's", pt("1", "0", "0"), pt("0", "1", "0"), pt("0", "0", "1"), pl("1", "1", "1", "-1"), api.OK},
		{"the other way round", pt("0", "1", "0"), pt("1", "0", "0"), pt("0", "0", "1"), pl("1", "1", "1", "-1"), api.OK},
		{"all cut apart", pt("2", "0", "0"), pt("0", "-3", "0"), pt("0", "0", "1/2"), pl("3", "-2", "12", "-6"), api.OK},
		{"level", pt("1", "5", "-1/2"), pt("0", "7", "-2/4"), pt("3", "3", "-1/2"), pl("0", "0", "2", "1"), api.OK},
		{"on a line, level", pt("1", "5", "-1/2"), pt("0", "7", "-2/4"), pt("3", "1", "-1/2"), api.E{}, api.ErrFlat},
		{"upright, X alone", pt("1/3", "0", "0"), pt("1/3", "1", "0"), pt("1/3", "0", "1"), pl("3", "0", "0", "-1"), api.OK},
		{"upright, Y alone", pt("0", "-2", "0"), pt("0", "-2", "1"), pt("1", "-2", "0"), pl("0", "1", "0", "2"), api.OK},
		{"upright, slanted", pt("1", "0", "0"), pt("0", "1", "0"), pt("0", "1", "5"), pl("1", "1", "0", "-1"), api.OK},
		{"through the origin", origin(), pt("0", "1", "2"), pt("3", "0", "-1"), pl("1", "-6", "3", "0"), api.OK},
		{"around the X way", origin(), pt("1", "0", "0"), pt("0", "-1", "2"), pl("0", "2", "1", "0"), api.OK},
		{"fractions", pt("1/2", "0", "0"), pt("0", "1/3", "0"), pt("0", "0", "-1/5"), pl("2", "3", "-5", "-1"), api.OK},
		{"what is no fraction is 0", pt("x", "2", "0"), pt("0", "1/0", "2"), pt("2", "", "+5"), pl("1", "1", "1", "-2"), api.OK},
		{"on a line, through the origin", origin(), pt("1", "0", "0"), pt("2", "0", "0"), api.E{}, api.ErrFlat},
		{"on a line, slanted", pt("1", "2", "3"), pt("2", "4", "6"), pt("-1/2", "-1", "-3/2"), api.E{}, api.ErrFlat},
		{"on a line, away from the origin", pt("1", "1", "0"), pt("2", "3", "5"), pt("0", "-1", "-5"), api.E{}, api.ErrFlat},
		{"the first two one", pt("1", "2", "3"), pt("1", "4/2", "03"), pt("0", "0", "1"), api.E{}, api.ErrFlat},
		{"the last two one", pt("0", "0", "1"), pt("1", "2", "3"), pt("1", "4/2", "03"), api.E{}, api.ErrFlat},
		{"the first and the last one", pt("1", "2", "3"), pt("0", "0", "1"), pt("1", "4/2", "03"), api.E{}, api.ErrFlat},
		{"all one", pt("1", "2", "3"), pt("1", "2", "3"), pt("1", "2", "3"), api.E{}, api.ErrFlat},
		{"zero values", api.P3{}, api.P3{}, api.P3{}, api.E{}, api.ErrFlat},
		{"off the line by a hair", origin(), pt("1", "0", "0"), pt("2", "0", "1/1000000000000000000000"), pl("0", "1", "0", "0"), api.OK},
	} {
		answers(t, x.what, x.want, x.wrong)(Through(x.a, x.b, x.c))
	}
}

func TestSide(t *testing.T) {
	for _, x := range []struct {
		what string
		e    api.E
		p    api.P3
		want int
	}{
		{"the test's", pl("-1", "-1", "-1", "1"), origin(), -1},
		{"as it stands", pl("1", "1", "1", "-1"), origin(), -1},
		{"the other side", pl("-1", "-1", "-1", "1"), pt("1", "1", "0"), 1},
		{"on it", pl("1/2", "-1/3", "1", "-7"), pt("2", "-3", "5"), 0},
		{"A is 0", pl("0", "-2", "5", "6"), pt("9", "4", "0"), 1},
		{"A is 0, as it stands", pl("0", "2", "-5", "-6"), pt("9", "2", "0"), -1},
		{"A and B are 0", pl("0", "0", "-1/2", "1"), pt("9", "9", "3"), 1},
		{"A and B are 0, below", pl("0", "0", "-1/2", "1"), pt("9", "9", "1"), -1},
		{"A and B are 0, as it stands", pl("0", "0", "3", "1"), pt("-9", "-9", "0"), 1},
		{"B alone is below 0", pl("1", "-5", "0", "0"), pt("0", "1", "0"), -1},
		{"C alone is below 0", pl("1", "0", "-5", "0"), pt("0", "0", "1"), -1},
		{"D alone is below 0", pl("1", "1", "1", "-9"), pt("1", "1", "1"), -1},
		{"A alone is below 0", pl("-1", "5", "5", "5"), origin(), -1},
		{"by a hair", pl("1", "1", "-1", "0"), pt("1000000000000000000001", "1", "1000000000000000000001"), 1},
		{"what is no fraction is 0", pl("x", "-3", "1/0", "2"), pt("5", "", "5"), -1},
	} {
		answers(t, x.what, x.want, api.OK)(Side(x.e, x.p))
	}
}

func TestBetween(t *testing.T) {
	for _, x := range []struct {
		what  string
		p, q  api.P3
		want  api.E
		wrong api.Errno
	}{
		{"the test's", origin(), pt("0", "2", "0"), pl("0", "1", "0", "-1"), api.OK},
		{"slanted", origin(), pt("2", "4", "6"), pl("1", "2", "3", "-14"), api.OK},
		{"back", pt("2", "4", "6"), origin(), pl("1", "2", "3", "-14"), api.OK},
		{"around the origin", pt("3", "-1", "2"), pt("-3", "1", "-2"), pl("3", "-1", "2", "0"), api.OK},
		{"one above the other", pt("1/2", "1/3", "-1"), pt("1/2", "1/3", "0"), pl("0", "0", "2", "1"), api.OK},
		{"side by side", pt("1", "7", "9"), pt("2", "7", "9"), pl("2", "0", "0", "-3"), api.OK},
		{"fractions", pt("1/2", "0", "1"), pt("1/3", "1", "0"), pl("12", "-72", "72", "-5"), api.OK},
		{"what is no fraction is 0", pt("", "x", "+7"), pt("4", "1/0", "1/"), pl("1", "0", "0", "-2"), api.OK},
		{"one", pt("1", "2", "3"), pt("1", "2", "3"), api.E{}, api.ErrFlat},
		{"one, told twice", pt("3/6", "x", "-0"), pt("01/2", "0", "0/9"), api.E{}, api.ErrFlat},
		{"zero values", api.P3{}, api.P3{}, api.E{}, api.ErrFlat},
		{"a hair apart", origin(), pt("0", "0", "2/1000000000000000000000"), pl("0", "0", "1000000000000000000000", "-1"), api.OK},
	} {
		answers(t, x.what, x.want, x.wrong)(Between(x.p, x.q))
	}
}

func TestFoot(t *testing.T) {
	for _, x := range []struct {
		what    string
		e       api.E
		p, want api.P3
	}{
		{"the test's", pl("1", "1", "1", "-1"), origin(), pt("1/3", "1/3", "1/3")},
		{"not plain", pl("-1/7", "-1/7", "-1/7", "1/7"), origin(), pt("1/3", "1/3", "1/3")},
		{"away from the origin", pl("2", "-3", "6", "49"), pt("1", "1", "1"), pt("-59/49", "211/49", "-275/49")},
		{"from the other side", pl("1", "2", "2", "-9"), pt("2", "4", "4"), pt("1", "2", "2")},
		{"on it", pl("1", "-2", "3", "-1/3"), pt("5/3", "2/3", "0"), pt("5/3", "2/3", "0")},
		{"level", pl("0", "0", "-1", "2"), pt("-3", "1/2", "-1"), pt("-3", "1/2", "2")},
		{"upright", pl("2", "0", "0", "-1"), pt("3", "7", "-7"), pt("1/2", "7", "-7")},
		{"through the origin", pl("0", "3", "4", "0"), pt("5", "0", "25"), pt("5", "-12", "9")},
		{"what is no fraction is 0", pl("0", "x", "1", "1/0"), pt("1/0", "3", "5"), pt("0", "3", "0")},
	} {
		answers(t, x.what, x.want, api.OK)(Foot(x.e, x.p))
	}
}

func TestPierce(t *testing.T) {
	e := pl("1", "1", "1", "-1")
	for _, x := range []struct {
		what  string
		e     api.E
		p, q  api.P3
		want  api.P3
		wrong api.Errno
	}{
		{"the test's", e, origin(), pt("2", "0", "0"), pt("1", "0", "0"), api.OK},
		{"back", e, pt("2", "0", "0"), origin(), pt("1", "0", "0"), api.OK},
		{"not plain", pl("-2/3", "-2/3", "-2/3", "2/3"), origin(), pt("2", "0", "0"), pt("1", "0", "0"), api.OK},
		{"behind the first", e, pt("2", "2", "2"), pt("3", "4", "5"), pt("7/6", "1/3", "-1/2"), api.OK},
		{"behind the second", e, pt("3", "4", "5"), pt("2", "2", "2"), pt("7/6", "1/3", "-1/2"), api.OK},
		{"the first is on it", e, pt("0", "1", "0"), pt("5", "5", "5"), pt("0", "1", "0"), api.OK},
		{"the second is on it", e, pt("5", "5", "5"), pt("0", "1", "0"), pt("0", "1", "0"), api.OK},
		{"at right angles", pl("0", "0", "2", "-1"), pt("3", "-4", "9"), pt("3", "-4", "-9"), pt("3", "-4", "1/2"), api.OK},
		{"in the origin", pl("1", "-2", "0", "0"), pt("1", "0", "1"), pt("-1", "0", "-1"), origin(), api.OK},
		{"beside it", e, origin(), pt("1", "-1", "0"), api.P3{}, api.ErrNone},
		{"beside it, on the other side", e, pt("1", "1", "1"), pt("1", "3", "-1"), api.P3{}, api.ErrNone},
		{"within it", e, pt("1", "0", "0"), pt("0", "1", "0"), api.P3{}, api.ErrFree},
		{"within it, through the origin", pl("1", "2", "3", "0"), origin(), pt("3", "0", "-1"), api.P3{}, api.ErrFree},
		{"within it, not plain", pl("-1/2", "-1/2", "-1/2", "1/2"), pt("1/3", "1/3", "1/3"), pt("5", "-3", "-1"), api.P3{}, api.ErrFree},
		{"one point, off it", e, origin(), api.P3{}, api.P3{}, api.ErrFlat},
		{"one point, on it", e, pt("1", "0", "0"), pt("2/2", "-0", "x"), api.P3{}, api.ErrFlat},
		{"one point, in the origin", pl("1", "2", "3", "0"), api.P3{}, origin(), api.P3{}, api.ErrFlat},
		{"as good as beside it", e, origin(), pt("1000000000001", "-1000000000000", "0"), pt("1000000000001", "-1000000000000", "0"), api.OK},
		{"what is no fraction is 0", pl("x", "1/0", "1", "-1"), pt("", "3", "+1"), pt("2", "3", "2"), pt("1", "3", "1"), api.OK},
	} {
		answers(t, x.what, x.want, x.wrong)(Pierce(x.e, x.p, x.q))
	}
}

func TestMeet(t *testing.T) {
	for _, x := range []struct {
		what  string
		l     [3]api.E
		want  api.P3
		wrong api.Errno
	}{
		{"the test's", [3]api.E{pl("1", "0", "0", "-1"), pl("0", "1", "0", "-2"), pl("1", "1", "1", "0")}, pt("1", "2", "-3"), api.OK},
		{"the axes", [3]api.E{pl("2", "0", "0", "0"), pl("0", "-1/2", "0", "0"), pl("0", "0", "7", "0")}, origin(), api.OK},
		{"all numbers", [3]api.E{pl("1", "2", "3", "-14"), pl("2", "-1", "1", "-3"), pl("3", "1", "-2", "1")}, pt("1", "2", "3"), api.OK},
		{"fractions", [3]api.E{pl("1/2", "1/3", "0", "-1"), pl("0", "1/5", "-1", "0"), pl("-1", "0", "1/7", "1/2")}, pt("41/73", "315/146", "63/146"), api.OK},
		{"as good as around a line", [3]api.E{pl("1", "0", "0", "0"), pl("0", "1", "0", "0"), pl("1000000000000", "1", "1/1000000000000", "-1")}, pt("0", "0", "1000000000000"), api.OK},
		{"a roof", [3]api.E{pl("1", "0", "0", "-1"), pl("0", "1", "0", "-2"), pl("1", "1", "0", "0")}, api.P3{}, api.ErrNone},
		{"a roof, slanted", [3]api.E{pl("1", "2", "3", "0"), pl("4", "5", "6", "0"), pl("7", "8", "9", "1")}, api.P3{}, api.ErrNone},
		{"a roof, one below 0", [3]api.E{pl("-1", "-2", "-3", "5"), pl("4", "5", "6", "7"), pl("-7", "-8", "-9", "2")}, api.P3{}, api.ErrNone},
		{"around a line", [3]api.E{pl("1", "0", "0", "-1"), pl("0", "1", "0", "-2"), pl("1", "1", "0", "-3")}, api.P3{}, api.ErrFree},
		{"around a line through the origin", [3]api.E{pl("1", "2", "3", "0"), pl("4", "5", "6", "0"), pl("7", "8", "9", "0")}, api.P3{}, api.ErrFree},
		{"around a line, slanted", [3]api.E{pl("1", "2", "3", "-1"), pl("4", "5", "6", "-2"), pl("-14", "-16", "-18", "6")}, api.P3{}, api.ErrFree},
		{"two beside each other", [3]api.E{pl("1", "2", "3", "4"), pl("1", "2", "3", "5"), pl("0", "0", "1", "0")}, api.P3{}, api.ErrNone},
		{"two beside each other, one below 0", [3]api.E{pl("1", "2", "3", "4"), pl("-1", "-2", "-3", "4"), pl("1", "0", "0", "1")}, api.P3{}, api.ErrNone},
		{"two beside each other, one through the origin", [3]api.E{pl("1", "2", "3", "0"), pl("1", "2", "3", "5"), pl("1", "0", "0", "0")}, api.P3{}, api.ErrNone},
		{"two the same", [3]api.E{pl("1", "2", "3", "4"), pl("-1/2", "-1", "-3/2", "-2"), pl("0", "0", "1", "0")}, api.P3{}, api.ErrFree},
		{"two the same, through the origin", [3]api.E{pl("1", "2", "3", "0"), pl("2", "4", "6", "0"), pl("1", "0", "0", "7")}, api.P3{}, api.ErrFree},
		{"all beside each other", [3]api.E{pl("1", "2", "3", "4"), pl("1", "2", "3", "5"), pl("1", "2", "3", "6")}, api.P3{}, api.ErrNone},
		{"all beside each other, level", [3]api.E{pl("0", "0", "3", "4"), pl("0", "0", "3", "5"), pl("0", "0", "1", "0")}, api.P3{}, api.ErrNone},
		{"two the same, one beside them", [3]api.E{pl("1", "2", "3", "4"), pl("2", "4", "6", "8"), pl("1", "2", "3", "6")}, api.P3{}, api.ErrNone},
		{"two the same, one beside them through the origin", [3]api.E{pl("1", "-2", "3", "4"), pl("-2", "4", "-6", "-8"), pl("1", "-2", "3", "0")}, api.P3{}, api.ErrNone},
		{"all the same", [3]api.E{pl("1", "2", "3", "4"), pl("2", "4", "6", "8"), pl("-1/3", "-2/3", "-1", "-4/3")}, api.P3{}, api.ErrFree},
		{"all the same, through the origin", [3]api.E{pl("0", "1", "-1", "0"), pl("0", "2", "-2", "0"), pl("0", "-1", "1", "0")}, api.P3{}, api.ErrFree},
		{"what is no fraction is 0", [3]api.E{pl("1", "x", "1/0", "-1"), pl("", "2", "+2", "-1"), pl("-", "1/", "1", "1.5")}, pt("1", "1/2", "0"), api.OK},
	} {
		for _, o := range orders() {
			// The place of the fourth is left out.
			var l []api.E
			for _, at := range o {
				if at < 3 {
					l = append(l, x.l[at])
				}
			}
			answers(t, x.what, x.want, x.wrong)(Meet(l[0], l[1], l[2]))
		}
	}
}

func TestAroundAndMonge(t *testing.T) {
	a, b, c := pt("1", "0", "0"), pt("0", "1", "0"), pt("0", "0", "1")
	for _, x := range []struct {
		what  string
		l     [4]api.P3
		want  ball
		monge api.P3
		wrong api.Errno
	}{
		{"the test's", [4]api.P3{origin(), a, b, c}, ball{pt("1/2", "1/2", "1/2"), "3/4"}, origin(), api.OK},
		{"all edges as long", [4]api.P3{pt("1", "1", "1"), pt("1", "-1", "-1"), pt("-1", "1", "-1"), pt("-1", "-1", "1")}, ball{origin(), "3"}, origin(), api.OK},
		{"shifted", [4]api.P3{pt("3", "-4", "6"), pt("3", "-6", "4"), pt("1", "-4", "4"), pt("1", "-6", "6")}, ball{pt("2", "-5", "5"), "3"}, pt("2", "-5", "5"), api.OK},
		{"a corner of right angles", [4]api.P3{pt("1", "1", "1"), pt("3", "1", "1"), pt("1", "5", "1"), pt("1", "1", "7")}, ball{pt("2", "3", "4"), "14"}, pt("1", "1", "1"), api.OK},
		{"the middle lies without", [4]api.P3{origin(), pt("4", "0", "0"), pt("0", "4", "0"), pt("1", "1", "1")}, ball{pt("2", "2", "-5/2"), "57/4"}, pt("1/2", "1/2", "3"), api.OK},
		{"fractions", [4]api.P3{pt("1/2", "0", "0"), pt("0", "1/3", "0"), pt("0", "0", "-1"), pt("0", "0", "1")}, ball{pt("-3/4", "-4/3", "0"), "481/144"}, pt("1", "3/2", "0"), api.OK},
		{"what is no fraction is 0", [4]api.P3{pt("x", "1/0", ""), pt("2", "+1", "-"), pt("", "4/2", "1."), pt("1/", "/1", "002")}, ball{pt("1", "1", "1"), "3"}, origin(), api.OK},
		{"by a hair off a plane", [4]api.P3{origin(), pt("2", "0", "0"), pt("0", "2", "0"), pt("2", "2", "1/1000000")}, ball{pt("1", "1", "1/2000000"), "8000000000001/4000000000000"}, pt("1", "1", "0"), api.OK},
		{"on a plane", [4]api.P3{a, b, c, pt("1/3", "1/3", "1/3")}, ball{}, api.P3{}, api.ErrFlat},
		{"on a circle", [4]api.P3{pt("1", "0", "5"), pt("0", "1", "5"), pt("-1", "0", "5"), pt("0", "-1", "5")}, ball{}, api.P3{}, api.ErrFlat},
		{"three on a line", [4]api.P3{origin(), a, pt("2", "0", "0"), c}, ball{}, api.P3{}, api.ErrFlat},
		{"all on a line", [4]api.P3{origin(), pt("1", "2", "3"), pt("2", "4", "6"), pt("-1/2", "-1", "-3/2")}, ball{}, api.P3{}, api.ErrFlat},
		{"two one", [4]api.P3{a, b, c, pt("2/2", "-0", "x")}, ball{}, api.P3{}, api.ErrFlat},
		{"twice two one", [4]api.P3{a, b, b, a}, ball{}, api.P3{}, api.ErrFlat},
		{"three one", [4]api.P3{b, b, b, a}, ball{}, api.P3{}, api.ErrFlat},
		{"all one", [4]api.P3{b, b, b, b}, ball{}, api.P3{}, api.ErrFlat},
		{"zero values", [4]api.P3{}, ball{}, api.P3{}, api.ErrFlat},
	} {
		for _, o := range orders() {
			l := inOrder(x.l, o)
			answers(t, "around: "+x.what, x.want, x.wrong)(aroundOf(l))
			answers(t, "monge: "+x.what, x.monge, x.wrong)(Monge(l))
		}
	}
}

func TestApart(t *testing.T) {
	for _, x := range []struct {
		what       string
		a, b, c, d api.P3
		want       api.Q
	}{
		{"the test's", origin(), pt("1", "0", "0"), pt("0", "0", "2"), pt("0", "5", "2"), "4"},
		{"beside each other, the test's", origin(), pt("1", "0", "0"), pt("0", "3", "4"), pt("5", "3", "4"), "25"},
		{"beside each other, the other way", origin(), pt("1", "0", "0"), pt("5", "3", "4"), pt("4", "3", "4"), "25"},
		{"beside each other, slanted", origin(), pt("1", "1", "1"), pt("1", "0", "0"), pt("3", "2", "2"), "2/3"},
		{"past each other, slanted", origin(), pt("1", "1", "1"), pt("1", "0", "0"), pt("0", "1", "0"), "1/6"},
		{"past each other, edges of a box", origin(), pt("1", "1", "0"), pt("1", "0", "1"), pt("0", "1", "1"), "1"},
		{"past each other, far off", pt("1", "2", "3"), pt("2", "2", "3"), pt("0", "0", "-1/2"), pt("0", "1/7", "-1/2"), "49/4"},
		{"they meet in a point that is told", origin(), pt("1", "2", "3"), origin(), pt("3", "1", "-1"), "0"},
		{"they meet in another", pt("-1", "0", "0"), pt("1", "0", "0"), pt("0", "-1", "0"), pt("0", "3", "0"), "0"},
		{"the same line", origin(), pt("1", "2", "3"), pt("2", "4", "6"), pt("-1", "-2", "-3"), "0"},
		{"the same two", pt("1", "2", "3"), pt("4", "5", "7"), pt("1", "2", "3"), pt("4", "5", "7"), "0"},
		{"what is no fraction is 0", pt("x", "1/0", ""), pt("1", "+1", "1."), pt("-", "2", "1/"), pt("/1", "2", "3"), "4"},
		{"by a hair", origin(), pt("1", "0", "0"), pt("0", "0", "1/1000000000000"), pt("0", "1", "1/1000000000000"), "1/1000000000000000000000000"},
	} {
		for _, two := range [2][4]api.P3{{x.a, x.b, x.c, x.d}, {x.c, x.d, x.a, x.b}} {
			a, b, c, d := two[0], two[1], two[2], two[3]
			answers(t, x.what, x.want, api.OK)(Apart(a, b, c, d))
			answers(t, x.what, x.want, api.OK)(Apart(b, a, c, d))
			answers(t, x.what, x.want, api.OK)(Apart(a, b, d, c))
		}
	}
}

func TestApartOfOnePoint(t *testing.T) {
	p, again, q, r := pt("1/2", "-3", "0"), pt("02/4", "-3/1", "x"), pt("1", "2", "3"), pt("4", "4", "4")
	refused[api.Q](t, "the first line", api.ErrFlat)(Apart(p, again, q, r))
	refused[api.Q](t, "the second line", api.ErrFlat)(Apart(q, r, p, again))
	refused[api.Q](t, "both lines", api.ErrFlat)(Apart(q, q, p, again))
	refused[api.Q](t, "all one", api.ErrFlat)(Apart(p, p, p, p))
	refused[api.Q](t, "on the other line", api.ErrFlat)(Apart(q, q, q, r))
	refused[api.Q](t, "zero values", api.ErrFlat)(Apart(api.P3{}, api.P3{}, api.P3{}, api.P3{}))
}

func TestGreatLength(t *testing.T) {
	noughts := api.Q(strings.Repeat("0", 1000))
	nines := api.Q(strings.Repeat("9", 1000))
	great, small := "1"+noughts, "1/1"+noughts
	same(t, "far", Far2(origin(), pt("0", "-"+great, "0")), great+noughts)
	same(t, "volume", Volume(origin(), pt(great, "0", "0"), pt("0", small, "0"), pt("0", "0", nines)), nines)
	answers(t, "through", pl("1", great, great+noughts, "-"+great), api.OK)(Through(pt(great, "0", "0"), pt("0", "1", "0"), pt("0", "0", small)))
	answers(t, "side", -1, api.OK)(Side(pl("-"+great, nines, "0", "0"), pt("-1", "1", "1")))
	answers(t, "between", pl(great, "0", "0", "-1"), api.OK)(Between(origin(), pt("2/"+great, "0", "0")))
	answers(t, "foot", pt("7", nines, nines), api.OK)(Foot(pl("0", "0", small, "-"+nines+"/"+great), pt("7", nines, great)))
	answers(t, "pierce", pt(nines+"/"+great, "0", "0"), api.OK)(Pierce(pl(great, "0", "1", "-"+nines), origin(), pt("1", "0", "0")))
	answers(t, "meet", pt(nines, small, "-"+great), api.OK)(Meet(pl("1", "0", "0", "-"+nines), pl("0", great, "0", "-1"), pl("0", "0", "1", great)))
	answers(t, "around", ball{pt(great, great, great), "3" + noughts + noughts}, api.OK)(aroundOf([4]api.P3{origin(), pt("2"+noughts, "0", "0"), pt("0", "2"+noughts, "0"), pt("0", "0", "2"+noughts)}))
	answers(t, "monge", pt(nines, nines, "0"), api.OK)(Monge([4]api.P3{pt(nines, nines, "0"), pt(great, nines, "0"), pt(nines, great, "0"), pt(nines, nines, small)}))
	answers(t, "apart", "1/"+great+noughts, api.OK)(Apart(origin(), pt(great, "0", "0"), pt("0", "0", small), pt("0", nines, small)))
}
