package line

import (
	"strings"
	"testing"

	"compass/api"
)

// flat: what is handed in as a line and is none.
func flat() []api.L {
	return []api.L{{}, ln("0", "0", "0"), ln("0", "0", "1"), ln("-0", "000", "-7/2"), ln("1/0", "-2/0", "3"), ln("x", " 1", "1"), ln("1/-2", "+1", "1"), ln("", "1.5", ""), ln("0/7", "١", "2")}
}

func TestPlain(t *testing.T) {
	for _, c := range []struct {
		what    string
		l, want api.L
	}{
		{"fractions", ln("-2/3", "4", "0"), ln("1", "-6", "0")},
		{"plain already", ln("2", "-1", "1"), ln("2", "-1", "1")},
		{"a common divisor", ln("6", "-9", "15"), ln("2", "-3", "5")},
		{"the first is below 0", ln("-1", "-2", "-3"), ln("1", "2", "3")},
		{"the second is the first that isn't 0", ln("0", "-2", "4"), ln("0", "1", "-2")},
		{"above 0, the last below", ln("0", "3", "-1/2"), ln("0", "6", "-1")},
		{"upright", ln("-1/2", "0", "1/3"), ln("3", "0", "-2")},
		{"through the origin", ln("0", "-7/3", "0"), ln("0", "1", "0")},
		{"lower numbers alike", ln("1/6", "1/10", "1/15"), ln("5", "3", "2")},
		{"two have a divisor each", ln("6", "10", "15"), ln("6", "10", "15")},
		{"noughts ahead", ln("-002/04", "00", "0003"), ln("1", "0", "-6")},
		{"what is no fraction", ln("3", "1/0", "x"), ln("1", "0", "0")},
	} {
		got, e := Plain(c.l)
		same(t, c.what, got, c.want)
		same(t, c.what, e, api.OK)
	}
}

func TestWhatIsNoLine(t *testing.T) {
	p, good := pt("1", "2"), ln("1", "1", "1")
	for _, l := range flat() {
		what := strings.Join([]string{string(l.A), string(l.B), string(l.C)}, " ")
		line := func(name string) func(api.L, api.Errno) {
			return func(got api.L, e api.Errno) {
				same(t, name+what, got, api.L{})
				same(t, name+what, e, api.ErrFlat)
			}
		}
		point := func(name string) func(api.P, api.Errno) {
			return func(got api.P, e api.Errno) {
				same(t, name+what, got, api.P{})
				same(t, name+what, e, api.ErrFlat)
			}
		}
		line("plain ")(Plain(l))
		line("beside ")(Beside(l, p))
		line("square ")(Square(l, p))
		point("meet, first ")(Meet(l, good))
		point("meet, second ")(Meet(good, l))
		point("meet, both ")(Meet(l, l))
		point("foot ")(Foot(l, p))
		point("mirror ")(Mirror(l, p))
		side, e := Side(l, p)
		same(t, "side "+what, side, 0)
		same(t, "side "+what, e, api.ErrFlat)
		far, e := Far2(l, p)
		same(t, "far "+what, far, "")
		same(t, "far "+what, e, api.ErrFlat)
	}
}

func TestThrough(t *testing.T) {
	for _, c := range []struct {
		what string
		p, q api.P
		want api.L
		e    api.Errno
	}{
		{"the document's", pt("0", "1"), pt("1", "3"), ln("2", "-1", "1"), api.OK},
		{"back", pt("1", "3"), pt("0", "1"), ln("2", "-1", "1"), api.OK},
		{"level", pt("-5", "1/2"), pt("7", "1/2"), ln("0", "2", "-1"), api.OK},
		{"upright", pt("1/3", "1"), pt("1/3", "0"), ln("3", "0", "-1"), api.OK},
		{"through the origin", pt("0", "0"), pt("-3", "2"), ln("2", "3", "0"), api.OK},
		{"what is no fraction is 0", pt("x", "1/0"), pt("3", "1"), ln("1", "-3", "0"), api.OK},
		{"one", pt("1", "2"), pt("1", "2"), api.L{}, api.ErrFlat},
		{"one, told twice", pt("1/2", "-0"), pt("02/4", "0/9"), api.L{}, api.ErrFlat},
		{"zero values", api.P{}, api.P{}, api.L{}, api.ErrFlat},
		{"a hair apart", pt("0", "0"), pt("0", "1/1000000000000000000000"), ln("1", "0", "0"), api.OK},
	} {
		got, e := Through(c.p, c.q)
		same(t, c.what, got, c.want)
		same(t, c.what, e, c.e)
	}
}

func TestSide(t *testing.T) {
	for _, c := range []struct {
		what string
		l    api.L
		p    api.P
		want int
	}{
		{"as it stands", ln("1", "0", "0"), pt("2", "0"), 1},
		{"of the plain form", ln("-1", "0", "0"), pt("2", "0"), 1},
		{"the other side", ln("-1/2", "3", "0"), pt("-2", "7"), -1},
		{"on it", ln("1", "1", "-3"), pt("1", "2"), 0},
		{"level, above", ln("0", "-2", "6"), pt("9", "4"), 1},
		{"level, below", ln("0", "-2", "6"), pt("9", "2"), -1},
		{"level, as it stands", ln("0", "2", "-6"), pt("9", "2"), -1},
		{"both below 0", ln("-1", "-1", "-3"), pt("0", "0"), 1},
		{"the second has another sign", ln("1", "-5", "0"), pt("0", "1"), -1},
		{"by a hair", ln("1", "-1", "0"), pt("1000000000000000000001", "1000000000000000000000"), 1},
		{"what is no fraction is 0", ln("1", "x", "-1"), pt("x", "5"), -1},
	} {
		got, e := Side(c.l, c.p)
		same(t, c.what, got, c.want)
		same(t, c.what, e, api.OK)
	}
}

func TestMeet(t *testing.T) {
	for _, c := range []struct {
		what string
		l, m api.L
		want api.P
		e    api.Errno
	}{
		{"cross", ln("1", "1", "-3"), ln("1", "-1", "1"), pt("1", "2"), api.OK},
		{"the other way", ln("1", "-1", "1"), ln("1", "1", "-3"), pt("1", "2"), api.OK},
		{"fractions", ln("1/2", "1/3", "1"), ln("2", "-1/5", "0"), pt("-6/23", "-60/23"), api.OK},
		{"upright and level", ln("2", "0", "-1"), ln("0", "3", "1"), pt("1/2", "-1/3"), api.OK},
		{"in the origin", ln("1", "1", "0"), ln("1", "-1", "0"), pt("0", "0"), api.OK},
		{"beside each other", ln("1", "1", "-3"), ln("2", "2", "1"), api.P{}, api.ErrNone},
		{"beside each other, the sign the other way", ln("1", "1", "-3"), ln("-1", "-1", "-3"), api.P{}, api.ErrNone},
		{"beside each other, one through the origin", ln("1", "2", "0"), ln("1", "2", "5"), api.P{}, api.ErrNone},
		{"beside each other, upright", ln("3", "0", "1"), ln("-1", "0", "1"), api.P{}, api.ErrNone},
		{"beside each other, level", ln("0", "1", "1"), ln("0", "1", "2"), api.P{}, api.ErrNone},
		{"the same", ln("1", "1", "-3"), ln("2", "2", "-6"), api.P{}, api.ErrFree},
		{"the same, the sign the other way", ln("1/2", "-1/3", "1/7"), ln("-21", "14", "-06"), api.P{}, api.ErrFree},
		{"the same, through the origin", ln("3", "1", "0"), ln("-6", "-2", "0"), api.P{}, api.ErrFree},
		{"the same, upright", ln("2", "0", "-4"), ln("1", "0", "-2"), api.P{}, api.ErrFree},
		{"the same, level", ln("0", "2", "-4"), ln("0", "-1", "2"), api.P{}, api.ErrFree},
		{"as good as beside each other", ln("1", "1", "0"), ln("1000000000000", "1000000000001", "1"), pt("1", "-1"), api.OK},
	} {
		got, e := Meet(c.l, c.m)
		same(t, c.what, got, c.want)
		same(t, c.what, e, c.e)
	}
}

func TestBesideAndSquare(t *testing.T) {
	for _, c := range []struct {
		what           string
		l              api.L
		p              api.P
		beside, square api.L
	}{
		{"off it", ln("1", "2", "3"), pt("1", "1"), ln("1", "2", "-3"), ln("2", "-1", "-1")},
		{"on it", ln("-2", "-4", "-6"), pt("-1", "-1"), ln("1", "2", "3"), ln("2", "-1", "1")},
		{"upright", ln("-3", "0", "1"), pt("1/2", "1/3"), ln("2", "0", "-1"), ln("0", "3", "-1")},
		{"level", ln("0", "1/2", "1"), pt("1/2", "1/3"), ln("0", "3", "-1"), ln("2", "0", "-1")},
		{"through the origin", ln("2/3", "-1", "5"), pt("0", "0"), ln("2", "-3", "0"), ln("3", "2", "0")},
		{"what is no fraction is 0", ln("1", "x", "1/0"), pt("", "4"), ln("1", "0", "0"), ln("0", "1", "-4")},
	} {
		got, e := Beside(c.l, c.p)
		same(t, "beside, "+c.what, got, c.beside)
		same(t, "beside, "+c.what, e, api.OK)
		got, e = Square(c.l, c.p)
		same(t, "square, "+c.what, got, c.square)
		same(t, "square, "+c.what, e, api.OK)
	}
}

func TestFootMirrorFar2(t *testing.T) {
	for _, c := range []struct {
		what         string
		l            api.L
		p            api.P
		foot, mirror api.P
		far          api.Q
	}{
		{"slanted", ln("1", "1", "0"), pt("1", "0"), pt("1/2", "-1/2"), pt("0", "-1"), "1/2"},
		{"not plain", ln("-1/3", "-1/3", "0"), pt("1", "0"), pt("1/2", "-1/2"), pt("0", "-1"), "1/2"},
		{"away from the origin", ln("3", "4", "-25"), pt("0", "0"), pt("3", "4"), pt("6", "8"), "25"},
		{"upright", ln("2", "0", "-1"), pt("3", "7"), pt("1/2", "7"), pt("-2", "7"), "25/4"},
		{"level", ln("0", "-1", "2"), pt("-3", "-1"), pt("-3", "2"), pt("-3", "5"), "9"},
		{"on it", ln("1", "-2", "1/3"), pt("5/3", "01"), pt("5/3", "1"), pt("5/3", "1"), "0"},
		{"what is no fraction is 0", ln("0", "1", "x"), pt("1/0", "3"), pt("0", "0"), pt("0", "-3"), "9"},
	} {
		foot, e := Foot(c.l, c.p)
		same(t, "foot, "+c.what, foot, c.foot)
		same(t, "foot, "+c.what, e, api.OK)
		mirror, e := Mirror(c.l, c.p)
		same(t, "mirror, "+c.what, mirror, c.mirror)
		same(t, "mirror, "+c.what, e, api.OK)
		far, e := Far2(c.l, c.p)
		same(t, "far, "+c.what, far, c.far)
		same(t, "far, "+c.what, e, api.OK)
	}
}

func TestBetween(t *testing.T) {
	for _, c := range []struct {
		what string
		p, q api.P
		want api.L
		e    api.Errno
	}{
		{"slanted", pt("0", "0"), pt("2", "4"), ln("1", "2", "-5"), api.OK},
		{"back", pt("2", "4"), pt("0", "0"), ln("1", "2", "-5"), api.OK},
		{"side by side", pt("1", "7"), pt("2", "7"), ln("2", "0", "-3"), api.OK},
		{"one above the other", pt("1/2", "1/3"), pt("1/2", "-1"), ln("0", "3", "1"), api.OK},
		{"around the origin", pt("3", "-1"), pt("-3", "1"), ln("3", "-1", "0"), api.OK},
		{"what is no fraction is 0", pt("", "x"), pt("4", "1/0"), ln("1", "0", "-2"), api.OK},
		{"one", pt("1", "1"), pt("1", "1"), api.L{}, api.ErrFlat},
		{"one, told twice", pt("3/6", "x"), pt("01/2", "0"), api.L{}, api.ErrFlat},
		{"zero values", api.P{}, api.P{}, api.L{}, api.ErrFlat},
	} {
		got, e := Between(c.p, c.q)
		same(t, c.what, got, c.want)
		same(t, c.what, e, c.e)
	}
}

func TestGreatLength(t *testing.T) {
	nines := api.Q(strings.Repeat("9", 3000))
	ten := "1" + api.Q(strings.Repeat("0", 3000))
	same(t, "plain", must[api.L](t, "plain")(Plain(ln("-"+nines+"/"+ten, nines, "0"))), ln("1", "-"+ten, "0"))
	same(t, "meet", must[api.P](t, "meet")(Meet(ln(ten, "0", "-"+nines), ln("0", "1/"+nines, "-1"))), pt(nines+"/"+ten, nines))
	same(t, "mirror", must[api.P](t, "mirror")(Mirror(ln("1/"+nines, "0", "-1"), pt(nines, ten))), pt(nines, ten))
	same(t, "side", must[int](t, "side")(Side(ln("-1", "1", "0"), pt(nines, ten))), -1)
	_, e := Through(pt(nines+"/"+ten, ten), pt(nines+"/"+ten, ten))
	same(t, "one", e, api.ErrFlat)
}
