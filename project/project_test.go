package project

import (
	"math/big"
	"strings"
	"testing"

	"compass/api"
)

// The frame: the point right out of the plane, the one up out of it, the origin, and the point 1, 1.
func right() api.H  { return api.H{"1", "0", "0"} }
func up() api.H     { return api.H{"0", "1", "0"} }
func origin() api.H { return api.H{"0", "0", "1"} }
func ones() api.H   { return api.H{"1", "1", "1"} }

func frame() [4]api.H { return [4]api.H{right(), up(), origin(), ones()} }

// square has the corners of one, against the clock.
func square() [4]api.H {
	return [4]api.H{origin(), {"1", "0", "1"}, ones(), {"0", "1", "1"}}
}

// level is the point x, 0.
func level(x api.Q) api.H { return api.H{x, "0", "1"} }

func shift() api.W { return api.W{"1", "0", "2", "0", "1", "3", "0", "0", "1"} }

func double() api.W { return api.W{"2", "0", "0", "0", "2", "0", "0", "0", "1"} }

// toTen is a map whose numbers all differ.
func toTen() api.W { return api.W{"1", "2", "3", "4", "5", "6", "7", "8", "10"} }

// nowhere: what is handed in as a point or a line and is none.
func nowhere() []api.H {
	return []api.H{{}, {"0", "0", "0"}, {"-0", "0/3", "00"}, {"x", "1/0", "+1"}, {"1.5", " 1", "--1"}, {"1/-2", "/3", "2/"}}
}

// noMaps: what is handed in as a map and is none.
func noMaps() []api.W {
	return []api.W{
		{}, {"0", "0", "0", "0", "0", "0", "0", "0", "0"}, {"1", "2", "3", "4", "5", "6", "7", "8", "9"},
		{"1", "2", "3", "-1/2", "-1", "-3/2", "0", "0", "1"}, {"1", "0", "0", "0", "1", "0", "0", "0", "1/0"}, {"1", "1", "1", "1", "1", "1", "1", "1", "1"},
		{"0", "1", "2", "0", "3", "4", "0", "5", "7"}, {"x", "", "+1", "1", "2", "3", "4", "5", "7"},
	}
}

func TestWhatIsNeitherPointNorLine(t *testing.T) {
	for _, h := range nowhere() {
		refused[api.H](t, "plain", api.ErrFlat)(Plain(h))
		for _, o := range append(nowhere(), right(), ones()) {
			refused[api.H](t, "join", api.ErrFlat)(Join(h, o))
			refused[api.H](t, "join", api.ErrFlat)(Join(o, h))
			refused[bool](t, "on", api.ErrFlat)(On(h, o))
			refused[bool](t, "on", api.ErrFlat)(On(o, h))
			refused[api.Q](t, "ratio", api.ErrFlat)(Ratio(h, o, o, o))
			refused[api.H](t, "harmonic", api.ErrFlat)(Harmonic(h, o, o))
		}
		for _, w := range append(noMaps(), still(), toTen()) {
			refused[api.H](t, "apply", api.ErrFlat)(Apply(w, h))
			refused[api.H](t, "carry", api.ErrFlat)(Carry(w, h))
		}
		for i := range 4 {
			l := frame()
			l[i] = h
			refused[api.W](t, "four", api.ErrFlat)(Four(l, frame()))
			refused[api.W](t, "four", api.ErrFlat)(Four(frame(), l))
			refused[api.W](t, "four", api.ErrFlat)(Four(l, l))
		}
	}
}

func TestWhatIsNoMap(t *testing.T) {
	for _, w := range noMaps() {
		refused[api.W](t, "back", api.ErrFlat)(Back(w))
		for _, v := range append(noMaps(), still(), toTen()) {
			refused[api.W](t, "after", api.ErrFlat)(After(w, v))
			refused[api.W](t, "after", api.ErrFlat)(After(v, w))
		}
		for _, h := range append(nowhere(), right(), ones()) {
			refused[api.H](t, "apply", api.ErrFlat)(Apply(w, h))
			refused[api.H](t, "carry", api.ErrFlat)(Carry(w, h))
		}
	}
}

func TestPlain(t *testing.T) {
	for _, x := range []struct {
		what    string
		h, want api.H
	}{
		{"already", api.H{"1", "2", "3"}, api.H{"1", "2", "3"}},
		{"the second first", api.H{"0", "-1/2", "1"}, api.H{"0", "1", "-2"}},
		{"a common divisor", api.H{"-4", "6", "-8"}, api.H{"2", "-3", "4"}},
		{"fractions", api.H{"1/2", "1/3", "1/5"}, api.H{"15", "10", "6"}},
		{"the third alone", api.H{"0", "0", "-7/3"}, origin()},
		{"what is no fraction is 0", api.H{"x", "1/0", "06/4"}, origin()},
		{"noughts", api.H{"-0", "-003/6", "01"}, api.H{"0", "1", "-2"}},
	} {
		same(t, x.what, must[api.H](t, x.what)(Plain(x.h)), x.want)
	}
}

func TestJoin(t *testing.T) {
	for _, x := range []struct {
		what       string
		a, b, want api.H
	}{
		{"the document's line", api.H{"0", "1", "1"}, api.H{"1", "3", "1"}, api.H{"2", "-1", "1"}},
		{"lines that meet", api.H{"1", "1", "-3"}, api.H{"1", "-1", "1"}, api.H{"1", "2", "1"}},
		{"lines beside each other", up(), api.H{"0", "1", "-1"}, right()},
		{"a line and the one out of the plane", api.H{"2", "-1", "1"}, origin(), api.H{"1", "2", "0"}},
		{"points out of the plane", right(), up(), origin()},
		{"a point out of the plane", right(), api.H{"0", "1", "1"}, api.H{"0", "1", "-1"}},
		{"fractions", api.H{"1/2", "1/3", "1"}, api.H{"-2", "-2", "0"}, api.H{"6", "-6", "-1"}},
		{"what is no fraction is 0", api.H{"02/2", "x", "1/0"}, api.H{"", "-5", "+1"}, origin()},
	} {
		same(t, x.what, must[api.H](t, x.what)(Join(x.a, x.b)), x.want)
		same(t, x.what, must[api.H](t, x.what)(Join(x.b, x.a)), x.want)
	}
	for _, x := range []struct {
		what string
		a, b api.H
	}{
		{"the same", ones(), ones()},
		{"many times", api.H{"1", "-2", "3"}, api.H{"5", "-10", "15"}},
		{"the other sign", api.H{"1", "-2", "3"}, api.H{"-1/3", "2/3", "-1"}},
		{"one number", origin(), api.H{"0", "0", "-7"}},
		{"other texts", api.H{"1", "0", "1/2"}, api.H{"004", "x", "6/3"}},
	} {
		refused[api.H](t, x.what, api.ErrFree)(Join(x.a, x.b))
	}
}

func TestOn(t *testing.T) {
	for _, x := range []struct {
		what string
		p, l api.H
		want bool
	}{
		{"on it", api.H{"1", "2", "3"}, api.H{"1", "1", "-1"}, true},
		{"not on it", api.H{"1", "2", "3"}, api.H{"1", "1", "1"}, false},
		{"fractions", api.H{"1/2", "1/3", "1/7"}, api.H{"2", "-3", "0"}, true},
		{"nearly", api.H{"1", "1", "1/1000000000000"}, api.H{"1", "-1", "1"}, false},
		{"out of the plane", api.H{"1", "1", "0"}, api.H{"1", "-1", "7"}, true},
		{"on the line out of the plane", api.H{"3", "-4", "0"}, origin(), true},
		{"the same numbers", right(), right(), false},
		{"what is no fraction is 0", api.H{"x", "1", "1"}, api.H{"1", "1/0", "+5"}, true},
	} {
		same(t, x.what, must[bool](t, x.what)(On(x.p, x.l)), x.want)
		same(t, x.what, must[bool](t, x.what)(On(x.l, x.p)), x.want)
	}
}

func TestRatio(t *testing.T) {
	for _, x := range []struct {
		what       string
		a, b, c, d api.H
		want       api.Q
	}{
		{"out of the plane", right(), up(), api.H{"1", "1", "0"}, api.H{"1", "2", "0"}, "1/2"},
		{"from the origin", origin(), right(), level("2"), level("3"), "2/3"},
		{"in the plane", level("0"), level("1"), level("2"), level("3"), "4/3"},
		{"one between", level("0"), level("3"), level("1"), level("5"), "-1/5"},
		{"the middle", level("0"), level("2"), level("1"), right(), "-1"},
		{"lines through a point", right(), up(), api.H{"1", "-1", "0"}, api.H{"2", "-1", "0"}, "2"},
		{"lines beside each other", api.H{"1", "0", "0"}, api.H{"1", "0", "-1"}, api.H{"1", "0", "-2"}, api.H{"1", "0", "-3"}, "4/3"},
		{"askew", api.H{"1", "2", "3"}, api.H{"0", "1", "-1"}, api.H{"2", "7", "3"}, api.H{"5", "3", "22"}, "-15/14"},
		{"without a first number", api.H{"0", "1", "2"}, api.H{"0", "3", "1"}, api.H{"0", "4", "3"}, api.H{"0", "-2", "1"}, "-1"},
		{"what is no fraction is 0", api.H{"02/2", "x", "1/0"}, api.H{"+1", "7", ""}, api.H{"1", "1", "y"}, api.H{"-1", "-6/3", "--1"}, "1/2"},
	} {
		same(t, x.what, must[api.Q](t, x.what)(Ratio(x.a, x.b, x.c, x.d)), x.want)
		// However often each is taken.
		minus, third := whole(-2), big.NewRat(1, 3)
		if x.what != "what is no fraction is 0" {
			same(t, x.what, must[api.Q](t, x.what)(Ratio(many(x.a, minus), many(x.b, third), many(x.c, whole(5)), many(x.d, whole(-1)))), x.want)
		}
	}
}

// TestRatioRefused: what is wrong is told point by point; where they lie comes behind all that.
func TestRatioRefused(t *testing.T) {
	none, a, b, c, d := api.H{"0", "x", "1/0"}, right(), up(), api.H{"1", "1", "0"}, api.H{"1", "2", "0"}
	off := ones()
	again := func(h api.H) api.H { return many(h, big.NewRat(-3, 2)) }
	for _, x := range []struct {
		what       string
		a, b, c, d api.H
		want       api.Errno
	}{
		{"the first is none", none, b, c, d, api.ErrFlat},
		{"the second is none", a, none, c, d, api.ErrFlat},
		{"the third is none", a, b, none, d, api.ErrFlat},
		{"the fourth is none", a, b, c, none, api.ErrFlat},
		{"the second is the first", a, again(a), c, d, api.ErrTwice},
		{"the third is the first", a, b, again(a), d, api.ErrTwice},
		{"the third is the second", a, b, again(b), d, api.ErrTwice},
		{"the fourth is the first", a, b, c, again(a), api.ErrTwice},
		{"the fourth is the second", a, b, c, again(b), api.ErrTwice},
		{"the fourth is the third", a, b, c, again(c), api.ErrTwice},
		{"all are one", c, c, c, c, api.ErrTwice},
		{"the third is off the line", a, b, off, d, api.ErrNone},
		{"the fourth is off the line", a, b, c, off, api.ErrNone},
		{"no three on a line", a, b, origin(), off, api.ErrNone},
		{"the last two on another line", a, b, origin(), api.H{"1", "1", "2"}, api.ErrNone},
		{"the first none, the others one", none, b, b, b, api.ErrFlat},
		{"one twice, then none", a, a, none, d, api.ErrTwice},
		{"one twice, none at the end", a, b, a, none, api.ErrTwice},
		{"none, then one twice", a, b, none, a, api.ErrFlat},
		{"none twice", a, b, none, none, api.ErrFlat},
		{"off the line, then none", a, b, off, none, api.ErrFlat},
		{"off the line, twice", a, b, off, again(off), api.ErrTwice},
		{"off the line, then the first", a, b, off, a, api.ErrTwice},
	} {
		refused[api.Q](t, x.what, x.want)(Ratio(x.a, x.b, x.c, x.d))
	}
}

func TestHarmonic(t *testing.T) {
	for _, x := range []struct {
		what          string
		a, b, c, want api.H
	}{
		{"out of the plane", right(), up(), api.H{"1", "2", "0"}, api.H{"1", "-2", "0"}},
		{"of the middle", level("0"), level("2"), level("1"), right()},
		{"of what is out of the plane", level("0"), level("2"), right(), level("1")},
		{"in the plane", level("0"), level("1"), level("2"), api.H{"2", "0", "3"}},
		{"lines through a point", right(), up(), api.H{"1", "-1", "0"}, api.H{"1", "1", "0"}},
		{"askew", api.H{"1", "2", "3"}, api.H{"0", "1", "-1"}, api.H{"2", "7", "3"}, api.H{"2", "1", "9"}},
		{"however often", api.H{"-1/2", "-1", "-3/2"}, api.H{"0", "7", "-7"}, api.H{"2/5", "7/5", "3/5"}, api.H{"2", "1", "9"}},
		{"what is no fraction is 0", api.H{"01", "x", "1/0"}, api.H{"+1", "2", ""}, api.H{"1", "2", "y"}, api.H{"1", "-2", "0"}},
	} {
		d := must[api.H](t, x.what)(Harmonic(x.a, x.b, x.c))
		same(t, x.what, d, x.want)
		same(t, x.what, must[api.H](t, x.what)(Harmonic(x.b, x.a, x.c)), x.want)
		same(t, x.what, must[api.Q](t, x.what)(Ratio(x.a, x.b, x.c, d)), "-1")
	}
	none, a, b, c := api.H{"0", "x", "1/0"}, right(), up(), api.H{"1", "1", "0"}
	for _, x := range []struct {
		what    string
		a, b, c api.H
		want    api.Errno
	}{
		{"the first is none", none, b, c, api.ErrFlat},
		{"the second is none", a, none, c, api.ErrFlat},
		{"the third is none", a, b, none, api.ErrFlat},
		{"the second is the first", a, api.H{"-4", "0", "0"}, c, api.ErrTwice},
		{"the third is the first", a, b, api.H{"1/7", "0", "0"}, api.ErrTwice},
		{"the third is the second", a, b, api.H{"0", "-1", "0"}, api.ErrTwice},
		{"one twice, then none", a, a, none, api.ErrTwice},
		{"one twice, then off the line", a, a, ones(), api.ErrTwice},
		{"none twice", none, none, c, api.ErrFlat},
		{"off the line", a, b, ones(), api.ErrNone},
	} {
		refused[api.H](t, x.what, x.want)(Harmonic(x.a, x.b, x.c))
	}
}

func TestFour(t *testing.T) {
	for _, x := range []struct {
		what string
		p, q [4]api.H
		want api.W
	}{
		{"all stay", square(), square(), still()},
		{"all stay, other texts", frame(), [4]api.H{{"-2", "0", "x"}, {"1/0", "1/7", "0"}, {"", "+1", "05"}, {"-3", "-6/2", "-3"}}, still()},
		{"two of the frame changed", frame(), [4]api.H{up(), right(), origin(), {"1", "2", "1"}}, api.W{"0", "1", "0", "2", "0", "0", "0", "0", "1"}},
		{"a square seen askew", square(), [4]api.H{origin(), {"1", "0", "1"}, {"1", "1", "2"}, {"0", "1", "2"}}, api.W{"1", "0", "0", "0", "1", "0", "0", "1", "1"}},
		{"and back", [4]api.H{origin(), {"1", "0", "1"}, {"1/2", "1/2", "1"}, {"0", "1/2", "1"}}, square(), api.W{"1", "0", "0", "0", "1", "0", "0", "-1", "1"}},
		{"a square turned", square(), [4]api.H{{"1", "0", "1"}, ones(), {"0", "1", "1"}, origin()}, api.W{"0", "1", "-1", "-1", "0", "0", "0", "0", "-1"}},
		{"a square shifted", square(), [4]api.H{{"2", "3", "1"}, {"3", "3", "1"}, {"3", "4", "1"}, {"2", "4", "1"}}, shift()},
		{"all of it", frame(), [4]api.H{{"1", "4", "7"}, {"-2", "-5", "-8"}, {"3/7", "6/7", "10/7"}, {"6", "15", "25"}}, toTen()},
	} {
		same(t, x.what, must[api.W](t, x.what)(Four(x.p, x.q)), x.want)
	}
}

func TestFourOnALine(t *testing.T) {
	for i := range 4 {
		// All but the one left out lie on a line.
		l := [4]api.H{right(), up(), {"1", "-3", "0"}, {"1/2", "5", "0"}}
		l[i] = ones()
		refused[api.W](t, "three of p", api.ErrFlat)(Four(l, frame()))
		refused[api.W](t, "three of q", api.ErrFlat)(Four(frame(), l))
		refused[api.W](t, "three of both", api.ErrFlat)(Four(l, l))
		for j := range i {
			l := square()
			l[i] = many(l[j], whole(-2))
			refused[api.W](t, "two of p are one", api.ErrFlat)(Four(l, frame()))
			refused[api.W](t, "two of q are one", api.ErrFlat)(Four(frame(), l))
		}
	}
	all := [4]api.H{right(), up(), {"1", "-3", "0"}, {"1/2", "5", "0"}}
	refused[api.W](t, "all of p", api.ErrFlat)(Four(all, frame()))
	refused[api.W](t, "all of q", api.ErrFlat)(Four(frame(), all))
	refused[api.W](t, "nothing at all", api.ErrFlat)(Four([4]api.H{}, [4]api.H{}))
}

func TestApply(t *testing.T) {
	for _, x := range []struct {
		what    string
		w       api.W
		p, want api.H
	}{
		{"all stays", still(), api.H{"-2", "4", "6"}, api.H{"1", "-2", "-3"}},
		{"a shift", shift(), ones(), api.H{"3", "4", "1"}},
		{"a shift, out of the plane", shift(), api.H{"2", "-5", "0"}, api.H{"2", "-5", "0"}},
		{"out of the plane", api.W{"1", "0", "0", "0", "1", "0", "1", "0", "-1"}, api.H{"1", "5", "1"}, api.H{"1", "5", "0"}},
		{"into the plane", api.W{"1", "0", "0", "0", "1", "0", "1", "0", "-1"}, right(), api.H{"1", "0", "1"}},
		{"all of it", toTen(), api.H{"1", "-1", "2"}, api.H{"5", "11", "19"}},
		{"however often", manyMap(toTen(), big.NewRat(-1, 6)), api.H{"1/2", "-1/2", "1"}, api.H{"5", "11", "19"}},
		{"what is no fraction is 0", api.W{"01", "x", "1/0", "", "2/2", "+1", "-0", "--1", "-1"}, api.H{"1", "2", "-3"}, api.H{"1", "2", "3"}},
	} {
		same(t, x.what, must[api.H](t, x.what)(Apply(x.w, x.p)), x.want)
	}
}

func TestCarry(t *testing.T) {
	for _, x := range []struct {
		what    string
		w       api.W
		l, want api.H
	}{
		{"all stays", still(), api.H{"-2", "4", "6"}, api.H{"1", "-2", "-3"}},
		{"a shift", shift(), api.H{"1", "1", "-3"}, api.H{"1", "1", "-8"}},
		{"a shift, the line out of the plane", shift(), origin(), origin()},
		{"a stretch", double(), api.H{"1", "1", "-3"}, api.H{"1", "1", "-6"}},
		{"out of the plane", api.W{"1", "0", "0", "0", "1", "0", "1", "0", "-1"}, api.H{"1", "0", "-1"}, origin()},
		{"all of it, the first", toTen(), right(), api.H{"2", "4", "-3"}},
		{"all of it", toTen(), api.H{"1", "-1", "2"}, api.H{"2", "-9", "5"}},
		{"however often", manyMap(toTen(), big.NewRat(-1, 6)), api.H{"-1/2", "1/2", "-1"}, api.H{"2", "-9", "5"}},
		{"what is no fraction is 0", api.W{"01", "x", "1/0", "", "2/2", "+1", "-0", "--1", "-1"}, api.H{"1", "2", "-3"}, api.H{"1", "2", "3"}},
	} {
		same(t, x.what, must[api.H](t, x.what)(Carry(x.w, x.l)), x.want)
	}
}

func TestAfter(t *testing.T) {
	for _, x := range []struct {
		what       string
		w, v, want api.W
	}{
		{"a shift, then twice", double(), shift(), api.W{"2", "0", "4", "0", "2", "6", "0", "0", "1"}},
		{"twice, then a shift", shift(), double(), api.W{"2", "0", "2", "0", "2", "3", "0", "0", "1"}},
		{"nothing, then all of it", toTen(), still(), toTen()},
		{"all of it, then nothing", still(), manyMap(toTen(), big.NewRat(-2, 3)), toTen()},
		{"all of it, twice", toTen(), toTen(), api.W{"30", "36", "45", "66", "81", "102", "109", "134", "169"}},
		{"all of it, then a shift", shift(), toTen(), api.W{"15", "18", "23", "25", "29", "36", "7", "8", "10"}},
		{"a shift, then all of it", toTen(), shift(), api.W{"1", "2", "11", "4", "5", "29", "7", "8", "48"}},
		{"a common divisor", api.W{"1", "0", "0", "0", "2", "0", "0", "0", "4"}, api.W{"-4", "0", "0", "0", "2", "0", "0", "0", "1"}, api.W{"1", "0", "0", "0", "-1", "0", "0", "0", "-1"}},
		{"what is no fraction is 0", api.W{"x", "01", "1/0", "", "+1", "1", "-1", "", "-0"}, still(), api.W{"0", "1", "0", "0", "0", "1", "-1", "0", "0"}},
	} {
		same(t, x.what, must[api.W](t, x.what)(After(x.w, x.v)), x.want)
	}
}

func TestBack(t *testing.T) {
	for _, x := range []struct {
		what    string
		w, want api.W
	}{
		{"nothing", still(), still()},
		{"a shift", shift(), api.W{"1", "0", "-2", "0", "1", "-3", "0", "0", "1"}},
		{"twice as great", double(), api.W{"1", "0", "0", "0", "1", "0", "0", "0", "2"}},
		{"two changed", api.W{"0", "1", "0", "2", "0", "0", "0", "0", "1"}, api.W{"0", "1", "0", "2", "0", "0", "0", "0", "2"}},
		{"all go round", api.W{"0", "1", "0", "0", "0", "1", "1", "0", "0"}, api.W{"0", "0", "1", "1", "0", "0", "0", "1", "0"}},
		{"all of it", toTen(), api.W{"2", "4", "-3", "2", "-11", "6", "-3", "6", "-3"}},
		{"however often", manyMap(toTen(), big.NewRat(-1, 6)), api.W{"2", "4", "-3", "2", "-11", "6", "-3", "6", "-3"}},
		{"what is no fraction is 0", api.W{"01", "x", "1/0", "", "2/2", "+1", "-0", "--1", "-1"}, api.W{"1", "0", "0", "0", "1", "0", "0", "0", "-1"}},
	} {
		same(t, x.what, must[api.W](t, x.what)(Back(x.w)), x.want)
	}
}

func TestGreatLength(t *testing.T) {
	noughts := api.Q(strings.Repeat("0", 1500))
	great, small := "1"+noughts, "1/1"+noughts
	same(t, "plain", must[api.H](t, "plain")(Plain(api.H{small, "-1", great})), api.H{"1", "-" + great, great + noughts})
	same(t, "join", must[api.H](t, "join")(Join(api.H{great, "0", "1"}, api.H{"0", great, "1"})), api.H{"1", "1", "-" + great})
	same(t, "on", must[bool](t, "on")(On(api.H{great, "1", "0"}, api.H{small, "-1", "7"})), true)
	same(t, "nearly on", must[bool](t, "on")(On(api.H{great, "1", small}, api.H{small, "-1", "7"})), false)
	same(t, "ratio", must[api.Q](t, "ratio")(Ratio(right(), origin(), level(great), level(small))), small+noughts)
	same(t, "harmonic", must[api.H](t, "harmonic")(Harmonic(right(), origin(), level(great))), api.H{great, "0", "-1"})
	wide := api.W{great, "0", "0", "0", "1", "0", "0", "0", "1"}
	same(t, "four", must[api.W](t, "four")(Four(frame(), [4]api.H{right(), up(), origin(), {great, "1", "1"}})), wide)
	same(t, "apply", must[api.H](t, "apply")(Apply(wide, api.H{small, "1", "1"})), ones())
	same(t, "carry", must[api.H](t, "carry")(Carry(wide, ones())), api.H{"1", great, great})
	same(t, "after", must[api.W](t, "after")(After(wide, wide)), api.W{great + noughts, "0", "0", "0", "1", "0", "0", "0", "1"})
	same(t, "back", must[api.W](t, "back")(Back(wide)), api.W{"1", "0", "0", "0", great, "0", "0", "0", great})
}
