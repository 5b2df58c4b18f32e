package move

import (
	"strings"
	"testing"

	"compass/api"
)

func still() api.A { return api.A{"1", "0", "0", "0", "1", "0"} }

func shift() api.A { return api.A{"1", "0", "2", "0", "1", "3"} }

func double() api.A { return api.A{"2", "0", "0", "0", "2", "0"} }

// toSix is a map whose numbers all differ.
func toSix() api.A { return api.A{"1", "2", "3", "4", "5", "6"} }

// odd has what is no fraction, and so is 0, beside what is written otherwise than it is answered.
func odd() api.A { return api.A{"02/2", "x", "1/0", "+1", "-6/-3", "-010/4"} }

// quarter turns by a right angle around the point 1, 0.
func quarter() api.A { return api.A{"0", "-1", "1", "1", "0", "-1"} }

// flats: what takes all to a line or a point.
func flats() []api.A {
	return []api.A{
		{}, {"0", "0", "5", "0", "0", "7"}, {"1", "1", "0", "1", "1", "0"}, {"1", "2", "3", "-1/2", "-1", "4"},
		{"1", "0", "0", "0", "0", "1"}, {"0", "1", "0", "0", "1", "0"}, {"1", "0", "0", "0", "1/0", "0"}, {"x", "1", "0", "+1", "2", "0"}, odd(),
	}
}

// growing: what doesn't keep distances.
func growing() []api.A {
	return append(flats(), double(), toSix(),
		api.A{"2", "0", "0", "0", "1", "0"}, api.A{"1", "0", "0", "0", "2", "0"}, api.A{"2", "0", "0", "0", "1/2", "0"}, api.A{"1", "1", "0", "0", "1", "0"}, api.A{"1", "0", "0", "-1", "1", "0"},
		api.A{"3/5", "4/5", "0", "4/5", "3/5", "0"}, api.A{"3/5", "3/5", "0", "4/5", "4/5", "0"}, api.A{"0", "1", "0", "-2", "0", "0"}, api.A{"1", "-1", "0", "1", "1", "0"},
		api.A{"1", "0", "0", "0", "1000000000001/1000000000000", "0"}, api.A{"3/5", "-4/5", "1", "4/5", "4/5", "0"}, api.A{"1", "1/1000000000000", "0", "0", "1", "0"},
	)
}

// noLines: what is handed in as a line and is none.
func noLines() []api.L {
	return []api.L{{}, ln("0", "0", "1"), ln("-0", "0/3", "-2"), ln("x", "1/0", "5"), ln("+1", "--1", "1")}
}

func TestApply(t *testing.T) {
	for _, x := range []struct {
		what    string
		a       api.A
		p, want api.P
	}{
		{"all stays", still(), pt("-2/4", "03"), pt("-1/2", "3")},
		{"a shift", shift(), pt("1", "-1/2"), pt("3", "5/2")},
		{"a quarter turn", quarter(), pt("3", "1"), pt("0", "2")},
		{"all of it", toSix(), pt("10", "100"), pt("213", "546")},
		{"fractions", api.A{"1/2", "1/3", "1/5", "-1/2", "0", "-7"}, pt("2", "-3"), pt("1/5", "-8")},
		{"to a line", api.A{"1", "1", "0", "1", "1", "0"}, pt("2", "5"), pt("7", "7")},
		{"nothing at all", api.A{}, pt("2", "5"), pt("0", "0")},
		{"what is no fraction is 0", odd(), pt("7", "x"), pt("7", "-5/2")},
	} {
		same(t, x.what, Apply(x.a, x.p), x.want)
	}
}

func TestAfter(t *testing.T) {
	for _, x := range []struct {
		what       string
		a, b, want api.A
	}{
		{"a shift, then twice", double(), shift(), api.A{"2", "0", "4", "0", "2", "6"}},
		{"twice, then a shift", shift(), double(), api.A{"2", "0", "2", "0", "2", "3"}},
		{"nothing, then all of it", toSix(), still(), toSix()},
		{"all of it, then nothing", still(), toSix(), toSix()},
		{"all of it, twice", toSix(), toSix(), api.A{"9", "12", "18", "24", "33", "48"}},
		{"all of it, then a shift", shift(), toSix(), api.A{"1", "2", "5", "4", "5", "9"}},
		{"a shift, then all of it", toSix(), shift(), api.A{"1", "2", "11", "4", "5", "29"}},
		{"a quarter turn, twice", quarter(), quarter(), api.A{"-1", "0", "2", "0", "-1", "0"}},
		{"number by number", double(), api.A{"2", "-4", "6", "0", "1/2", "8"}, api.A{"4", "-8", "12", "0", "1", "16"}},
		{"the document's mirrors", api.A{"-1", "0", "2", "0", "1", "0"}, api.A{"-1", "0", "0", "0", "1", "0"}, api.A{"1", "0", "2", "0", "1", "0"}},
		{"nothing at all", api.A{}, toSix(), api.A{"0", "0", "0", "0", "0", "0"}},
		{"what is no fraction is 0", odd(), still(), api.A{"1", "0", "0", "0", "0", "-5/2"}},
	} {
		same(t, x.what, After(x.a, x.b), x.want)
	}
}

func TestDet(t *testing.T) {
	for _, x := range []struct {
		what string
		a    api.A
		want api.Q
	}{
		{"nothing", still(), "1"},
		{"a shift", shift(), "1"},
		{"twice as long", double(), "4"},
		{"all of it", toSix(), "-3"},
		{"fractions", api.A{"1/2", "1/3", "9", "-1/4", "1/6", "9"}, "1/6"},
	} {
		same(t, x.what, Det(x.a), x.want)
	}
	for _, a := range flats() {
		same(t, "flat", Det(a), "0")
	}
}

func TestBack(t *testing.T) {
	for _, x := range []struct {
		what    string
		a, want api.A
	}{
		{"nothing", still(), still()},
		{"a shift", shift(), api.A{"1", "0", "-2", "0", "1", "-3"}},
		{"twice as long", double(), api.A{"1/2", "0", "0", "0", "1/2", "0"}},
		{"a quarter turn", quarter(), api.A{"0", "1", "1", "-1", "0", "1"}},
		{"all of it", toSix(), api.A{"-5/3", "2/3", "1", "4/3", "-1/3", "-2"}},
		{"what is no fraction is 0", api.A{"x", "02", "+1", "-1/2", "1/0", "1"}, api.A{"0", "-2", "2", "1/2", "0", "0"}},
	} {
		same(t, x.what, must[api.A](t, x.what)(Back(x.a)), x.want)
	}
	for _, a := range flats() {
		refused[api.A](t, "flat", api.ErrFlat)(Back(a))
	}
}

func TestThree(t *testing.T) {
	frame := [3]api.P{pt("0", "0"), pt("1", "0"), pt("0", "1")}
	askew := [3]api.P{pt("1", "1"), pt("3", "2"), pt("0", "5/2")}
	for _, x := range []struct {
		what string
		p, q [3]api.P
		want api.A
	}{
		{"all stays", askew, askew, still()},
		{"all of it", frame, [3]api.P{pt("3", "6"), pt("4", "10"), pt("5", "11")}, toSix()},
		{"two changed", frame, [3]api.P{pt("0", "0"), pt("0", "1"), pt("1", "0")}, api.A{"0", "1", "0", "1", "0", "0"}},
		{"from askew", askew, frame, api.A{"3/8", "1/4", "-5/8", "-1/4", "1/2", "-1/4"}},
		{"to askew", frame, askew, api.A{"2", "-1", "1", "1", "3/2", "1"}},
		{"to a line", askew, [3]api.P{pt("0", "0"), pt("1", "1"), pt("2", "2")}, api.A{"-1/8", "5/4", "-9/8", "-1/8", "5/4", "-9/8"}},
		{"to a point", askew, [3]api.P{pt("7", "1/2"), pt("7", "02/4"), pt("14/2", "1/2")}, api.A{"0", "0", "7", "0", "0", "1/2"}},
		{"what is no fraction is 0", [3]api.P{pt("x", "1/0"), pt("01", ""), pt("+1", "2/2")}, [3]api.P{pt("", "y"), pt("2", "--1"), pt("1/0", "-3")}, api.A{"2", "0", "0", "0", "-3", "0"}},
	} {
		same(t, x.what, must[api.A](t, x.what)(Three(x.p, x.q)), x.want)
	}
	for _, p := range [][3]api.P{
		{}, {pt("1", "2"), pt("1", "2"), pt("3", "4")}, {pt("1", "2"), pt("3", "4"), pt("1", "2")}, {pt("3", "4"), pt("1", "2"), pt("02/2", "2")},
		{pt("0", "0"), pt("1", "1"), pt("2", "2")}, {pt("1/2", "0"), pt("0", "1/3"), pt("-1/2", "2/3")}, {pt("x", "1"), pt("1/0", "5"), pt("+3", "-2")},
	} {
		refused[api.A](t, "on a line", api.ErrFlat)(Three(p, askew))
		refused[api.A](t, "both on a line", api.ErrFlat)(Three(p, p))
	}
}

func TestMirror(t *testing.T) {
	for _, x := range []struct {
		what string
		l    api.L
		want api.A
	}{
		{"a steep line", ln("1", "0", "-1"), api.A{"-1", "0", "2", "0", "1", "0"}},
		{"a level line", ln("0", "1", "3"), api.A{"1", "0", "0", "0", "-1", "-6"}},
		{"y = x", ln("1", "-1", "0"), api.A{"0", "1", "0", "1", "0", "0"}},
		{"askew", ln("1", "2", "-5"), api.A{"3/5", "-4/5", "2", "-4/5", "-3/5", "4"}},
		{"not plain", ln("-1/3", "-2/3", "05/3"), api.A{"3/5", "-4/5", "2", "-4/5", "-3/5", "4"}},
		{"what is no fraction is 0", ln("x", "-1", "1/0"), api.A{"1", "0", "0", "0", "-1", "0"}},
	} {
		same(t, x.what, must[api.A](t, x.what)(Mirror(x.l)), x.want)
	}
	for _, l := range noLines() {
		refused[api.A](t, "no line", api.ErrFlat)(Mirror(l))
	}
}

func TestSpin(t *testing.T) {
	for _, x := range []struct {
		what string
		m, z api.P
		want api.A
	}{
		{"a quarter turn", pt("1", "0"), pt("0", "1"), quarter()},
		{"a half turn", pt("1", "2"), pt("-1", "0"), api.A{"-1", "0", "2", "0", "-1", "4"}},
		{"no turn", pt("1", "2"), pt("1", "0"), still()},
		{"a stretch", pt("1", "2"), pt("3", "0"), api.A{"3", "0", "-2", "0", "3", "-4"}},
		{"a turn and a stretch", pt("0", "1"), pt("1", "2"), api.A{"1", "-2", "2", "2", "1", "0"}},
		{"fractions", pt("1/2", "0"), pt("3/5", "4/5"), api.A{"3/5", "-4/5", "1/5", "4/5", "3/5", "-2/5"}},
		{"all to the middle", pt("1", "-2/4"), pt("0", "0"), api.A{"0", "0", "1", "0", "0", "-1/2"}},
		{"what is no fraction is 0", pt("x", "1/0"), pt("+1", "-01"), api.A{"0", "1", "0", "-1", "0", "0"}},
	} {
		same(t, x.what, Spin(x.m, x.z), x.want)
	}
}

func TestKind(t *testing.T) {
	for _, x := range []struct {
		what string
		a    api.A
		want int
	}{
		{"still", still(), api.Still},
		{"still, other texts", api.A{"3/3", "0/7", "-0", "", "01", "y"}, api.Still},
		{"a shift", shift(), api.Shift},
		{"a shift to the right", api.A{"1", "0", "1/1000000000000", "0", "1", "0"}, api.Shift},
		{"a shift up", api.A{"1", "0", "0", "0", "1", "-1"}, api.Shift},
		{"a quarter turn", quarter(), api.Spin},
		{"a half turn", api.A{"-1", "0", "0", "0", "-1", "0"}, api.Spin},
		{"a half turn elsewhere", api.A{"-1", "0", "7", "0", "-1", "1/2"}, api.Spin},
		{"a turn", api.A{"3/5", "-4/5", "1", "4/5", "3/5", "0"}, api.Spin},
		{"a turn with the clock", api.A{"5/13", "12/13", "0", "-12/13", "5/13", "0"}, api.Spin},
		{"a mirror", api.A{"-1", "0", "2", "0", "1", "0"}, api.Mirror},
		{"a mirror through the origin", api.A{"0", "1", "0", "1", "0", "0"}, api.Mirror},
		{"a mirror askew", api.A{"3/5", "-4/5", "2", "-4/5", "-3/5", "4"}, api.Mirror},
		{"a mirror at a level line", api.A{"1", "0", "0", "0", "-1", "-6"}, api.Mirror},
		{"a mirror, other texts", api.A{"02/2", "x", "1/0", "-0", "-1", "+7"}, api.Mirror},
		{"a glide", api.A{"-1", "0", "2", "0", "1", "1"}, api.Glide},
		{"a glide along a level line", api.A{"1", "0", "-1", "0", "-1", "5"}, api.Glide},
		{"a glide along y = x", api.A{"0", "1", "1", "1", "0", "1"}, api.Glide},
		{"a mirror beside y = x", api.A{"0", "1", "1", "1", "0", "-1"}, api.Mirror},
		{"a glide askew", api.A{"3/5", "-4/5", "4", "-4/5", "-3/5", "3"}, api.Glide},
	} {
		same(t, x.what, must[int](t, x.what)(Kind(x.a)), x.want)
	}
	for _, a := range growing() {
		refused[int](t, "it grows", api.ErrForm)(Kind(a))
	}
}

func TestMirrors(t *testing.T) {
	for _, a := range growing() {
		l, e := Mirrors(a)
		refused[int](t, "it grows", api.ErrForm)(len(l), e)
		same(t, "no list", l == nil, true)
	}
	l, e := Mirrors(still())
	same(t, "still", len(l), 0)
	same(t, "still", e, api.OK)
	// There is but one mirror that is one mirror.
	for _, x := range []struct {
		a    api.A
		want api.L
	}{
		{api.A{"-1", "0", "2", "0", "1", "0"}, ln("1", "0", "-1")},
		{api.A{"0", "1", "0", "1", "0", "0"}, ln("1", "-1", "0")},
		{api.A{"1", "0", "0", "0", "-1", "0"}, ln("0", "1", "0")},
		{api.A{"-1", "0", "0", "0", "1", "0"}, ln("1", "0", "0")},
		{api.A{"3/5", "-4/5", "2", "-4/5", "-3/5", "4"}, ln("1", "2", "-5")},
		{api.A{"0", "1", "1", "1", "0", "-1"}, ln("1", "-1", "-1")},
	} {
		l, e := Mirrors(x.a)
		same(t, "a mirror", e, api.OK)
		if len(l) != 1 || l[0] != x.want {
			t.Errorf("a mirror: %v, want %v", l, x.want)
		}
	}
}

// TestMirrorsAreNew: what is done to an answer isn't seen in the next one.
func TestMirrorsAreNew(t *testing.T) {
	first, _ := Mirrors(quarter())
	want := [2]api.L(first)
	first[0], first[1] = api.L{}, api.L{}
	second, e := Mirrors(quarter())
	same(t, "again", e, api.OK)
	same(t, "again", [2]api.L(second), want)
}

func TestFixed(t *testing.T) {
	for _, x := range []struct {
		what string
		a    api.A
		want stays
	}{
		{"still", still(), stays{all: true}},
		{"still, other texts", api.A{"3/3", "x", "1/0", "+1", "01", ""}, stays{all: true}},
		{"a shift", shift(), stays{e: api.ErrNone}},
		{"a shift to the right", api.A{"1", "0", "2", "0", "1", "0"}, stays{e: api.ErrNone}},
		{"a shift up", api.A{"1", "0", "0", "0", "1", "2"}, stays{e: api.ErrNone}},
		{"a quarter turn", quarter(), stays{p: pt("1", "0")}},
		{"a turn", api.A{"3/5", "-4/5", "1", "4/5", "3/5", "0"}, stays{p: pt("1/2", "1")}},
		{"twice as long", double(), stays{p: pt("0", "0")}},
		{"all of it", toSix(), stays{p: pt("0", "-3/2")}},
		{"all to a point", api.A{"0", "0", "-6/4", "0", "0", "07"}, stays{p: pt("-3/2", "7")}},
		{"nothing at all", api.A{}, stays{p: pt("0", "0")}},
		{"all to a line, of which a point stays", api.A{"1", "1", "0", "1", "1", "0"}, stays{p: pt("0", "0")}},
		{"all to a line, of which none stays", api.A{"1", "0", "1", "0", "0", "5"}, stays{e: api.ErrNone}},
		{"all to a line that stays", api.A{"1", "0", "0", "0", "0", "5"}, stays{l: ln("0", "1", "-5"), e: api.ErrFree}},
		{"all to a line askew", api.A{"1/2", "1/2", "0", "1/2", "1/2", "0"}, stays{l: ln("1", "-1", "0"), e: api.ErrFree}},
		{"a steep mirror", api.A{"-1", "0", "2", "0", "1", "0"}, stays{l: ln("1", "0", "-1"), e: api.ErrFree}},
		{"a level mirror", api.A{"1", "0", "0", "0", "-1", "-6"}, stays{l: ln("0", "1", "3"), e: api.ErrFree}},
		{"a mirror askew", api.A{"3/5", "-4/5", "2", "-4/5", "-3/5", "4"}, stays{l: ln("1", "2", "-5"), e: api.ErrFree}},
		{"a glide", api.A{"-1", "0", "2", "0", "1", "1"}, stays{e: api.ErrNone}},
		{"a glide along a level line", api.A{"1", "0", "1", "0", "-1", "0"}, stays{e: api.ErrNone}},
		{"a glide askew", api.A{"3/5", "-4/5", "4", "-4/5", "-3/5", "3"}, stays{e: api.ErrNone}},
		{"slanted", api.A{"1", "1/2", "-3", "0", "1", "0"}, stays{l: ln("0", "1", "-6"), e: api.ErrFree}},
		{"slanted and shifted", api.A{"1", "1", "0", "0", "1", "3"}, stays{e: api.ErrNone}},
		{"stretched across", api.A{"3", "0", "-5", "0", "1", "0"}, stays{l: ln("2", "0", "-5"), e: api.ErrFree}},
		{"stretched across, and shifted along", api.A{"3", "0", "-5", "0", "1", "1"}, stays{e: api.ErrNone}},
	} {
		same(t, x.what, staysOf(x.a), x.want)
	}
}

func TestGreatLength(t *testing.T) {
	noughts := api.Q(strings.Repeat("0", 1500))
	great, small := "1"+noughts, "1/1"+noughts
	wide := api.A{great, "0", "1", "0", "1", great}
	same(t, "apply", Apply(wide, pt(small, "-"+great)), pt("2", "0"))
	same(t, "after", After(wide, wide), api.A{great + noughts, "0", "1" + noughts[1:] + "1", "0", "1", "2" + noughts})
	same(t, "det", Det(wide), great)
	same(t, "back", must[api.A](t, "back")(Back(wide)), api.A{small, "0", "-" + small, "0", "1", "-" + great})
	same(t, "three", must[api.A](t, "three")(Three([3]api.P{pt("0", "0"), pt(small, "0"), pt("0", "1")}, [3]api.P{pt("1", great), pt("2", great), pt("1", "1"+noughts[1:]+"1")})), wide)
	same(t, "mirror", must[api.A](t, "mirror")(Mirror(ln(small, "0", "-1"))), api.A{"-1", "0", "2" + noughts, "0", "1", "0"})
	same(t, "spin", Spin(pt(great, "0"), pt("0", "1")), api.A{"0", "-1", great, "1", "0", "-" + great})
	same(t, "a shift", must[int](t, "kind")(Kind(api.A{"1", "0", small, "0", "1", "0"})), api.Shift)
	same(t, "a glide", must[int](t, "kind")(Kind(api.A{"-1", "0", great, "0", "1", small})), api.Glide)
	refused[int](t, "nearly", api.ErrForm)(Kind(api.A{"1", small, "0", "0", "1", "0"}))
	same(t, "one stays", staysOf(api.A{"0", "-1", great, "1", "0", "-" + great}), stays{p: pt(great, "0")})
	same(t, "a line stays", staysOf(api.A{"1", small, "1", "0", "1", "0"}), stays{l: ln("0", "1", great), e: api.ErrFree})
	l, e := Mirrors(api.A{"-1", "0", great, "0", "1", "0"})
	same(t, "mirrors", e, api.OK)
	same(t, "mirrors", [1]api.L(l), [1]api.L{ln("1", "0", "-5"+noughts[1:])})
}
