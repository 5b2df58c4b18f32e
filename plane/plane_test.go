package plane

import (
	"slices"
	"strings"
	"testing"

	"compass/api"
)

func pt(x, y api.Q) api.P { return api.P{X: x, Y: y} }

func same[T comparable](t *testing.T, what string, got, want T) {
	t.Helper()
	if got != want {
		t.Errorf("%s: %v, want %v", what, got, want)
	}
}

// bad: texts that are no fraction, or are divided by 0: all of them count as 0.
func bad() []api.Q {
	return []api.Q{"", "-", "+1", "--1", "1/", "/1", "1/-2", "1/2/3", " 1", "1 ", "1.5", "1e2", "x", "1x", "١", "\xff", "1/0", "-1/0", "0/0", "7/000"}
}

func TestFar2(t *testing.T) {
	same(t, "a right triangle", Far2(pt("0", "0"), pt("3", "-4")), "25")
	same(t, "back", Far2(pt("3", "-4"), pt("0", "0")), "25")
	same(t, "fractions", Far2(pt("1/2", "1/3"), pt("0", "0")), "13/36")
	same(t, "one point", Far2(pt("2/4", "-7"), pt("1/2", "-07")), "0")
	same(t, "noughts and signs ahead", Far2(pt("-003", "-0"), pt("0", "04/001")), "25")
	same(t, "without a bar", Far2(pt("1/2", "0"), pt("-1/2", "0")), "1")
}

func TestArea2AndTurn(t *testing.T) {
	for _, c := range []struct {
		what    string
		a, b, c api.P
		area    api.Q
		turn    int
	}{
		{"against the clock", pt("0", "0"), pt("4", "0"), pt("0", "3"), "12", 1},
		{"with the clock", pt("0", "0"), pt("0", "3"), pt("4", "0"), "-12", -1},
		{"away from the origin", pt("5", "7"), pt("9", "7"), pt("5", "10"), "12", 1},
		{"fractions", pt("0", "0"), pt("-1/2", "0"), pt("0", "1/3"), "-1/6", -1},
		{"on a line", pt("1", "1"), pt("2", "2"), pt("-3", "-3"), "0", 0},
		{"two are one", pt("1", "2"), pt("1", "2"), pt("8", "9"), "0", 0},
		{"all are one", pt("1", "2"), pt("01", "4/2"), pt("3/3", "2"), "0", 0},
		{"as good as on a line", pt("0", "0"), pt("1", "1"), pt("1000000000000000000000", "1000000000000000000001"), "1", 1},
		{"below that", pt("0", "0"), pt("1", "1"), pt("1", "999999999999999999999/1000000000000000000000"), "-1/1000000000000000000000", -1},
	} {
		same(t, c.what, Area2(c.a, c.b, c.c), c.area)
		same(t, c.what, Turn(c.a, c.b, c.c), c.turn)
	}
}

func TestAt(t *testing.T) {
	p, q := pt("1", "1"), pt("3", "0")
	same(t, "beyond", At(p, q, "3/2"), pt("4", "-1/2"))
	same(t, "start", At(p, q, "0"), p)
	same(t, "end", At(p, q, "1"), q)
	same(t, "half way", At(p, q, "2/4"), pt("2", "1/2"))
	same(t, "back", At(p, q, "-1"), pt("-1", "2"))
	same(t, "one point", At(p, p, "77/3"), p)
	same(t, "lowest terms", At(pt("08/5", "-3/06"), pt("0", "0"), "-0"), pt("8/5", "-1/2"))
	same(t, "zero values", At(api.P{}, api.P{}, ""), pt("0", "0"))
}

func TestWhatIsNoFractionCountsAsNought(t *testing.T) {
	for _, b := range bad() {
		same(t, "far "+string(b), Far2(pt(b, "3"), pt("4", b)), "25")
		same(t, "area "+string(b), Area2(pt(b, b), pt("4", b), pt(b, "3")), "12")
		same(t, "turn "+string(b), Turn(pt(b, b), pt(b, "3"), pt("4", b)), -1)
		same(t, "at "+string(b), At(pt("1", "2"), pt("3", "4"), b), pt("1", "2"))
		same(t, "point at "+string(b), At(pt(b, b), pt("3", b), "1/3"), pt("1", "0"))
		k, e := Ratio(pt(b, b), pt("2", b), pt("1", b))
		same(t, "ratio "+string(b), k, "1/2")
		same(t, "ratio "+string(b), e, api.OK)
		m, e := Mean([]api.P{pt("6", b), pt("9", "9")}, []api.Q{"1", b})
		same(t, "mean "+string(b), m, pt("6", "0"))
		same(t, "mean "+string(b), e, api.OK)
		m, e = Mean([]api.P{pt("6", "6")}, []api.Q{b})
		same(t, "no weight "+string(b), m, api.P{})
		same(t, "no weight "+string(b), e, api.ErrNone)
	}
}

func TestRatio(t *testing.T) {
	for _, c := range []struct {
		what    string
		a, b, p api.P
		k       api.Q
		e       api.Errno
	}{
		{"beyond", pt("1", "1"), pt("3", "0"), pt("4", "-1/2"), "3/2", api.OK},
		{"at a", pt("1", "1"), pt("3", "0"), pt("1", "01"), "0", api.OK},
		{"at b", pt("1", "1"), pt("3", "0"), pt("6/2", "0"), "1", api.OK},
		{"back", pt("1", "1"), pt("3", "0"), pt("-1", "2"), "-1", api.OK},
		{"upright", pt("2", "1"), pt("2", "4"), pt("2", "2"), "1/3", api.OK},
		{"level", pt("1", "2"), pt("4", "2"), pt("-1", "2"), "-2/3", api.OK},
		{"off", pt("1", "1"), pt("3", "0"), pt("4", "0"), "", api.ErrNone},
		{"off an upright line", pt("2", "1"), pt("2", "4"), pt("3", "2"), "", api.ErrNone},
		{"a hair off", pt("0", "0"), pt("1", "1"), pt("1000000000000000000000", "1000000000000000000001"), "", api.ErrNone},
		{"one point", pt("1", "1"), pt("1", "1"), pt("4", "0"), "", api.ErrFlat},
		{"one point, told twice", pt("1/2", "1"), pt("02/4", "5/5"), pt("4", "0"), "", api.ErrFlat},
		{"all one point", pt("1", "1"), pt("1", "1"), pt("1", "1"), "", api.ErrFlat},
		{"zero values", api.P{}, api.P{}, api.P{}, "", api.ErrFlat},
	} {
		k, e := Ratio(c.a, c.b, c.p)
		same(t, c.what, k, c.k)
		same(t, c.what, e, c.e)
	}
}

func TestRatioIsBackOfAt(t *testing.T) {
	for i := range 60 {
		g := newGuess(i)
		a, b, k := g.point(), g.point(), g.fraction()
		got, e := Ratio(a, b, At(a, b, k))
		if rat(Far2(a, b)).Sign() == 0 {
			same(t, "one point", e, api.ErrFlat)
			continue
		}
		same(t, "ratio", e, api.OK)
		same(t, "ratio", got, api.Q(rat(k).RatString()))
	}
}

func many(n int) ([]api.P, []api.Q) {
	return slices.Repeat([]api.P{pt("3", "-1/2")}, n), slices.Repeat([]api.Q{"1"}, n)
}

func TestMean(t *testing.T) {
	l := []api.P{pt("0", "0"), pt("6", "0"), pt("0", "3")}
	full, fullWeights := many(api.MaxPoints)
	over, overWeights := many(api.MaxPoints + 1)
	for _, c := range []struct {
		what string
		l    []api.P
		w    []api.Q
		m    api.P
		e    api.Errno
	}{
		{"alike", l, []api.Q{"1", "1", "1"}, pt("2", "1"), api.OK},
		{"weighed", l, []api.Q{"1", "2", "3"}, pt("2", "3/2"), api.OK},
		{"fractions", l, []api.Q{"0", "1/2", "-1/3"}, pt("18", "-6"), api.OK},
		{"below 0 in all", l, []api.Q{"-1", "-1", "-01"}, pt("2", "1"), api.OK},
		{"one", l[1:2], []api.Q{"-7/3"}, pt("6", "0"), api.OK},
		{"one point twice", []api.P{l[1], l[1]}, []api.Q{"5", "1"}, pt("6", "0"), api.OK},
		{"as many as may be", full, fullWeights, pt("3", "-1/2"), api.OK},
		{"one too many", over, overWeights, api.P{}, api.ErrMany},
		{"too many ahead of the count", over, nil, api.P{}, api.ErrMany},
		{"many weights alone", full, overWeights, api.P{}, api.ErrCount},
		{"too few weights", l, []api.Q{"1", "1"}, api.P{}, api.ErrCount},
		{"too many weights", l, []api.Q{"1", "1", "1", "1"}, api.P{}, api.ErrCount},
		{"the count ahead of the sum", l, []api.Q{"1", "-1"}, api.P{}, api.ErrCount},
		{"no weights", l, nil, api.P{}, api.ErrCount},
		{"no points", nil, []api.Q{"1"}, api.P{}, api.ErrCount},
		{"together 0", l, []api.Q{"1", "-1", "0"}, api.P{}, api.ErrNone},
		{"together 0, by fractions", l, []api.Q{"1/2", "-5/6", "1/3"}, api.P{}, api.ErrNone},
		{"all 0", l, []api.Q{"0", "-0", "0/3"}, api.P{}, api.ErrNone},
		{"none", nil, nil, api.P{}, api.ErrNone},
		{"none, not nil", []api.P{}, []api.Q{}, api.P{}, api.ErrNone},
	} {
		m, e := Mean(c.l, c.w)
		same(t, c.what, m, c.m)
		same(t, c.what, e, c.e)
	}
}

func TestMeanOnlyReads(t *testing.T) {
	l := []api.P{pt("04/2", "1"), pt("x", "1/0"), pt("9", "9"), pt("8", "8")}
	w := []api.Q{"02", "3/6", "7", "8"}
	keepL, keepW := slices.Clone(l), slices.Clone(w)
	first, _ := Mean(l[:2], w[:2])
	if !slices.Equal(l, keepL) || !slices.Equal(w, keepW) {
		t.Errorf("changed: %v %v", l, w)
	}
	l[0], w[0] = pt("100", "100"), "100"
	same(t, "not kept", first, pt("8/5", "4/5"))
	again, _ := Mean(keepL[:2], keepW[:2])
	same(t, "told alike again", again, first)
}

func TestGreatLength(t *testing.T) {
	nines := api.Q(strings.Repeat("9", 3000))
	ten := "1" + api.Q(strings.Repeat("0", 3000))
	noughts := api.Q(strings.Repeat("0", 3000))
	same(t, "far", Far2(pt(nines, "0"), pt(ten, "0")), "1")
	squared := api.Q(times(rat(nines), rat(nines)).RatString())
	same(t, "one point", Far2(pt(noughts+"1/"+noughts+"2", "1/"+nines), pt("1/2", nines+"/"+squared)), "0")
	same(t, "area", Area2(pt("0", "0"), pt("1/"+nines, "0"), pt("0", nines)), "1")
	same(t, "turn", Turn(pt("0", "0"), pt("1", "1"), pt(nines+"/"+ten, "1")), 1)
	same(t, "at", At(pt("0", "0"), pt("1/"+nines, ten), nines), pt("1", nines+noughts))
	k, e := Ratio(pt("0", "0"), pt(ten, ten), pt(nines, nines))
	same(t, "ratio", k, nines+"/"+ten)
	same(t, "ratio", e, api.OK)
	_, e = Ratio(pt("0", "0"), pt(ten, ten), pt(nines, ten))
	same(t, "off by 1", e, api.ErrNone)
	m, e := Mean([]api.P{pt("0", nines), pt(ten, nines)}, []api.Q{"1/" + ten, nines + "/" + ten})
	same(t, "mean", m, pt(nines, nines))
	same(t, "mean", e, api.OK)
	_, e = Mean([]api.P{pt("1", "1"), pt("2", "2")}, []api.Q{"-" + nines, noughts + nines})
	same(t, "together 0", e, api.ErrNone)
}
