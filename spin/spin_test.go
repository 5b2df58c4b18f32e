package spin

import (
	"strings"
	"testing"

	"compass/api"
)

func none() api.S { return qn("0", "0", "0", "0") }

// nones: what is handed in as a quaternion and is 0.
func nones() []api.S {
	return []api.S{{}, none(), qn("-0", "000", "0/5", "-0/7"), qn("1/0", "-2/0", "00/0", "0"), qn("x", " 1", "1.5", "+1"), qn("1/-2", "--1", "1/", "/1"), qn("1e3", "١", "0x1", "1 ")}
}

func TestTimes(t *testing.T) {
	one, i, j, k := qn("1", "0", "0", "0"), qn("0", "1", "0", "0"), qn("0", "0", "1", "0"), qn("0", "0", "0", "1")
	less := qn("-1", "0", "0", "0")
	for _, x := range []struct {
		what       string
		a, b, want api.S
	}{
		{"1 1", one, one, one}, {"1 i", one, i, i}, {"1 j", one, j, j}, {"1 k", one, k, k},
		{"i 1", i, one, i}, {"j 1", j, one, j}, {"k 1", k, one, k},
		{"i i", i, i, less}, {"j j", j, j, less}, {"k k", k, k, less},
		{"i j", i, j, k}, {"j k", j, k, i}, {"k i", k, i, j},
		{"j i", j, i, qn("0", "0", "0", "-1")}, {"k j", k, j, qn("0", "-1", "0", "0")}, {"i k", i, k, qn("0", "0", "-1", "0")},
		{"i j k", Times(i, j), k, less},
		{"all numbers", qn("1", "2", "3", "4"), qn("5", "6", "7", "8"), qn("-60", "12", "30", "24")},
		{"the other way", qn("5", "6", "7", "8"), qn("1", "2", "3", "4"), qn("-60", "20", "14", "32")},
		{"fractions", qn("1/2", "-1/3", "0", "2"), qn("3", "1/4", "-2/5", "1"), qn("-5/12", "-3/40", "19/30", "199/30")},
		{"ways", qn("0", "1", "2", "3"), qn("0", "4", "-5", "6"), qn("-12", "27", "6", "-13")},
		{"a number", qn("2", "0", "0", "0"), qn("1/3", "1", "-1", "5"), qn("2/3", "2", "-2", "10")},
		{"a number, behind", qn("1/3", "1", "-1", "5"), qn("-2", "0", "0", "0"), qn("-2/3", "-2", "2", "-10")},
		{"complex numbers", qn("1", "2", "0", "0"), qn("3", "-1", "0", "0"), qn("5", "5", "0", "0")},
		{"the way turned round", qn("1", "2", "3", "4"), qn("1", "-2", "-3", "-4"), qn("30", "0", "0", "0")},
		{"not in lowest terms", qn("02/4", "-3/9", "-0", "10/5"), qn("003", "2/8", "-4/10", "1"), qn("-5/12", "-3/40", "19/30", "199/30")},
		{"what is no fraction is 0", qn("1/0", "2", "x", "+1"), qn("", "1", "1/1", "-"), qn("-2", "0", "0", "2")},
	} {
		same(t, x.what, Times(x.a, x.b), x.want)
	}
	for _, a := range nones() {
		same(t, "0 ahead", Times(a, qn("1", "-2", "3/4", "5")), none())
		same(t, "0 behind", Times(qn("1", "-2", "3/4", "5"), a), none())
	}
}

func TestNorm(t *testing.T) {
	for _, x := range []struct {
		a    api.S
		want api.Q
	}{
		{qn("1", "0", "0", "1"), "2"},
		{qn("1", "2", "3", "4"), "30"},
		{qn("-1", "-2", "-3", "-4"), "30"},
		{qn("3", "0", "0", "0"), "9"},
		{qn("0", "-3", "0", "0"), "9"},
		{qn("0", "0", "-1/2", "0"), "1/4"},
		{qn("0", "0", "0", "7"), "49"},
		{qn("1/2", "-1/3", "0", "2"), "157/36"},
		{qn("1/2", "1/2", "1/2", "-1/2"), "1"},
		{qn("3/5", "0", "04/05", "0"), "1"},
		{qn("x", "2", "1/0", "1.5"), "4"},
	} {
		same(t, "norm", Norm(x.a), x.want)
	}
	for _, a := range nones() {
		same(t, "norm of 0", Norm(a), "0")
	}
}

func TestBack(t *testing.T) {
	for _, x := range []struct{ a, want api.S }{
		{qn("1", "0", "0", "1"), qn("1/2", "0", "0", "-1/2")},
		{qn("1", "2", "3", "4"), qn("1/30", "-1/15", "-1/10", "-2/15")},
		{qn("0", "0", "0", "1"), qn("0", "0", "0", "-1")},
		{qn("-1/2", "1/3", "0", "1"), qn("-18/49", "-12/49", "0", "-36/49")},
		{qn("2", "0", "0", "0"), qn("1/2", "0", "0", "0")},
		{qn("0", "3/5", "-4/5", "0"), qn("0", "-3/5", "4/5", "0")},
		{qn("1", "1", "1", "1"), qn("1/4", "-1/4", "-1/4", "-1/4")},
		{qn("x", "-0", "2/4", "1/0"), qn("0", "0", "-2", "0")},
	} {
		answers(t, "back", x.want, api.OK)(Back(x.a))
	}
	for _, a := range nones() {
		answers(t, "back of 0", api.S{}, api.ErrNone)(Back(a))
	}
}

// turns are quaternions, a way that they turn, and their tables.
func turns() []struct {
	what    string
	a       api.S
	v, want api.P3
	table   [9]api.Q
} {
	return []struct {
		what    string
		a       api.S
		v, want api.P3
		table   [9]api.Q
	}{
		{"a quarter around k", qn("1", "0", "0", "1"), p3("1", "0", "5"), p3("0", "1", "5"), [9]api.Q{"0", "-1", "0", "1", "0", "0", "0", "0", "1"}},
		{"a quarter around i", qn("1", "1", "0", "0"), p3("0", "1", "0"), p3("0", "0", "1"), [9]api.Q{"1", "0", "0", "0", "0", "-1", "0", "1", "0"}},
		{"a quarter around j", qn("1", "0", "1", "0"), p3("0", "0", "1"), p3("1", "0", "0"), [9]api.Q{"0", "0", "1", "0", "1", "0", "-1", "0", "0"}},
		{"a third", qn("1", "1", "1", "1"), p3("1", "2", "3"), p3("3", "1", "2"), [9]api.Q{"0", "0", "1", "1", "0", "0", "0", "1", "0"}},
		{"a third, backwards", qn("1", "-1", "-1", "-1"), p3("1", "2", "3"), p3("2", "3", "1"), [9]api.Q{"0", "1", "0", "0", "0", "1", "1", "0", "0"}},
		{"a part", qn("2", "1", "0", "0"), p3("0", "1", "0"), p3("0", "3/5", "4/5"), [9]api.Q{"1", "0", "0", "0", "3/5", "-4/5", "0", "4/5", "3/5"}},
		{"all numbers", qn("1", "2", "3", "4"), p3("1", "0", "0"), p3("-2/3", "2/3", "1/3"), [9]api.Q{"-2/3", "2/15", "11/15", "2/3", "-1/3", "2/3", "1/3", "14/15", "2/15"}},
		{"fractions", qn("1/2", "-1/3", "0", "2"), p3("1/7", "-2", "5/3"), p3("317/1099", "2158/1099", "5575/3297"), [9]api.Q{"-131/157", "-72/157", "-48/157", "72/157", "-139/157", "12/157", "-48/157", "-12/157", "149/157"}},
		{"the same, however often", qn("-3/2", "1", "0", "-6"), p3("1/7", "-2", "5/3"), p3("317/1099", "2158/1099", "5575/3297"), [9]api.Q{"-131/157", "-72/157", "-48/157", "72/157", "-139/157", "12/157", "-48/157", "-12/157", "149/157"}},
		{"half around", qn("0", "1", "1", "0"), p3("1", "2", "3"), p3("2", "1", "-3"), [9]api.Q{"0", "1", "0", "1", "0", "0", "0", "0", "-1"}},
		{"not at all", qn("-3", "0", "0", "0"), p3("1", "2", "3"), p3("1", "2", "3"), [9]api.Q{"1", "0", "0", "0", "1", "0", "0", "0", "1"}},
		{"no way", qn("1", "1", "1", "1"), api.P3{}, p3("0", "0", "0"), [9]api.Q{"0", "0", "1", "1", "0", "0", "0", "1", "0"}},
		{"what is no fraction is 0", qn("02/02", "1/0", "x", "1"), p3("-03/3", "1.5", "10/2"), p3("0", "-1", "5"), [9]api.Q{"0", "-1", "0", "1", "0", "0", "0", "0", "1"}},
	}
}

func TestTurnAndTable(t *testing.T) {
	for _, x := range turns() {
		answers(t, x.what, x.want, api.OK)(Turn(x.a, x.v))
		answers(t, x.what, x.table, api.OK)(Table(x.a))
	}
	for _, a := range nones() {
		answers(t, "turn of 0", api.P3{}, api.ErrNone)(Turn(a, p3("1", "2", "3")))
		answers(t, "turn of 0 and 0", api.P3{}, api.ErrNone)(Turn(a, api.P3{}))
		answers(t, "table of 0", [9]api.Q{}, api.ErrNone)(Table(a))
	}
}

func TestOf(t *testing.T) {
	for _, x := range []struct {
		what string
		t    [9]api.Q
		want api.S
	}{
		{"all stays", [9]api.Q{"1", "0", "0", "0", "1", "0", "0", "0", "1"}, qn("1", "0", "0", "0")},
		{"a quarter around k", [9]api.Q{"0", "-1", "0", "1", "0", "0", "0", "0", "1"}, qn("1", "0", "0", "1")},
		{"a quarter back", [9]api.Q{"0", "1", "0", "-1", "0", "0", "0", "0", "1"}, qn("1", "0", "0", "-1")},
		{"a third", [9]api.Q{"0", "0", "1", "1", "0", "0", "0", "1", "0"}, qn("1", "1", "1", "1")},
		{"a part", [9]api.Q{"1", "0", "0", "0", "3/5", "-4/5", "0", "4/5", "3/5"}, qn("1", "1/2", "0", "0")},
		{"all numbers", [9]api.Q{"-2/3", "2/15", "11/15", "2/3", "-1/3", "2/3", "1/3", "14/15", "2/15"}, qn("1", "2", "3", "4")},
		{"fractions", [9]api.Q{"-131/157", "-72/157", "-48/157", "72/157", "-139/157", "12/157", "-48/157", "-12/157", "149/157"}, qn("1", "-2/3", "0", "4")},
		{"half around i", [9]api.Q{"1", "0", "0", "0", "-1", "0", "0", "0", "-1"}, qn("0", "1", "0", "0")},
		{"half around j", [9]api.Q{"-1", "0", "0", "0", "1", "0", "0", "0", "-1"}, qn("0", "0", "1", "0")},
		{"half around k", [9]api.Q{"-1", "0", "0", "0", "-1", "0", "0", "0", "1"}, qn("0", "0", "0", "1")},
		{"half around i + j", [9]api.Q{"0", "1", "0", "1", "0", "0", "0", "0", "-1"}, qn("0", "1", "1", "0")},
		{"half around i - j", [9]api.Q{"0", "-1", "0", "-1", "0", "0", "0", "0", "-1"}, qn("0", "1", "-1", "0")},
		{"half around j - k", [9]api.Q{"-1", "0", "0", "0", "0", "-1", "0", "-1", "0"}, qn("0", "0", "1", "-1")},
		{"half around 3 j + 4 k", [9]api.Q{"-1", "0", "0", "0", "-7/25", "24/25", "0", "24/25", "7/25"}, qn("0", "0", "1", "4/3")},
		{"half around 2 i - j - 2 k", [9]api.Q{"-1/9", "-4/9", "-8/9", "-4/9", "-7/9", "4/9", "-8/9", "4/9", "-1/9"}, qn("0", "1", "-1/2", "-1")},
		{"nearly half around", [9]api.Q{"-999999/1000001", "-2000/1000001", "0", "2000/1000001", "-999999/1000001", "0", "0", "0", "1"}, qn("1", "0", "0", "1000")},
		{"not in lowest terms", [9]api.Q{"00", "-3/3", "-0", "02/2", "0/9", "x", "1/0", "", "007/7"}, qn("1", "0", "0", "1")},
	} {
		answers(t, x.what, x.want, api.OK)(Of(x.t))
	}
}

func TestOfRefuses(t *testing.T) {
	for _, x := range []struct {
		what string
		t    [9]api.Q
	}{
		{"nothing", [9]api.Q{}},
		{"a mirror at x = 0", [9]api.Q{"-1", "0", "0", "0", "1", "0", "0", "0", "1"}},
		{"a mirror at y = 0", [9]api.Q{"1", "0", "0", "0", "-1", "0", "0", "0", "1"}},
		{"a mirror at z = 0", [9]api.Q{"1", "0", "0", "0", "1", "0", "0", "0", "-1"}},
		{"a mirror at x = y", [9]api.Q{"0", "1", "0", "1", "0", "0", "0", "0", "1"}},
		{"all turned round", [9]api.Q{"-1", "0", "0", "0", "-1", "0", "0", "0", "-1"}},
		{"twice as long", [9]api.Q{"2", "0", "0", "0", "2", "0", "0", "0", "2"}},
		{"longer and shorter", [9]api.Q{"2", "0", "0", "0", "1/2", "0", "0", "0", "1"}},
		{"the first row too long", [9]api.Q{"2", "0", "0", "0", "1", "0", "0", "0", "1"}},
		{"the second row too short", [9]api.Q{"1", "0", "0", "0", "1/2", "0", "0", "0", "1"}},
		{"the third row too long", [9]api.Q{"1", "0", "0", "0", "1", "0", "0", "0", "3"}},
		{"a third row of nothing", [9]api.Q{"1", "0", "0", "0", "1", "0", "0", "0", "0"}},
		{"a quarter, with a row of the axes", [9]api.Q{"0", "-1", "0", "1", "0", "0", "0", "1", "0"}},
		{"the first two not square", [9]api.Q{"1", "0", "0", "3/5", "4/5", "0", "0", "0", "1"}},
		{"the first and the third not square", [9]api.Q{"1", "0", "0", "0", "1", "0", "3/5", "0", "4/5"}},
		{"the last two not square", [9]api.Q{"1", "0", "0", "0", "1", "0", "0", "3/5", "4/5"}},
		{"two rows are one", [9]api.Q{"1", "0", "0", "1", "0", "0", "0", "0", "1"}},
		{"a shear", [9]api.Q{"1", "1", "0", "0", "1", "0", "0", "0", "1"}},
		{"columns as long as 1, rows not", [9]api.Q{"1", "3/5", "0", "0", "4/5", "0", "0", "0", "1"}},
		{"square, each of another length", [9]api.Q{"1", "1", "0", "1", "-1", "0", "0", "0", "-1"}},
		{"as good as one", [9]api.Q{"1", "0", "0", "0", "1", "0", "0", "0", "1000000000001/1000000000000"}},
		{"as good as square", [9]api.Q{"1", "0", "0", "0", "1", "0", "0", "1/1000000000000", "1"}},
		{"a quarter with a text that is none", [9]api.Q{"0", "-1.0", "0", "1", "0", "0", "0", "0", "1"}},
	} {
		answers(t, x.what, api.S{}, api.ErrForm)(Of(x.t))
	}
}

// spots are points of the plane, and of the sphere.
func spots() []struct {
	p  api.P
	on api.P3
} {
	return []struct {
		p  api.P
		on api.P3
	}{
		{pt("0", "3"), p3("0", "3/5", "4/5")},
		{pt("0", "0"), p3("0", "0", "-1")},
		{pt("1", "0"), p3("1", "0", "0")},
		{pt("0", "-1"), p3("0", "-1", "0")},
		{pt("-3/5", "4/5"), p3("-3/5", "4/5", "0")},
		{pt("3", "0"), p3("3/5", "0", "4/5")},
		{pt("2", "-1"), p3("2/3", "-1/3", "2/3")},
		{pt("3", "4"), p3("3/13", "4/13", "12/13")},
		{pt("1/2", "-1/3"), p3("36/49", "-24/49", "-23/49")},
		{pt("-3/5", "1/5"), p3("-6/7", "2/7", "-3/7")},
		{pt("1/1000000", "0"), p3("2000000/1000000000001", "0", "-999999999999/1000000000001")},
		{pt("0", "1000000"), p3("0", "2000000/1000000000001", "999999999999/1000000000001")},
	}
}

func TestBallAndSphere(t *testing.T) {
	for _, x := range spots() {
		same(t, "sphere", Sphere(x.p), x.on)
		answers(t, "ball", x.p, api.OK)(Ball(x.on))
	}
	same(t, "not in lowest terms", Sphere(pt("-02/4", "03/9")), p3("-36/49", "24/49", "-23/49"))
	same(t, "what is no fraction is 0", Sphere(pt("1/0", "x")), p3("0", "0", "-1"))
	same(t, "no texts", Sphere(api.P{}), p3("0", "0", "-1"))
	answers(t, "not in lowest terms", pt("3", "0"), api.OK)(Ball(p3("06/10", "-0", "8/10")))
	answers(t, "what is no fraction is 0", pt("0", "-1"), api.OK)(Ball(p3("1/0", "-1", "+1")))
}

func TestBallRefuses(t *testing.T) {
	for _, p := range []api.P3{top(), p3("0/3", "-0", "07/7"), p3("x", "1/0", "1"), {Z: "1"}} {
		answers(t, "top", api.P{}, api.ErrNone)(Ball(p))
	}
	for _, p := range []api.P3{{}, p3("0", "0", "2"), p3("1", "1", "1"), p3("1", "0", "1"), p3("0", "-1", "1"), p3("3/5", "4/5", "1"), p3("1/3", "1/3", "1/3"), p3("1/2", "1/2", "0"), p3("0", "0", "1/2"), p3("0", "0", "999999999999/1000000000000"), p3("1/1000000000000", "0", "1"), p3("1.0", "0", "0"), p3("2/0", "x", "+1")} {
		answers(t, "not on it", api.P{}, api.ErrValue)(Ball(p))
	}
}

func TestGreatLength(t *testing.T) {
	noughts := strings.Repeat("0", 2000)
	long := api.Q("1" + noughts)
	a := qn("1", long, "0", "0")
	same(t, "norm", Norm(a), api.Q("1"+strings.Repeat("0", 3999)+"1"))
	same(t, "times", Times(a, qn("0", "0", long, "1")), qn("0", "0", "0", api.Q("1"+strings.Repeat("0", 3999)+"1")))
	norm, nines := Norm(a), api.Q(strings.Repeat("9", 4000))
	answers(t, "back", qn("1/"+norm, "-"+long+"/"+norm, "0", "0"), api.OK)(Back(a))
	answers(t, "turn", p3("1", "-"+nines+"/"+norm, api.Q("2"+noughts)+"/"+norm), api.OK)(Turn(a, p3("1", "1", "0")))
	table := must[[9]api.Q](t, "table")(Table(a))
	same(t, "table", table, [9]api.Q{"1", "0", "0", "0", "-" + nines + "/" + norm, "-2" + api.Q(noughts) + "/" + norm, "0", "2" + api.Q(noughts) + "/" + norm, "-" + nines + "/" + norm})
	answers(t, "of", a, api.OK)(Of(table))
	on := p3("2"+api.Q(noughts)+"/"+norm, "0", nines+"/"+norm)
	same(t, "sphere", Sphere(pt(long, "0")), on)
	answers(t, "ball", pt(long, "0"), api.OK)(Ball(on))
}
