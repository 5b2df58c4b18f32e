package grid

import (
	"math"
	"slices"
	"strings"
	"testing"

	"compass/api"
)

const (
	top     = "9223372036854775807" // 2 to the power of 63, less 1
	power   = "9223372036854775808" // 2 to the power of 63
	beyond  = "9223372036854775809"
	twiceUp = "18446744073709551617" // twice power, and 1
)

func noughts(n int) api.Q { return api.Q(strings.Repeat("0", n)) }

func TestFarey(t *testing.T) {
	for n, want := range map[int][]api.Q{
		1: {"0", "1"},
		2: {"0", "1/2", "1"},
		3: {"0", "1/3", "1/2", "2/3", "1"},
		4: {"0", "1/4", "1/3", "1/2", "2/3", "3/4", "1"},
		5: {"0", "1/5", "1/4", "1/3", "2/5", "1/2", "3/5", "2/3", "3/4", "4/5", "1"},
		6: {"0", "1/6", "1/5", "1/4", "1/3", "2/5", "1/2", "3/5", "2/3", "3/4", "4/5", "5/6", "1"},
	} {
		sameList(t, "farey", fareyOf(t, n), want)
	}
	for n := 1; n <= api.MaxFarey; n++ {
		sameList(t, "farey", fareyOf(t, n), fareyIn(n))
	}
	same(t, "as many as there can be", len(fareyOf(t, api.MaxFarey)), 279)
	for _, n := range []int{0, -1, -30, api.MaxFarey + 1, 1000, math.MaxInt, math.MinInt} {
		refused[api.Q](t, "too few, or too many", api.ErrMany)(Farey(n))
	}
}

func TestPath(t *testing.T) {
	for q, want := range map[api.Q][]int{
		"1": {0}, "2": {1}, "3": {2}, "4": {3}, "100": {99},
		"1/2": {0, 1}, "1/3": {0, 2}, "1/100": {0, 99},
		"3/2": {1, 1}, "2/3": {0, 1, 1}, "5/3": {1, 1, 1}, "3/5": {0, 1, 1, 1}, "5/2": {2, 1}, "2/5": {0, 2, 1},
		"7/5": {1, 2, 1}, "5/7": {0, 1, 2, 1}, "355/113": {3, 7, 15}, "19/7": {2, 1, 2, 1},
		"7/7": {0}, "010/04": {2, 1}, "0002": {1}, "6/2": {2},
		power: {math.MaxInt}, "1/" + power: {0, math.MaxInt}, top: {math.MaxInt - 1},
		// 2 to the power of 64, less 1, over 2; and that upside down.
		"18446744073709551615/2": {math.MaxInt, 1}, "2/18446744073709551615": {0, math.MaxInt, 1},
	} {
		sameList(t, string(q), pathOf(t, q), want)
	}
}

// TestPathWrong: what isn't above 0 is told ahead of what is too long.
func TestPathWrong(t *testing.T) {
	for _, q := range []api.Q{"0", "-0", "-1", "-5/3", "0/5", "", "x", "1/0", "5/-3", "+1", "--1", "1.5", " 1", "-" + noughts(100) + "1", noughts(61), noughts(5000), "1/" + noughts(70), "1x" + noughts(70)} {
		refused[int](t, "not above 0: "+string(q), api.ErrValue)(Path(q))
	}
	for _, q := range []api.Q{
		"1" + noughts(60), noughts(60) + "1", "1/" + noughts(58) + "1", noughts(30) + "1/" + noughts(30) + "1", "1" + noughts(5000), "1/1" + noughts(5000),
	} {
		refused[int](t, "too long: "+string(q), api.ErrMany)(Path(q))
	}
	for _, q := range []api.Q{
		beyond, twiceUp + "/2", "1/" + beyond, "2/" + twiceUp, "1" + noughts(59), "1/1" + noughts(57),
		// The great run is the last one of several; then it is in the middle.
		"9223372036854775811/9223372036854775810", "18446744073709551619/18446744073709551617",
	} {
		refused[int](t, "a run too great: "+string(q), api.ErrMany)(Path(q))
	}
}

// TestPathLength: a text of as many bytes as may be, and one more.
func TestPathLength(t *testing.T) {
	sameList(t, "noughts ahead", pathOf(t, noughts(59)+"2"), []int{1})
	sameList(t, "noughts in both", pathOf(t, noughts(28)+"5/"+noughts(29)+"3"), []int{1, 1, 1})
	refused[int](t, "one nought more", api.ErrMany)(Path(noughts(60) + "2"))
	// Neighbours of 1, 1, 2, 3, 5 .. go to and fro as often as can be: too often for Stand.
	const great, least api.Q = "59425114757512643212875125", "36726740705505779255899443"
	runs := slices.Repeat([]int{1}, 123)
	sameList(t, "to and fro", pathOf(t, great+"/"+least), runs)
	sameList(t, "upside down", pathOf(t, least+"/"+great), append([]int{0}, runs...))
	refusedStand(t, "to and fro", api.ErrMany, runs)
}

func TestStand(t *testing.T) {
	for _, x := range []struct {
		runs []int
		want api.Q
	}{
		{nil, "1"}, {[]int{}, "1"}, {[]int{0}, "1"}, {[]int{0, 0}, "1"}, {[]int{0, 0, 0}, "1"}, {make([]int, api.MaxTimes), "1"},
		{[]int{1}, "2"}, {[]int{3}, "4"}, {[]int{0, 1}, "1/2"}, {[]int{0, 3}, "1/4"},
		{[]int{1, 1}, "3/2"}, {[]int{1, 1, 1}, "5/3"}, {[]int{0, 1, 1, 1}, "3/5"}, {[]int{3, 7, 15}, "355/113"},
		{[]int{1, 0}, "2"}, {[]int{1, 0, 1}, "3"}, {[]int{1, 0, 0, 1}, "3/2"}, {[]int{0, 1, 0, 1}, "1/3"}, {[]int{0, 0, 5}, "6"}, {[]int{0, 0, 0, 5}, "1/6"},
		{[]int{2, 0, 3, 1, 0, 2, 0}, "21/4"},
		{[]int{math.MaxInt}, power}, {[]int{0, math.MaxInt}, "1/" + power}, {[]int{math.MaxInt, 0, math.MaxInt}, "18446744073709551615"},
	} {
		same(t, "stand", standOf(t, x.runs), x.want)
		same(t, "stand, folded", standIn(x.runs), x.want)
	}
	great := slices.Repeat([]int{math.MaxInt}, api.MaxTimes)
	same(t, "as far as can be", standOf(t, great), standIn(great))
	ones := slices.Repeat([]int{1}, api.MaxTimes)
	same(t, "to and fro", standOf(t, ones), "4052739537881/2504730781961")
}

func TestStandWrong(t *testing.T) {
	for _, runs := range [][]int{{-1}, {0, -1}, {1, -1}, {1, 2, 3, math.MinInt}, {math.MinInt, 1}, append(make([]int, api.MaxTimes-1), -1)} {
		refusedStand(t, "below 0", api.ErrValue, runs)
	}
	for _, runs := range [][]int{make([]int, api.MaxTimes+1), slices.Repeat([]int{-1}, api.MaxTimes+1), make([]int, 5000), append(make([]int, api.MaxTimes), -1)} {
		refusedStand(t, "too many", api.ErrMany, runs)
	}
}

func TestFord(t *testing.T) {
	for q, want := range map[api.Q]api.C{
		"0":      {M: pt("0", "1/2"), R2: "1/4"},
		"1":      {M: pt("1", "1/2"), R2: "1/4"},
		"-5":     {M: pt("-5", "1/2"), R2: "1/4"},
		"1/2":    {M: pt("1/2", "1/8"), R2: "1/64"},
		"2/4":    {M: pt("1/2", "1/8"), R2: "1/64"},
		"-07/3":  {M: pt("-7/3", "1/18"), R2: "1/324"},
		"100/99": {M: pt("100/99", "1/19602"), R2: "1/384238404"},
		"x":      {M: pt("0", "1/2"), R2: "1/4"},
		"":       {M: pt("0", "1/2"), R2: "1/4"},
		"5/0":    {M: pt("0", "1/2"), R2: "1/4"},
		"-0":     {M: pt("0", "1/2"), R2: "1/4"},
	} {
		same(t, string(q), Ford(q), want)
	}
	long := noughts(1000)
	same(t, "of great length", Ford("1/5"+long), api.C{M: pt("1/5"+long, "1/50"+long+long), R2: "1/2500" + long + long + long + long})
}

func TestShort(t *testing.T) {
	for _, x := range []struct{ a, b, u, v api.P }{
		{pt("1", "0"), pt("0", "1"), pt("1", "0"), pt("0", "1")},
		{pt("0", "1"), pt("1", "0"), pt("0", "1"), pt("1", "0")},
		{pt("1", "0"), pt("5", "1"), pt("1", "0"), pt("0", "1")},
		{pt("5", "1"), pt("1", "0"), pt("1", "0"), pt("0", "1")},
		{pt("-5", "1"), pt("1", "0"), pt("1", "0"), pt("0", "1")},
		// Half way between two: the lesser one is taken.
		{pt("2", "0"), pt("1", "5"), pt("2", "0"), pt("1", "5")},
		{pt("2", "0"), pt("-1", "5"), pt("2", "0"), pt("1", "5")},
		{pt("2", "0"), pt("3", "5"), pt("2", "0"), pt("1", "5")},
		{pt("2", "0"), pt("-3", "5"), pt("2", "0"), pt("1", "5")},
		{pt("-2", "0"), pt("1", "5"), pt("-2", "0"), pt("-1", "5")},
		{pt("-1", "5"), pt("2", "0"), pt("2", "0"), pt("1", "5")},
		// Both as long: the one that was v stays so, at first b, then the one from which was taken.
		{pt("3", "4"), pt("4", "3"), pt("1", "-1"), pt("4", "3")},
		{pt("4", "3"), pt("3", "4"), pt("-1", "1"), pt("3", "4")},
		{pt("3", "4"), pt("-4", "3"), pt("3", "4"), pt("-4", "3")},
		{pt("1", "0"), pt("1", "1"), pt("1", "0"), pt("0", "1")},
		{pt("1", "1"), pt("1", "0"), pt("1", "0"), pt("0", "1")},
		{pt("7", "1"), pt("5", "5"), pt("-2", "4"), pt("5", "5")},
		// Nothing is to be taken, but the longer one becomes v.
		{pt("0", "3"), pt("2", "0"), pt("2", "0"), pt("0", "3")},
		// In each step the other one is the longer.
		{pt("13", "8"), pt("21", "13"), pt("1", "0"), pt("0", "-1")},
		{pt("4/2", "x"), pt("-1/-1", "010/2"), pt("2", "0"), pt("0", "5")},
	} {
		u, v := shortOf(t, x.a, x.b)
		wantU, wantV := shortIn(spotAt(x.a), spotAt(x.b))
		same(t, "u as told", wantU.text(), x.u)
		same(t, "v as told", wantV.text(), x.v)
		same(t, "u", u, x.u)
		same(t, "v", v, x.v)
	}
}

// TestShortWrong: what isn't whole is told ahead of what lies on a line.
func TestShortWrong(t *testing.T) {
	one := pt("1", "0")
	for _, p := range []api.P{pt("1/2", "0"), pt("0", "-7/3"), pt("5", "1/1000000000000000000000"), pt("1/2", "1/2")} {
		refusedShort(t, "not whole", api.ErrValue, p, one)
		refusedShort(t, "not whole", api.ErrValue, one, p)
		refusedShort(t, "not whole", api.ErrValue, p, p)
		refusedShort(t, "not whole", api.ErrValue, p, api.P{})
	}
	for _, p := range []api.P{one, pt("5", "0"), pt("-5", "0"), pt("0", "0"), {}, pt("x", "1/0"), pt("10/5", "-0")} {
		refusedShort(t, "on a line", api.ErrFlat, p, one)
		refusedShort(t, "on a line", api.ErrFlat, one, p)
	}
	refusedShort(t, "both nowhere", api.ErrFlat, api.P{}, api.P{})
	refusedShort(t, "slanting", api.ErrFlat, pt("6", "-9"), pt("-10", "15"))
	refusedShort(t, "upright", api.ErrFlat, pt("0", "7"), pt("0", "3"))
	shortOf(t, pt("100000000000000000000", "1"), pt("100000000000000000001", "1"))
}

func TestNear(t *testing.T) {
	for q, want := range map[api.Q][]api.Q{
		"0": {"0"}, "1": {"1"}, "-3": {"-3"}, "x": {"0"}, "": {"0"}, "1/0": {"0"}, "12/4": {"3"},
		"1/2": {"0", "1/2"}, "-1/2": {"-1", "-1/2"}, "3/2": {"1", "3/2"}, "-3/2": {"-2", "-3/2"}, "2/3": {"0", "1", "2/3"},
		"1/3": {"0", "1/3"}, "-1/3": {"-1", "0", "-1/3"}, "02/06": {"0", "1/3"},
		"-7/5": {"-2", "-1", "-3/2", "-7/5"}, "7/5": {"1", "3/2", "7/5"},
		"355/113": {"3", "22/7", "355/113"}, "-355/113": {"-4", "-3", "-22/7", "-355/113"},
		"314159/100000": {"3", "22/7", "333/106", "355/113", "9208/2931", "9563/3044", "76149/24239", "314159/100000"},
	} {
		sameList(t, string(q), nearOf(t, q), want)
		sameList(t, string(q)+", folded", nearIn(rat(q)), want)
	}
}

// TestNearLength: a text of as many bytes as may be, and one more, whatever it tells.
func TestNearLength(t *testing.T) {
	sameList(t, "noughts ahead", nearOf(t, noughts(59)+"7"), []api.Q{"7"})
	sameList(t, "below 0", nearOf(t, "-"+noughts(56)+"7/5"), []api.Q{"-2", "-1", "-3/2", "-7/5"})
	sameList(t, "no fraction", nearOf(t, api.Q(strings.Repeat("x", 60))), []api.Q{"0"})
	// Bytes count, and not what they stand for: each of these is two.
	sameList(t, "as many bytes as may be", nearOf(t, api.Q(strings.Repeat("é", 30))), []api.Q{"0"})
	refused[api.Q](t, "few signs, but too many bytes", api.ErrMany)(Near(api.Q(strings.Repeat("é", 31))))
	great := "1" + noughts(59)
	sameList(t, "great", nearOf(t, great), []api.Q{great})
	little := "1/1" + noughts(57)
	sameList(t, "little", nearOf(t, little), []api.Q{"0", little})
	for _, q := range []api.Q{noughts(60) + "7", "-" + noughts(57) + "7/5", noughts(61), api.Q(strings.Repeat("x", 61)), "1" + noughts(60), "1/" + noughts(59), "1" + noughts(5000)} {
		refused[api.Q](t, "too long: "+string(q), api.ErrMany)(Near(q))
	}
}

// TestOnlyRead: neither the list nor the spare room behind it is changed.
func TestOnlyRead(t *testing.T) {
	made := func() []int { return append([]int{0, 3, 0, 1, 7, math.MaxInt, 2}, slices.Repeat([]int{5}, 60)...) }
	for n := range 64 {
		runs := made()
		Stand(runs[:n])
		sameList(t, "runs", runs, made())
	}
}

// TestAnswersAreNew: what is done to an answer isn't seen in the next one.
func TestAnswersAreNew(t *testing.T) {
	farey, path, near := fareyOf(t, 7), pathOf(t, "355/113"), nearOf(t, "-7/5")
	clear(farey[:cap(farey)])
	clear(path[:cap(path)])
	clear(near[:cap(near)])
	sameList(t, "farey again", fareyOf(t, 7), fareyIn(7))
	sameList(t, "path again", pathOf(t, "355/113"), []int{3, 7, 15})
	sameList(t, "near again", nearOf(t, "-7/5"), []api.Q{"-2", "-1", "-3/2", "-7/5"})
}

func TestGreatLength(t *testing.T) {
	a, b := pt("1"+noughts(1500), "7"+noughts(700)+"3"), pt("-3"+noughts(1300)+"1", "9"+noughts(1400)+"7")
	u, v := shortOf(t, a, b)
	wantU, wantV := shortIn(spotAt(a), spotAt(b))
	same(t, "u", u, wantU.text())
	same(t, "v", v, wantV.text())
	u, v = shortOf(t, pt("1", "0"), pt("1"+noughts(3000), "1"))
	same(t, "u", u, pt("1", "0"))
	same(t, "v", v, pt("0", "1"))
}
