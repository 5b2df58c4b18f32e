package grid

import (
	"math/big"
	"slices"
	"testing"

	"compass/api"
	"compass/circle"
	"compass/plane"
)

const rounds = 400

// enough: much of what was made at random must have been in such a place that something could be told.
func enough(t *testing.T, what string, told int) {
	t.Helper()
	if told < rounds/20 {
		t.Errorf("%s: only %d of %d told", what, told, rounds)
	}
}

func one(holds bool) int {
	if holds {
		return 1
	}
	return 0
}

func lieOf(t *testing.T, a, b api.Q) int {
	t.Helper()
	return must[int](t, "lie")(circle.Lie(Ford(a), Ford(b)))
}

// TestNeighbours: neighbours make 1 across, their circles touch, and what stands between them is of a lower number that is too great.
func TestNeighbours(t *testing.T) {
	for n := 1; n <= api.MaxFarey; n++ {
		l := fareyOf(t, n)
		for i, q := range l[1:] {
			p := l[i]
			same(t, "across", text(across(p, q)), "1")
			same(t, "touch", lieOf(t, p, q), api.Touches)
			same(t, "between", plus(lower(p), lower(q)).Cmp(whole64(int64(n))) > 0, true)
		}
		for i, q := range l {
			same(t, "the same from above", text(less(whole64(1), rat(q))), l[len(l)-1-i])
		}
	}
}

// TestFareyGrows: a list has all of the one ahead, and as many more as numbers below n have nothing in common with it.
func TestFareyGrows(t *testing.T) {
	for n := 2; n <= api.MaxFarey; n++ {
		before, l := fareyOf(t, n-1), fareyOf(t, n)
		kept := slices.DeleteFunc(slices.Clone(l), func(q api.Q) bool { return lower(q).Cmp(whole64(int64(n))) == 0 })
		sameList(t, "kept", kept, before)
		more := 0
		for k := 1; k < n; k++ {
			more += one(new(big.Int).GCD(nil, nil, big.NewInt(int64(k)), big.NewInt(int64(n))).Cmp(big.NewInt(1)) == 0)
		}
		same(t, "more", len(l)-len(before), more)
	}
}

// TestFordOfAll: no two cross; two touch, if they make 1 across; each touches the level line at its fraction.
func TestFordOfAll(t *testing.T) {
	touch := 0
	for i := range rounds {
		g := newGuess(i)
		p, q := g.fraction(), g.fraction()
		if i%3 == 0 {
			// The last ones of Near are neighbours.
			l := nearOf(t, p)
			p, q = l[len(l)-1], l[max(len(l)-2, 0)]
		}
		c := Ford(p)
		same(t, "at its fraction", c.M.X, text(rat(p)))
		same(t, "it touches the line", text(times(rat(c.M.Y), rat(c.M.Y))), c.R2)
		same(t, "lower number", text(times(whole64(2), times(lower(p), lower(p)))), text(upside(rat(c.M.Y))))
		if rat(p).Cmp(rat(q)) == 0 {
			same(t, "the same", lieOf(t, p, q), api.Same)
			continue
		}
		want := api.Outside
		if new(big.Rat).Abs(across(p, q)).Cmp(whole64(1)) == 0 {
			want = api.Touches
			touch++
		}
		same(t, "lie", lieOf(t, p, q), want)
	}
	enough(t, "touch", touch)
}

// TestNoFordsCross: all of a list with each other.
func TestNoFordsCross(t *testing.T) {
	l := fareyOf(t, 12)
	for i, p := range l {
		for _, q := range l[i+1:] {
			want := api.Outside
			if text(across(p, q)) == "1" {
				want = api.Touches
			}
			same(t, "lie", lieOf(t, p, q), want)
		}
	}
}

// TestPathOfAll: step by step, where that ends soon.
func TestPathOfAll(t *testing.T) {
	for up := int64(1); up <= 40; up++ {
		for low := int64(1); low <= 40; low++ {
			r := big.NewRat(up, low)
			sameList(t, "path of "+string(text(r)), pathOf(t, text(r)), pathIn(r))
		}
	}
}

// wayTo is the path to q; false, if a run is too great, and told so.
func wayTo(t *testing.T, q api.Q) ([]int, bool) {
	t.Helper()
	numbers := numbersIn(rat(q))
	last := len(numbers) - 1
	numbers[last] = less(numbers[last], whole64(1))
	for _, number := range numbers {
		if !number.Num().IsInt64() {
			refused[int](t, "a run too great: "+string(q), api.ErrMany)(Path(q))
			return nil, false
		}
	}
	return pathOf(t, q), true
}

// TestThereAndBack: Stand of Path is q, unless there are too many runs for Stand.
func TestThereAndBack(t *testing.T) {
	told, great := 0, 0
	for i := range rounds {
		q := newGuess(i).above()
		runs, ok := wayTo(t, q)
		if !ok {
			great++
			continue
		}
		same(t, "none behind the first is 0", slices.Contains(runs[1:], 0), false)
		same(t, "folded", standIn(runs), text(rat(q)))
		if len(runs) > api.MaxTimes {
			refusedStand(t, "too many", api.ErrMany, runs)
			continue
		}
		same(t, "there and back", standOf(t, runs), text(rat(q)))
		told++
	}
	enough(t, "there and back", told)
	same(t, "some are too great", great > 0, true)
}

// TestBackAndThere: Path of Stand is the runs, if none behind the first is 0, unless the text is too long for Path.
func TestBackAndThere(t *testing.T) {
	told, long := 0, 0
	for i := range rounds {
		runs := newGuess(i).runs()
		stand := standOf(t, runs)
		same(t, "stand", stand, standIn(runs))
		for j, run := range runs {
			if j > 0 && run == 0 {
				runs[j] = 1
			}
		}
		stand = standOf(t, runs)
		if len(stand) > api.MaxTimes {
			refused[int](t, "too long", api.ErrMany)(Path(stand))
			long++
		} else if len(runs) > 0 {
			sameList(t, "back and there", pathOf(t, stand), runs)
			told++
		}
	}
	enough(t, "back and there", told)
	enough(t, "too long", long)
}

// TestRunsOfZero: a run of 0 between two joins them, and one at the end is nothing.
func TestRunsOfZero(t *testing.T) {
	for i := range rounds {
		g := newGuess(i)
		q := g.above()
		runs, ok := wayTo(t, q)
		if !ok || len(runs) > api.MaxTimes-3 {
			continue
		}
		same(t, "at the end", standOf(t, append(slices.Clone(runs), 0)), text(rat(q)))
		at := g.r.Intn(len(runs))
		k := 0
		if runs[at] > 0 {
			k = g.r.Intn(runs[at])
		}
		split := slices.Concat(runs[:at], []int{k, 0, runs[at] - k}, runs[at+1:])
		same(t, "in the middle", standOf(t, split), text(rat(q)))
		same(t, "upside down", standOf(t, append([]int{0}, runs...)), text(upside(rat(q))))
	}
}

// TestNearOfAll: each but the last is no farther from q than the lower numbers tell; they lie on both sides in turn, and neighbours make 1 across.
func TestNearOfAll(t *testing.T) {
	told := 0
	for i := range rounds {
		q := newGuess(i).fraction()
		r := rat(q)
		l := nearOf(t, q)
		sameList(t, "near "+string(q), l, nearIn(r))
		same(t, "the last one", l[len(l)-1], text(r))
		same(t, "the first one", l[0], text(down(r)))
		for j, next := range l[1:] {
			p := l[j]
			apart := less(r, rat(p))
			same(t, "side", apart.Sign(), 1-j%2*2)
			most := upside(times(lower(p), lower(next)))
			same(t, "no farther", apart.Abs(apart).Cmp(most) <= 0, true)
			same(t, "across", text(across(p, next)), text(whole64(int64(1-j%2*2))))
			told++
		}
	}
	enough(t, "near", told)
}

// TestNearAndPath: with the runs of Path, the last one of them less 1, one gets to where Near is cut.
func TestNearAndPath(t *testing.T) {
	for i := range rounds {
		q := newGuess(i).above()
		near := nearOf(t, q)
		runs, ok := wayTo(t, q)
		if !ok {
			continue
		}
		same(t, "as many", len(near), len(runs))
		for j := range min(len(runs)-1, api.MaxTimes) {
			cut := slices.Clone(runs[:j+1])
			if cut[j] > 0 {
				cut[j]--
				same(t, "cut", standOf(t, cut), near[j])
			}
		}
	}
}

// shortestBy tries all of the grid that are some times u and some times v, up to four either way.
func shortestBy(t *testing.T, what string, u, v spotAs) {
	t.Helper()
	for i := int64(-4); i <= 4; i++ {
		for j := int64(-4); j <= 4; j++ {
			p := u.times(whole64(i)).plus(v.times(whole64(j)))
			if (i != 0 || j != 0) && p.dot(p).Cmp(u.dot(u)) < 0 {
				t.Errorf("%s: %v is shorter than %v", what, p.text(), u.text())
			}
		}
	}
}

// TestShortOfAll: what the words say; both span as much, and the same grid, and u is as short as any of it.
func TestShortOfAll(t *testing.T) {
	flat, told, turned := 0, 0, 0
	for i := range 2 * rounds {
		g := newGuess(i)
		a, b := g.spot(), g.spot()
		if i%10 == 0 {
			b = spotAt(a).times(rat(g.wholeNumber())).text()
		}
		from, to := spotAt(a), spotAt(b)
		area := from.cross(to)
		if area.Sign() == 0 {
			refusedShort(t, "on a line", api.ErrFlat, a, b)
			flat++
			continue
		}
		u, v := shortOf(t, a, b)
		wantU, wantV := shortIn(from, to)
		same(t, "u", u, wantU.text())
		same(t, "v", v, wantV.text())
		now := spotAt(u).cross(spotAt(v))
		same(t, "spanned", text(new(big.Rat).Abs(now)), text(new(big.Rat).Abs(area)))
		turned += one(now.Cmp(area) != 0)
		for _, p := range []spotAs{from, to} {
			same(t, "some times u", over(p.cross(spotAt(v)), now).IsInt(), true)
			same(t, "some times v", over(spotAt(u).cross(p), now).IsInt(), true)
		}
		same(t, "v is no shorter", rat(plane.Far2(api.P{}, u)).Cmp(rat(plane.Far2(api.P{}, v))) <= 0, true)
		shortestBy(t, "short", spotAt(u), spotAt(v))
		again, other := shortOf(t, u, v)
		same(t, "u again", again, u)
		same(t, "v again", other, v)
		told++
	}
	enough(t, "flat", flat)
	enough(t, "short", told)
	enough(t, "turned", turned)
}

// TestShortOfSmall: all of few whole numbers, in which many are as long as each other or half way between two; u is held against each point of the grid nearby.
func TestShortOfSmall(t *testing.T) {
	const most = 4
	var all []spotAs
	for x := int64(-most); x <= most; x++ {
		for y := int64(-most); y <= most; y++ {
			all = append(all, spotAs{whole64(x), whole64(y)})
		}
	}
	for _, a := range all {
		for _, b := range all {
			area := a.cross(b)
			if area.Sign() == 0 {
				refusedShort(t, "on a line", api.ErrFlat, a.text(), b.text())
				continue
			}
			u, v := shortOf(t, a.text(), b.text())
			wantU, wantV := shortIn(a, b)
			same(t, "u", u, wantU.text())
			same(t, "v", v, wantV.text())
			for _, p := range all {
				inGrid := over(p.cross(b), area).IsInt() && over(a.cross(p), area).IsInt()
				if inGrid && p.dot(p).Sign() != 0 && p.dot(p).Cmp(wantU.dot(wantU)) < 0 {
					t.Errorf("%v, %v: %v is shorter than %v", a.text(), b.text(), p.text(), u)
				}
			}
		}
	}
}
