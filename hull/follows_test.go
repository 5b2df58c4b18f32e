package hull

import (
	"math/big"
	"slices"
	"testing"

	"compass/api"
)

const rounds = 200

// enough: much of what was made at random must have been in such a place that something could be told.
func enough(t *testing.T, what string, told int) {
	t.Helper()
	if told < rounds/10 {
		t.Errorf("%s: only %d of %d told", what, told, rounds)
	}
}

func one(holds bool) int {
	if holds {
		return 1
	}
	return 0
}

func aroundOf(t *testing.T, l []api.P) []api.P {
	t.Helper()
	return must[[]api.P](t, "around")(Around(l))
}

func sideOf(t *testing.T, l []api.P, p spot) int {
	t.Helper()
	return must[int](t, "side")(Side(l, p.text()))
}

// TestAroundOfAll: the corners are those that the others don't enclose, they turn against the clock, and their hull is the same.
func TestAroundOfAll(t *testing.T) {
	told := [4]int{}
	for i := range rounds {
		g := newGuess(i)
		l := g.points(api.MaxPoints)
		corners := aroundOf(t, l)
		told[min(len(corners), 4)-1]++
		sameList(t, "around", corners, cornersOf(spotsAt(l)))
		sameList(t, "in another order", aroundOf(t, g.mixed(l)), corners)
		sameList(t, "of the corners", aroundOf(t, g.mixed(corners)), corners)
		s := spotsAt(corners)
		for j, p := range s {
			next, behind := s[(j+1)%len(s)], s[(j+2)%len(s)]
			same(t, "no three on a line", len(s) < 3 || turning(p, next, behind).Sign() > 0, true)
			same(t, "the least first", j == 0 || ahead(s[0], p) < 0, true)
		}
	}
	for _, n := range told[1:] {
		enough(t, "corners", n)
	}
}

func TestSideOfAll(t *testing.T) {
	told := [3]int{}
	for i := range rounds {
		g := newGuess(i)
		l := g.points(api.MaxPoints)
		corners := aroundOf(t, l)
		for range 10 {
			p := g.nearby(l)
			want := sideIn(spotsAt(l), p)
			told[want+1]++
			same(t, "side", sideOf(t, l, p), want)
			same(t, "of the corners", sideOf(t, corners, p), want)
		}
	}
	for _, n := range told {
		enough(t, "side", n)
	}
}

// meanOf has weights from 0 on.
func (g guess) meanOf(l []spot) spot {
	sum, all := spot{whole(0), whole(0)}, whole(0)
	for all.Sign() == 0 {
		for _, p := range l {
			weight := big.NewRat(int64(g.r.Intn(4)), int64(1+g.r.Intn(3)))
			sum, all = sum.plus(p.times(weight)), plus(all, weight)
		}
	}
	return sum.times(over(whole(1), all))
}

// TestCaratheodory: a point of a hull lies in a triangle of its points, and in none that comes ahead of it; and a point of no hull in none.
func TestCaratheodory(t *testing.T) {
	told := [2]int{}
	for i := range rounds {
		g := newGuess(i)
		l := g.points(10)
		s := spotsAt(l)
		for _, p := range []spot{g.meanOf(s), g.nearby(l), g.nearby(l)} {
			want, ok := firstThree(s, p)
			got, e := Three(l, p.text())
			same(t, "three", got, want)
			same(t, "if there are any", e == api.OK, ok)
			same(t, "none", ok || e == api.ErrNone, true)
			same(t, "in the hull", sideOf(t, l, p) >= 0, ok)
			told[one(ok)]++
		}
		same(t, "a mean", sideOf(t, l, g.meanOf(s)) >= 0, true)
	}
	enough(t, "within", told[1])
	enough(t, "outside", told[0])
}

func TestWideOfAll(t *testing.T) {
	for i := range rounds {
		g := newGuess(i)
		l := g.points(api.MaxPoints)
		got := widthOf(l)
		same(t, "wide", got, widthIn(spotsAt(l)))
		same(t, "of the corners", widthOf(aroundOf(t, l)).far2, got.far2)
	}
}

// TestNarrowOfAll: no strip along any way is narrower.
func TestNarrowOfAll(t *testing.T) {
	told := 0
	for i := range rounds {
		g := newGuess(i)
		l := g.points(api.MaxPoints)
		s := spotsAt(l)
		got := must[api.Q](t, "narrow")(Narrow(l))
		same(t, "narrow", got, text(narrowOf(s)))
		same(t, "of the corners", must[api.Q](t, "narrow")(Narrow(aroundOf(t, l))), got)
		same(t, "in another order", must[api.Q](t, "narrow")(Narrow(g.mixed(l))), got)
		same(t, "0 on a line", rat(got).Sign() == 0, len(aroundOf(t, l)) < 3)
		told += rat(got).Sign()
		for range 5 {
			if along := spotAt(g.point()); along.dot(along).Sign() > 0 {
				same(t, "as narrow as can be", strip(s, along).Cmp(rat(got)) >= 0, true)
			}
		}
	}
	enough(t, "with an area", told)
}

// TestLayersOfAll: the first have all that lie on the edge; without them, each of the others is one less deep.
func TestLayersOfAll(t *testing.T) {
	deep := 0
	for i := range rounds {
		l := newGuess(i).points(api.MaxPoints)
		got := must[[]int](t, "layers")(Layers(l))
		sameList(t, "layers", got, layersOf(spotsAt(l)))
		var rest []api.P
		var fewer []int
		for j, p := range l {
			same(t, "the first", got[j] == 1, sideOf(t, l, spotAt(p)) == 0)
			if got[j] > 1 {
				rest, fewer = append(rest, p), append(fewer, got[j]-1)
			}
		}
		if len(rest) > 0 {
			sameList(t, "without the first", must[[]int](t, "layers")(Layers(rest)), fewer)
		}
		deep += one(slices.Max(got) > 2)
	}
	enough(t, "three layers", deep)
}

// TestPartOfAll: there is a line just if there is no point.
func TestPartOfAll(t *testing.T) {
	told := [2]int{}
	for i := range 5 * rounds {
		g := newGuess(i)
		a, b := g.points(1+i%7), g.points(1+i%5)
		switch i % 3 {
		case 0:
			b = g.beyond(a)
		case 1:
			b = append(b, g.nearby(a).text())
		}
		s, u := spotsAt(a), spotsAt(b)
		got := partedOf(a, b)
		same(t, "the other way", partedOf(b, a).apart, got.apart)
		told[one(got.apart)]++
		if got.apart {
			parts(t, "apart", got, s, u)
			continue
		}
		same(t, "no line", got, parted{both: got.both})
		same(t, "in the first", inHull(s, spotAt(got.both)), true)
		same(t, "in the second", inHull(u, spotAt(got.both)), true)
	}
	enough(t, "apart", told[1])
	enough(t, "not apart", told[0])
}

// beyond are points that lie beyond an edge of the hull of l, or on its line.
func (g guess) beyond(l []api.P) []api.P {
	corners := spotsAt(cornersOf(spotsAt(l)))
	from, to := corners[0], corners[1%len(corners)]
	var made []api.P
	for range 1 + g.r.Intn(4) {
		p := spotAt(g.point())
		if turning(from, to, p).Sign() > 0 {
			// Through the middle of the edge to the other side.
			p = from.plus(to).less(p)
		}
		made = append(made, p.text())
	}
	return made
}

// TestPartOfSharers: hulls that share a mean of both aren't apart.
func TestPartOfSharers(t *testing.T) {
	for i := range rounds {
		g := newGuess(i)
		a, b := g.points(6), g.points(6)
		shift := g.meanOf(spotsAt(a)).less(g.meanOf(spotsAt(b)))
		for j, p := range b {
			b[j] = spotAt(p).plus(shift).text()
		}
		got := partedOf(a, b)
		same(t, "not apart", got, parted{both: got.both})
		same(t, "in both", inHull(spotsAt(a), spotAt(got.both)) && inHull(spotsAt(b), spotAt(got.both)), true)
	}
}

// TestRadonOfAll: there are always two parts, and the least are told.
func TestRadonOfAll(t *testing.T) {
	told := map[[4]bool]int{}
	for i := range 5 * rounds {
		g := newGuess(i)
		var l [4]api.P
		for j := range l {
			l[j] = g.point()
			if j > 1 && g.r.Intn(6) == 0 {
				l[j] = g.nearby(l[:j]).text()
			}
		}
		s := [4]spot(spotsAt(l[:]))
		part, both := Radon(l)
		same(t, "radon", part, radonOf(s))
		same(t, "the first in the first", part[0], true)
		first, second := partsOf(s, part)
		same(t, "in the first", inHull(first, spotAt(both)), true)
		same(t, "in the second", inHull(second, spotAt(both)), true)
		told[part]++
	}
	same(t, "all kinds of parts", len(told), 7)
}
