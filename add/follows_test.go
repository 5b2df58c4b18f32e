package add

import (
	"slices"
	"testing"

	"compass/api"
	"compass/hull"
)

const rounds = 300

// enough: much of what was made at random must have been in such a place that something could be told.
func enough(t *testing.T, what string, told int) {
	t.Helper()
	if told < rounds/10 {
		t.Errorf("%s: only %d of %d told", what, told, rounds)
	}
}

func one(holds bool) int {
	if holds {
		return 1
	}
	return 0
}

func aroundOf(t *testing.T, l []api.P) []api.P {
	t.Helper()
	return must[[]api.P](t, "around")(hull.Around(l))
}

// edgesOf is how many edges a hull has that go anywhere: two of a line, there and back.
func edgesOf(corners []api.P) int { return len(corners) - one(len(corners) == 1) }

// TestSumOfAll: its corners are those of the hull of all sums of points.
func TestSumOfAll(t *testing.T) {
	told, straight := [4]int{}, 0
	for i := range 2 * rounds {
		g := newGuess(i)
		a, b := g.pair([]int{3, 8, api.MaxPoints}[i%3])
		got := sumOf(t, a, b)
		told[min(len(got), 4)-1]++
		sameList(t, "sum", got, textsOf(wrapped(allSums(spotsAt(a), spotsAt(b)))))
		sameList(t, "the other way", sumOf(t, b, a), got)
		sameList(t, "in another order", sumOf(t, g.mixed(a), g.mixed(b)), got)
		first, second := aroundOf(t, a), aroundOf(t, b)
		sameList(t, "of the corners", sumOf(t, first, second), got)
		straight += one(len(got) > 2 && edgesOf(got) < edgesOf(first)+edgesOf(second))
	}
	enough(t, "two corners", told[1])
	enough(t, "three corners", told[2])
	enough(t, "more corners", told[3])
	enough(t, "edges that go the same way", straight)
}

// TestSumHasAll: a point of each hull have their sum in it; and each point of it is such a sum, as its corners are.
func TestSumHasAll(t *testing.T) {
	for i := range rounds {
		g := newGuess(i)
		a, b := g.pair(8)
		sum := sumOf(t, a, b)
		p := g.mean(spotsAt(a)).plus(g.mean(spotsAt(b)))
		same(t, "within", must[int](t, "side")(hull.Side(sum, p.text())) >= 0, true)
		for _, c := range sum {
			back := each(b, func(q spot) spot { return spotAt(c).less(q) })
			same(t, "a corner", meetOf(t, a, back), true)
		}
	}
}

// TestSumShifts: what is added to a hull is in the sum, and a single point shifts it.
func TestSumShifts(t *testing.T) {
	for i := range rounds {
		g := newGuess(i)
		a, b := g.pair(8)
		by := g.spot()
		corners := aroundOf(t, a)
		sameList(t, "a point", sumOf(t, a, []api.P{by.text()}), shifted(corners, by))
		sameList(t, "one of them shifted", sumOf(t, shifted(a, by), b), shifted(sumOf(t, a, b), by))
		same(t, "its area", area2Of(t, shifted(a, by)).Cmp(area2Of(t, a)), 0)
		same(t, "mixed", mixedOf(t, shifted(a, by), b).Cmp(mixedOf(t, a, b)), 0)
		k := g.factor()
		twice := sumOf(t, longer(a, k), a)
		sameList(t, "k times and once", twice, longer(corners, plus(k, whole(1))))
	}
}

// TestSumOfThree: in which order is all one.
func TestSumOfThree(t *testing.T) {
	for i := range rounds {
		g := newGuess(i)
		a, b := g.pair(8)
		c := g.points(8)
		sameList(t, "sum", sumOf(t, sumOf(t, a, b), c), sumOf(t, a, sumOf(t, b, c)))
	}
}

func TestArea2OfAll(t *testing.T) {
	told := [2]int{}
	for i := range rounds {
		g := newGuess(i)
		l := g.points(api.MaxPoints)
		got := must[api.Q](t, "area")(Area2(l))
		same(t, "area", got, text(areaIn(spotsAt(l))))
		same(t, "in another order", must[api.Q](t, "area")(Area2(g.mixed(l))), got)
		same(t, "not below 0", rat(got).Sign() >= 0, true)
		same(t, "0 on a line", rat(got).Sign() == 0, len(wrapped(spotsAt(l))) < 3)
		told[rat(got).Sign()]++
	}
	enough(t, "with an area", told[1])
	enough(t, "without an area", told[0])
}

func TestMixedOfAll(t *testing.T) {
	told := [2]int{}
	for i := range rounds {
		g := newGuess(i)
		a, b := g.pair([]int{3, 8, api.MaxPoints}[i%3])
		got := must[api.Q](t, "mixed")(Mixed(a, b))
		same(t, "mixed", got, text(mixedIn(spotsAt(a), spotsAt(b))))
		same(t, "the other way", must[api.Q](t, "mixed")(Mixed(b, a)), got)
		same(t, "in another order", must[api.Q](t, "mixed")(Mixed(g.mixed(a), g.mixed(b))), got)
		told[rat(got).Sign()]++
		twice := plus(area2Of(t, a), area2Of(t, a))
		same(t, "with itself", mixedOf(t, a, a).Cmp(twice), 0)
	}
	enough(t, "more than 0", told[1])
	enough(t, "0", told[0])
}

// TestMixedByCalls: Area2 of the sum less both Area2, where the sum has no more corners than Area2 takes.
func TestMixedByCalls(t *testing.T) {
	for i := range rounds {
		a, b := newGuess(i).pair(8)
		want := less(area2Of(t, sumOf(t, a, b)), plus(area2Of(t, a), area2Of(t, b)))
		same(t, "mixed", mixedOf(t, a, b).Cmp(want), 0)
	}
}

// TestSteiner: Area2 of a and k times b is Area2 of a, k Mixed, and k k Area2 of b.
func TestSteiner(t *testing.T) {
	told := [2]int{}
	for i := range rounds {
		g := newGuess(i)
		a, b := g.pair(8)
		mixed, of := mixedOf(t, a, b), area2Of(t, b)
		for range 3 {
			k := g.factor()
			told[k.Sign()]++
			got := area2Of(t, sumOf(t, a, longer(b, k)))
			same(t, "k times", got.Cmp(plus(area2Of(t, a), times(k, mixed), times(k, k, of))), 0)
			same(t, "mixed", mixedOf(t, a, longer(b, k)).Cmp(times(k, mixed)), 0)
		}
	}
	enough(t, "0 times", told[0])
	enough(t, "more than 0 times", told[1])
}

// TestMinkowski: the square of Mixed isn't below four times both Area2; of hulls of one shape it is just that.
func TestMinkowski(t *testing.T) {
	told := [2]int{}
	for i := range rounds {
		g := newGuess(i)
		a, b := g.pair(api.MaxPoints)
		mixed, both := mixedOf(t, a, b), times(whole(4), area2Of(t, a), area2Of(t, b))
		order := times(mixed, mixed).Cmp(both)
		same(t, "not below", order >= 0, true)
		told[one(order > 0)]++
		alike := shifted(longer(a, g.factor()), g.spot())
		mixed, both = mixedOf(t, a, alike), times(whole(4), area2Of(t, a), area2Of(t, alike))
		same(t, "of one shape", times(mixed, mixed).Cmp(both), 0)
	}
	enough(t, "above", told[1])
	enough(t, "just that", told[0])
}

// TestReachOfAll: what Reach tells of both adds up; no point of the hull goes farther, and one of its corners goes as far.
func TestReachOfAll(t *testing.T) {
	for i := range rounds {
		g := newGuess(i)
		a, b := g.pair(8)
		for range 5 {
			along := g.spot()
			got := reachOf(t, a, along)
			same(t, "reach", got.Cmp(reachIn(spotsAt(a), along)), 0)
			same(t, "in another order", reachOf(t, g.mixed(a), along).Cmp(got), 0)
			same(t, "both", reachOf(t, sumOf(t, a, b), along).Cmp(plus(got, reachOf(t, b, along))), 0)
			same(t, "none goes farther", along.dot(g.mean(spotsAt(a))).Cmp(got) <= 0, true)
			corners := aroundOf(t, a)
			same(t, "a corner", slices.ContainsFunc(corners, func(p api.P) bool { return along.dot(spotAt(p)).Cmp(got) == 0 }), true)
			k := g.factor()
			same(t, "k times as far", reachOf(t, a, along.times(k)).Cmp(times(k, got)), 0)
		}
	}
}

// TestMixedGrows: as a hull grows, Mixed never shrinks, and is still the same if the hull is.
func TestMixedGrows(t *testing.T) {
	told := 0
	for i := range rounds {
		g := newGuess(i)
		a, b := g.pair(8)
		before := mixedOf(t, a, b)
		within := append(slices.Clone(a), g.mean(spotsAt(a)).text(), g.mean(spotsAt(a)).text())
		same(t, "as it was", mixedOf(t, within, b).Cmp(before), 0)
		more := append(slices.Clone(a), g.points(6)...)
		order := mixedOf(t, more, b).Cmp(before)
		same(t, "not less", order >= 0, true)
		same(t, "the second", mixedOf(t, b, more).Cmp(before), order)
		same(t, "the area", area2Of(t, more).Cmp(area2Of(t, a)) >= 0, true)
		told += one(order > 0)
	}
	enough(t, "more", told)
}

// TestMeetOfAll: they meet just if no line parts them.
func TestMeetOfAll(t *testing.T) {
	told := [2]int{}
	for i := range 3 * rounds {
		g := newGuess(i)
		a, b := g.pair(1 + i%7)
		if i%3 == 0 {
			b = g.touching(a)
		}
		want := sharing(spotsAt(a), spotsAt(b))
		told[one(want)]++
		same(t, "meet", meetOf(t, a, b), want)
		same(t, "the other way", meetOf(t, b, a), want)
		same(t, "in another order", meetOf(t, g.mixed(a), g.mixed(b)), want)
		_, _, apart, e := hull.Part(a, b)
		same(t, "a line parts them", apart, !want)
		same(t, "a line parts them", e, api.OK)
		by := g.spot()
		same(t, "both shifted", meetOf(t, shifted(a, by), shifted(b, by)), want)
	}
	enough(t, "meet", told[1])
	enough(t, "don't meet", told[0])
}

// touching are points beyond an edge of the hull of l, or on its line, or hardly off it.
func (g guess) touching(l []api.P) []api.P {
	corners := wrapped(spotsAt(l))
	from, to := corners[0], corners[1%len(corners)]
	made := []api.P{from.on(to, g.factor()).text()}
	for range g.r.Intn(4) {
		p := g.spot()
		if turning(from, to, p).Sign() > 0 {
			// Through the middle of the edge to the other side.
			p = from.plus(to).less(p)
		}
		made = append(made, p.text())
	}
	if g.r.Intn(2) == 0 {
		along := to.less(from)
		right := spot{along.y, less(whole(0), along.x)}
		made = shifted(made, right.times(rat("1/1000000000000000000000")))
	}
	return made
}

// TestMeetOfSharers: hulls that share a mean of both meet.
func TestMeetOfSharers(t *testing.T) {
	for i := range rounds {
		g := newGuess(i)
		a, b := g.pair(api.MaxPoints)
		b = shifted(b, g.mean(spotsAt(a)).less(g.mean(spotsAt(b))))
		same(t, "meet", meetOf(t, a, b), true)
		same(t, "with itself", meetOf(t, a, g.mixed(a)), true)
		same(t, "with a point of it", meetOf(t, a, []api.P{g.mean(spotsAt(a)).text()}), true)
	}
}
