package half

import (
	"slices"
	"testing"

	"compass/api"
)

const rounds = 600

// enough: much of what was made at random must have been in such a place that something could be told.
func enough(t *testing.T, what string, told int) {
	t.Helper()
	if told < rounds/20 {
		t.Errorf("%s: only %d of %d told", what, told, rounds)
	}
}

// TestHellyOfAll: all have a point in common just if each three have.
func TestHellyOfAll(t *testing.T) {
	told := map[api.Errno]int{}
	kinds := [4]int{}
	for i := range rounds {
		l := newGuess(i).halves()
		rows := rowsOf(l)
		p, e := Common(l)
		three, none := Helly(l)
		wantThree, wantNone := hellyOf(rows)
		same(t, "three", three, wantThree)
		same(t, "if there are any", none, wantNone)
		same(t, "all just if each three", e == api.OK, none == api.ErrNone)
		told[e]++
		if !meetable(rows) {
			refused[api.P](t, "nothing in common", api.ErrNone)(p, e)
			kinds[len(slices.Compact(three[:]))]++
			continue
		}
		same(t, "common", e, api.OK)
		same(t, "in all", inAll(rows, p), true)
		same(t, "lowest terms", p, pt(text(rat(p.X)), text(rat(p.Y))))
	}
	enough(t, "common", told[api.OK])
	enough(t, "none", told[api.ErrNone])
	enough(t, "two apart", kinds[2])
	enough(t, "three apart", kinds[3])
}

// TestHellyHasNone: the three that are told have no point in common, also without all others.
func TestHellyHasNone(t *testing.T) {
	told := 0
	for i := range rounds {
		l := newGuess(i).halves()
		three, e := Helly(l)
		if e != api.OK {
			continue
		}
		told++
		at := []api.L{l[three[0]], l[three[1]], l[three[2]]}
		refused[api.P](t, "these three", api.ErrNone)(Common(at))
		again := must[[3]int](t, "these three")(Helly(at))
		want, _ := hellyOf(rowsOf(at))
		same(t, "these three", again, want)
	}
	enough(t, "apart", told)
}

// TestMostOfAll: a point and weights show that there is no greater one; without them, there is no point, or no end.
func TestMostOfAll(t *testing.T) {
	told := map[api.Errno]int{}
	for i := range 2 * rounds {
		g := newGuess(i)
		l := g.halves()
		rows := rowsOf(l)
		along := g.along(rows)
		want := errorOf(rows, along)
		told[want]++
		if want != api.OK {
			refusedMost(t, "most", l, along, want)
			continue
		}
		got := reachOf(t, "most", l, along)
		tells(t, "most", rows, along, got)
		// What goes farther would lie in none of them.
		beyond := row{rat(along.X), rat(along.Y), less(whole(-1), rat(got.most))}
		same(t, "none goes farther", meetable(append(rows, beyond)), false)
	}
	for _, e := range []api.Errno{api.OK, api.ErrNone, api.ErrFree} {
		enough(t, "most", told[e])
	}
}

// TestWeightsTell: no point goes farther than any weights tell, and some weights tell how far it goes.
func TestWeightsTell(t *testing.T) {
	told, fewer := 0, 0
	for i := range rounds {
		g := newGuess(i)
		l := g.halves()
		sum := row{whole(0), whole(0), whole(0)}
		for _, r := range rowsOf(l) {
			sum = sum.plus(r.times(g.weight()))
		}
		p, e := Common(l)
		if e != api.OK {
			continue
		}
		told++
		back := row{minus(sum[0]), minus(sum[1]), whole(0)}
		same(t, "a point", back.value(p).Cmp(sum[2]) <= 0, true)
		along := pt(text(back[0]), text(back[1]))
		got := reachOf(t, "most", l, along)
		same(t, "most", rat(got.most).Cmp(sum[2]) <= 0, true)
		same(t, "no less than a point", rat(got.most).Cmp(back.value(p)) >= 0, true)
		if rat(got.most).Cmp(sum[2]) < 0 {
			fewer++
		}
	}
	enough(t, "common", told)
	enough(t, "less than those weights tell", fewer)
}

// TestTimesAbove0: a half times what is above 0 has the same points, and its weight is as much less.
func TestTimesAbove0(t *testing.T) {
	told := 0
	for i := range rounds {
		g := newGuess(i)
		l := g.halves()
		var longer []api.L
		for j, r := range rowsOf(l) {
			longer = append(longer, r.times(whole(int64(j+2))).text())
		}
		three, e := Helly(l)
		again, e2 := Helly(longer)
		same(t, "helly", three, again)
		same(t, "helly", e, e2)
		along := g.along(rowsOf(l))
		if errorOf(rowsOf(l), along) != api.OK {
			continue
		}
		told++
		same(t, "most", reachOf(t, "most", longer, along).most, reachOf(t, "most", l, along).most)
		got := reachOf(t, "most", longer, along)
		for j := range got.weights {
			got.weights[j] = text(times(rat(got.weights[j]), whole(int64(j+2))))
		}
		tells(t, "the weights", rowsOf(l), along, got)
	}
	enough(t, "most", told)
}
