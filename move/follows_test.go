package move

import (
	"testing"

	"compass/api"
	"compass/line"
	"compass/plane"
)

const rounds = 200

// enough: much of what was made at random must have been in such a place that something could be told.
func enough(t *testing.T, what string, told int) {
	t.Helper()
	if told < rounds/10 {
		t.Errorf("%s: only %d of %d told", what, told, rounds)
	}
}

// count is where a thing is counted: in the second place, if it holds.
func count(holds bool) int {
	if holds {
		return 1
	}
	return 0
}

// whichever is a map that keeps distances, of any kind.
func (g guess) whichever() api.A {
	a, _ := g.rigid(kinds()[g.r.Intn(5)])
	return a
}

func back(t *testing.T, a api.A) api.A {
	t.Helper()
	return must[api.A](t, "back")(Back(a))
}

func kind(t *testing.T, a api.A) int {
	t.Helper()
	return must[int](t, "kind")(Kind(a))
}

func mirrorAt(t *testing.T, l api.L) api.A {
	t.Helper()
	return must[api.A](t, "mirror")(Mirror(l))
}

func TestMapsOfAll(t *testing.T) {
	told := [2]int{}
	for i := range rounds {
		g := newGuess(i)
		a, b, p := g.any(), g.any(), g.point()
		same(t, "apply", Apply(a, p), image(a, p))
		same(t, "after", After(a, b), mapOf(func(p api.P) api.P { return image(a, image(b, p)) }))
		same(t, "one after the other", Apply(After(a, b), p), Apply(a, Apply(b, p)))
		same(t, "det", Det(a), text(determinant(a)))
		same(t, "det of both", Det(After(a, b)), text(times(determinant(a), determinant(b))))
		flat := determinant(a).Sign() == 0
		told[count(flat)]++
		if flat {
			refused[api.A](t, "back", api.ErrFlat)(Back(a))
			continue
		}
		undone := back(t, a)
		same(t, "nothing left", After(a, undone), still())
		same(t, "nothing left", After(undone, a), still())
		same(t, "there and back", Apply(undone, Apply(a, p)), plain(p))
		c := g.good()
		same(t, "back from both", back(t, After(a, c)), After(back(t, c), undone))
	}
	enough(t, "flat", told[1])
	enough(t, "good", told[0])
}

func TestThreeOfAll(t *testing.T) {
	told := [2]int{}
	for i := range rounds {
		g := newGuess(i)
		p, q := [3]api.P{g.point(), g.point(), g.point()}, [3]api.P{g.point(), g.point(), g.point()}
		switch i % 3 {
		case 0:
			p[g.r.Intn(3)] = at(p[0], p[1], rat(g.fraction()))
		case 1:
			q[g.r.Intn(3)] = at(q[0], q[1], rat(g.fraction()))
		}
		flat := turns(p[0], p[1], p[2]).Sign() == 0
		told[count(flat)]++
		a, e := Three(p, q)
		if flat {
			refused[api.A](t, "flat", api.ErrFlat)(a, e)
			continue
		}
		same(t, "three", e, api.OK)
		for j := range p {
			same(t, "each to that of q", image(a, p[j]), plain(q[j]))
		}
		// There is but one such map: a map is found again from what it makes of three points.
		b := g.any()
		for j := range q {
			q[j] = image(b, p[j])
		}
		same(t, "found again", must[api.A](t, "three")(Three(p, q)), After(b, still()))
	}
	enough(t, "flat", told[1])
	enough(t, "wide", told[0])
}

func TestMirrorOfAll(t *testing.T) {
	for i := range rounds {
		g := newGuess(i)
		l, p := g.line(), g.point()
		a := mirrorAt(t, l)
		same(t, "mirror", a, mapOf(func(p api.P) api.P { return mirrored(l, p) }))
		same(t, "as package line does it", Apply(a, p), must[api.P](t, "line")(line.Mirror(l, p)))
		same(t, "twice", After(a, a), still())
		same(t, "det", Det(a), "-1")
	}
}

func TestSpinOfAll(t *testing.T) {
	for i := range rounds {
		g := newGuess(i)
		m, z, w, p := g.point(), g.point(), g.point(), g.point()
		a := Spin(m, z)
		same(t, "spin", Apply(a, p), sum(m, product(z, minus(p, m))))
		same(t, "the middle stays", Apply(a, m), plain(m))
		same(t, "both", After(a, Spin(m, w)), Spin(m, product(z, w)))
		same(t, "det", Det(a), text(dot(z, z)))
		// It keeps distances just if z is as long as 1.
		_, e := Kind(a)
		same(t, "long", e == api.OK, text(dot(z, z)) == "1")
		same(t, "kind", kind(t, Spin(m, g.unit())), api.Spin)
	}
}

// TestKindOfAll (Chasles): each map that keeps distances is one of the five, and the points that stay tell it.
func TestKindOfAll(t *testing.T) {
	for i := range rounds {
		g := newGuess(i)
		for _, k := range kinds() {
			a, want := g.rigid(k)
			same(t, "kind", kind(t, a), k)
			if want.e == api.ErrFree {
				want.l = must[api.L](t, "plain")(line.Plain(want.l))
			}
			same(t, "stays", staysOf(a), want)
			same(t, "back", kind(t, back(t, a)), k)
			// Seen from elsewhere, it is of the same kind.
			b := g.whichever()
			same(t, "from elsewhere", kind(t, After(After(b, a), back(t, b))), k)
		}
	}
}

func TestKindOfBoth(t *testing.T) {
	told := map[int]int{}
	for i := range 3 * rounds {
		g := newGuess(i)
		a, b := g.whichever(), g.whichever()
		both := After(a, b)
		same(t, "keeps distances", keeps(both), true)
		got := kind(t, both)
		told[got]++
		same(t, "det", Det(both) == "-1", got == api.Mirror || got == api.Glide)
		p, q := g.point(), g.point()
		same(t, "distance", plane.Far2(Apply(both, p), Apply(both, q)), plane.Far2(p, q))
	}
	for _, k := range kinds() {
		if told[k] == 0 {
			t.Errorf("no map of the kind %d", k)
		}
	}
}

func TestWhatKeepsDistances(t *testing.T) {
	told := [2]int{}
	for i := range 3 * rounds {
		g := newGuess(i)
		a := g.whichever()
		if i%3 > 0 {
			a[[]int{0, 1, 3, 4}[g.r.Intn(4)]] = g.fraction()
		}
		told[count(keeps(a))]++
		k, wrongKind := Kind(a)
		l, wrongMirrors := Mirrors(a)
		if keeps(a) {
			same(t, "kind", wrongKind, api.OK)
			same(t, "mirrors", wrongMirrors, api.OK)
			continue
		}
		refused[int](t, "kind", api.ErrForm)(k, wrongKind)
		refused[int](t, "mirrors", api.ErrForm)(len(l), wrongMirrors)
	}
	enough(t, "keeps", told[1])
	enough(t, "doesn't", told[0])
}

func TestMirrorsOfAll(t *testing.T) {
	fewest := []int{api.Still: 0, api.Shift: 2, api.Spin: 2, api.Mirror: 1, api.Glide: 3}
	for i := range rounds {
		g := newGuess(i)
		for _, k := range kinds() {
			a, _ := g.rigid(k)
			l, e := Mirrors(a)
			same(t, "mirrors", e, api.OK)
			same(t, "as few as can be", len(l), fewest[k])
			for _, p := range []api.P{origin(), pt("1", "0"), pt("0", "1"), g.point()} {
				q := plain(p)
				for _, m := range l {
					q = mirrored(m, q)
				}
				same(t, "the same", q, image(a, p))
			}
			done := still()
			for _, m := range l {
				same(t, "plain", isPlain(m), true)
				done = After(mirrorAt(t, m), done)
			}
			same(t, "the same", done, After(a, still()))
		}
	}
}

func TestAreasBecomeDetTimesAsGreat(t *testing.T) {
	for i := range rounds {
		g := newGuess(i)
		a, p, q, r := g.any(), g.point(), g.point(), g.point()
		got := plane.Area2(Apply(a, p), Apply(a, q), Apply(a, r))
		same(t, "area", got, text(times(rat(Det(a)), turns(p, q, r))))
	}
}

// TestTwoMirrors: a shift by twice the way between lines beside each other, else a spin around where they meet.
func TestTwoMirrors(t *testing.T) {
	told := [3]int{}
	for i := range rounds {
		g := newGuess(i)
		l, m := g.line(), g.line()
		switch i % 3 {
		case 0:
			m = ln(text(times(whole(-3), rat(l.A))), text(times(whole(-3), rat(l.B))), g.fraction())
		case 1:
			m = ln(text(times(half(), rat(l.A))), text(times(half(), rat(l.B))), text(times(half(), rat(l.C))))
		}
		both := After(mirrorAt(t, m), mirrorAt(t, l))
		meet, e := line.Meet(l, m)
		switch e {
		case api.OK:
			told[0]++
			same(t, "meet", kind(t, both), api.Spin)
			same(t, "meet", staysOf(both), stays{p: meet})
		case api.ErrNone:
			told[1]++
			same(t, "beside each other", kind(t, both), api.Shift)
			p := g.point()
			foot := must[api.P](t, "foot")(line.Foot(l, p))
			way := minus(must[api.P](t, "foot")(line.Foot(m, foot)), foot)
			same(t, "twice as far", minus(Apply(both, p), p), sum(way, way))
		default:
			told[2]++
			same(t, "the same line", both, still())
		}
	}
	for _, n := range told {
		enough(t, "two mirrors", n)
	}
}

// TestHjelmslev: of points of a line and what is made of them the middles lie on a line, or are one.
func TestHjelmslev(t *testing.T) {
	told := [2]int{}
	for i := range rounds {
		g := newGuess(i)
		for _, k := range kinds() {
			a, _ := g.rigid(k)
			p := g.point()
			q := g.other(p)
			if i%4 == 0 {
				// A half turn makes one of all the middles.
				a = Spin(g.point(), pt("-1", "0"))
			}
			middle := func(p api.P) api.P { return at(p, Apply(a, p), half()) }
			first, second := middle(p), middle(q)
			one := far2(first, second).Sign() == 0
			told[count(one)]++
			for range 3 {
				next := middle(at(p, q, rat(g.fraction())))
				if one {
					same(t, "one", next, first)
				} else {
					same(t, "on a line", turns(first, second, next).Sign(), 0)
				}
			}
		}
	}
	enough(t, "one", told[1])
	enough(t, "on a line", told[0])
}

// TestFixedOfAll: what stays is carried along, if a map is seen from elsewhere.
func TestFixedOfAll(t *testing.T) {
	for i := range rounds {
		g := newGuess(i)
		k, n := g.fraction(), g.fraction()
		if text(rat(k)) == "1" || text(rat(n)) == "1" || rat(k).Sign() == 0 {
			k, n = "3", "-1/2"
		}
		level := ln("0", "1", "0")
		for _, x := range []struct {
			what string
			a    api.A
			want stays
		}{
			{"stretched both ways", api.A{k, "0", "0", "0", n, "0"}, stays{p: origin()}},
			{"stretched and slanted", api.A{k, n, "0", "0", k, "0"}, stays{p: origin()}},
			{"all to a point", api.A{"0", "0", "0", "0", "0", "0"}, stays{p: origin()}},
			{"stretched one way", api.A{"1", "0", "0", "0", k, "0"}, stays{l: level, e: api.ErrFree}},
			{"all to a line", api.A{"1", "0", "0", "0", "0", "0"}, stays{l: level, e: api.ErrFree}},
			{"slanted", api.A{"1", k, "0", "0", "1", "0"}, stays{l: level, e: api.ErrFree}},
			{"slanted and stretched", api.A{"1", n, "0", "0", k, "0"}, stays{l: level, e: api.ErrFree}},
			{"slanted and shifted", api.A{"1", n, "0", "0", "1", k}, stays{e: api.ErrNone}},
			{"stretched and shifted along", api.A{"1", "0", k, "0", n, "0"}, stays{e: api.ErrNone}},
			{"shifted", api.A{"1", "0", n, "0", "1", k}, stays{e: api.ErrNone}},
			{"still", still(), stays{all: true}},
		} {
			same(t, x.what, staysOf(x.a), x.want)
			b := g.good()
			seen := After(After(b, x.a), back(t, b))
			if x.want.p != (api.P{}) {
				x.want.p = image(b, x.want.p)
			}
			if x.want.l == level {
				x.want.l = must[api.L](t, "through")(line.Through(image(b, origin()), image(b, pt("1", "0"))))
			}
			same(t, x.what, staysOf(seen), x.want)
		}
	}
}

// TestFixedIsAllThatStays: of any map, a point stays just if Fixed tells it.
func TestFixedIsAllThatStays(t *testing.T) {
	told := map[api.Errno]int{}
	for i := range 5 * rounds {
		g := newGuess(4 * i)
		a := g.any()
		got := staysOf(a)
		told[got.e]++
		for x := range 9 {
			for y := range 9 {
				p := pt(text(whole(int64(x-4))), text(whole(int64(y-4))))
				want := got.all || got.e == api.ErrFree && value(got.l, p).Sign() == 0 || got.e == api.OK && p == got.p
				same(t, "stays", image(a, p) == p, want)
			}
		}
		if got.e == api.OK && !got.all {
			same(t, "stays", image(a, got.p), got.p)
		}
		same(t, "plain", got.e == api.ErrFree, got.l != api.L{} && isPlain(got.l))
	}
	for _, e := range []api.Errno{api.OK, api.ErrFree, api.ErrNone} {
		enough(t, "stays", told[e])
	}
}
