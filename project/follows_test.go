package project

import (
	"testing"

	"compass/api"
	"compass/line"
	"compass/turn"
)

const rounds = 200

// enough: much of what was made at random must have been in such a place that something could be told.
func enough(t *testing.T, what string, told int) {
	t.Helper()
	if told < rounds/10 {
		t.Errorf("%s: only %d of %d told", what, told, rounds)
	}
}

// count is where a thing is counted: in the second place, if it holds.
func count(holds bool) int {
	if holds {
		return 1
	}
	return 0
}

func join(t *testing.T, a, b api.H) api.H {
	t.Helper()
	return must[api.H](t, "join")(Join(a, b))
}

func apply(t *testing.T, w api.W, p api.H) api.H {
	t.Helper()
	return must[api.H](t, "apply")(Apply(w, p))
}

func carry(t *testing.T, w api.W, l api.H) api.H {
	t.Helper()
	return must[api.H](t, "carry")(Carry(w, l))
}

func ratio(t *testing.T, l [4]api.H) api.Q {
	t.Helper()
	return must[api.Q](t, "ratio")(Ratio(l[0], l[1], l[2], l[3]))
}

func plain(t *testing.T, h api.H) api.H {
	t.Helper()
	return must[api.H](t, "plain")(Plain(h))
}

func on(t *testing.T, what string, p, l api.H) {
	t.Helper()
	same(t, what, must[bool](t, what)(On(p, l)), true)
}

// bench joins as long as there is one line, or one point: else it is marked as bad.
type bench struct{ bad bool }

func (b *bench) join(x, y api.H) api.H {
	made, e := Join(x, y)
	b.bad = b.bad || e != api.OK
	return made
}

// meet is where the line of the first two meets that of the others.
func (b *bench) meet(p, q, r, s api.H) api.H { return b.join(b.join(p, q), b.join(r, s)) }

func TestPlainOfAll(t *testing.T) {
	told := [2]int{}
	for i := range 3 * rounds {
		g := newGuess(i)
		h := g.any()
		got, e := Plain(h)
		told[count(none(h))]++
		if none(h) {
			refused[api.H](t, "plain", api.ErrFlat)(got, e)
			continue
		}
		same(t, "plain", e, api.OK)
		same(t, "plain", isPlain(got[:]...), true)
		same(t, "the same", one(got, h), true)
		same(t, "of many times it", plain(t, many(h, g.more())), got)
	}
	enough(t, "points", told[0])
	if told[1] == 0 {
		t.Error("none that is flat")
	}
}

func TestJoinAndOnOfAll(t *testing.T) {
	told, lie := [2]int{}, [2]int{}
	for i := range rounds {
		g := newGuess(i)
		a, b, l := g.place(), g.place(), g.place()
		if i%3 == 0 {
			b = many(a, g.more())
		}
		told[count(one(a, b))]++
		got, e := Join(a, b)
		if one(a, b) {
			refused[api.H](t, "one", api.ErrFree)(got, e)
			continue
		}
		same(t, "join", e, api.OK)
		same(t, "plain", isPlain(got[:]...), true)
		same(t, "the other way round", join(t, b, a), got)
		for _, p := range []api.H{a, b, g.between(a, b), g.place()} {
			holds := determinant(a, b, p).Sign() == 0
			same(t, "on it", dot(got, p).Sign() == 0, holds)
			same(t, "on it", must[bool](t, "on")(On(p, got)), holds)
			same(t, "on it", must[bool](t, "on")(On(got, p)), holds)
			lie[count(holds)]++
		}
		// What two lines through a point share is that point.
		if c := g.other(a); !one(join(t, a, c), got) {
			same(t, "a again", join(t, got, join(t, a, c)), plain(t, a))
		}
		same(t, "on any line", must[bool](t, "on")(On(a, l)), dot(a, l).Sign() == 0)
	}
	enough(t, "one", told[1])
	enough(t, "apart", told[0])
	enough(t, "on it", lie[1])
	enough(t, "not on it", lie[0])
}

// TestJoinIsThatOfThePlane: of points and lines of the plane, Join is what package line finds.
func TestJoinIsThatOfThePlane(t *testing.T) {
	told := [2]int{}
	for i := range rounds {
		g := newGuess(i)
		p, q := api.P{X: g.fraction(), Y: g.fraction()}, api.P{X: g.fraction(), Y: g.fraction()}
		of := func(p api.P) api.H { return api.H{p.X, p.Y, "1"} }
		ofLine := func(l api.L) api.H { return api.H{l.A, l.B, l.C} }
		l, e := line.Through(p, q)
		if e != api.OK {
			refused[api.H](t, "one", api.ErrFree)(Join(of(p), of(q)))
			continue
		}
		same(t, "through", join(t, of(p), of(q)), ofLine(l))
		m, e := line.Plain(api.L{A: g.fraction(), B: g.fraction(), C: g.fraction()})
		if e != api.OK || m == l {
			continue
		}
		r, e := line.Meet(l, m)
		told[count(e == api.OK)]++
		if got := join(t, ofLine(l), ofLine(m)); e == api.OK {
			same(t, "meet", got, plain(t, of(r)))
		} else {
			same(t, "out of the plane", got[2], "0")
		}
	}
	enough(t, "meet", told[1])
}

// wrong is what the document says of the points, in its words.
func wrong(l []api.H) api.Errno {
	for i, h := range l {
		if none(h) {
			return api.ErrFlat
		}
		for _, ahead := range l[:i] {
			if one(ahead, h) {
				return api.ErrTwice
			}
		}
	}
	for _, p := range l[2:] {
		if determinant(l[0], l[1], p).Sign() != 0 {
			return api.ErrNone
		}
	}
	return api.OK
}

func TestWhatIsWrongWithPoints(t *testing.T) {
	told := map[api.Errno]int{}
	for i := range 5 * rounds {
		g := newGuess(i)
		a, b := g.place(), g.place()
		l := []api.H{a, b, g.between(a, b), g.between(a, b)}
		for range g.r.Intn(3) {
			at := g.r.Intn(4)
			switch g.r.Intn(3) {
			case 0:
				l[at] = api.H{"0", "-0", "0/7"}
			case 1:
				l[at] = many(l[g.r.Intn(4)], g.more())
			default:
				l[at] = g.place()
			}
		}
		want := wrong(l)
		told[want]++
		got, e := Ratio(l[0], l[1], l[2], l[3])
		same(t, "ratio", e, want)
		same(t, "nothing beside an error", got == "", want != api.OK)
		d, e := Harmonic(l[0], l[1], l[2])
		same(t, "harmonic", e, wrong(l[:3]))
		same(t, "nothing beside an error", d == api.H{}, e != api.OK)
	}
	for _, e := range []api.Errno{api.OK, api.ErrFlat, api.ErrTwice, api.ErrNone} {
		enough(t, "wrong", told[e])
	}
}

// row has four points on a line, no two of them one, and their Ratio in the document's words.
func (g guess) row() ([4]api.H, api.Q) {
	for {
		a := g.place()
		b := g.other(a)
		s, t, u, v := g.more(), g.more(), g.more(), g.more()
		c, d := sum(a, s, b, t), sum(a, u, b, v)
		if !one(c, d) {
			return [4]api.H{a, b, c, d}, text(over(times(t, u), times(s, v)))
		}
	}
}

func TestRatioOfAll(t *testing.T) {
	for i := range rounds {
		g := newGuess(i)
		l, want := g.row()
		a, b, c, d := l[0], l[1], l[2], l[3]
		same(t, "ratio", ratio(t, l), want)
		same(t, "however often", ratio(t, [4]api.H{many(a, g.more()), many(b, g.more()), many(c, g.more()), many(d, g.more())}), want)
		same(t, "both pairs changed", ratio(t, [4]api.H{b, a, d, c}), want)
		same(t, "the pairs changed", ratio(t, [4]api.H{c, d, a, b}), want)
		same(t, "one pair changed", ratio(t, [4]api.H{a, b, d, c}), text(over(whole(1), rat(want))))
		same(t, "across", ratio(t, [4]api.H{a, c, b, d}), text(less(whole(1), rat(want))))
		e := must[api.H](t, "harmonic")(Harmonic(a, b, c))
		same(t, "plain", isPlain(e[:]...), true)
		same(t, "harmonic", ratio(t, [4]api.H{a, b, c, e}), "-1")
		same(t, "and back", must[api.H](t, "harmonic")(Harmonic(a, b, e)), plain(t, c))
		same(t, "the pairs changed", must[api.H](t, "harmonic")(Harmonic(c, e, a)), plain(t, b))
		if !one(d, e) {
			same(t, "no other", ratio(t, l) == "-1", false)
		}
	}
}

// TestRatioIsCross: of points of the plane, Ratio is what package turn calls Cross.
func TestRatioIsCross(t *testing.T) {
	told := 0
	for i := range rounds {
		l, want := newGuess(i).row()
		var p []api.P
		for _, h := range l {
			if rat(h[2]).Sign() != 0 {
				p = append(p, api.P{X: text(over(rat(h[0]), rat(h[2]))), Y: text(over(rat(h[1]), rat(h[2])))})
			}
		}
		if len(p) == 4 {
			told++
			same(t, "cross", must[api.P](t, "cross")(turn.Cross(p[0], p[1], p[2], p[3])), api.P{X: want, Y: "0"})
		}
	}
	enough(t, "cross", told)
}

// TestRatioOfLines: four lines through a point have the Ratio of the points in which another line cuts them.
func TestRatioOfLines(t *testing.T) {
	told := 0
	for i := range rounds {
		g := newGuess(i)
		l, want := g.row()
		p, across := g.place(), join(t, l[0], l[1])
		if dot(p, across).Sign() == 0 {
			continue
		}
		told++
		var lines [4]api.H
		for j, h := range l {
			lines[j] = join(t, p, h)
			same(t, "cut", join(t, lines[j], across), plain(t, h))
		}
		same(t, "ratio", ratio(t, lines), want)
	}
	enough(t, "lines", told)
}

func TestFourOfAll(t *testing.T) {
	for i := range rounds {
		g := newGuess(i)
		p, q := g.four(), g.four()
		w := must[api.W](t, "four")(Four(p, q))
		same(t, "plain", isPlain(w[:]...), true)
		for j := range p {
			same(t, "each to that of q", one(image(w, p[j]), q[j]), true)
			same(t, "each to that of q", apply(t, w, p[j]), plain(t, q[j]))
		}
		same(t, "back", must[api.W](t, "back")(Back(w)), must[api.W](t, "four")(Four(q, p)))
		// There is but one such map: a map is found again from what it makes of four points.
		v := g.mapping()
		for j := range q {
			q[j] = image(v, p[j])
		}
		found := must[api.W](t, "four")(Four(p, q))
		same(t, "found again", proportional(found[:], v[:]), true)
	}
}

func TestFourThatAreFlat(t *testing.T) {
	told := [2]int{}
	for i := range rounds {
		g := newGuess(i)
		var l [2][4]api.H
		for j := range l {
			l[j] = g.four()
			switch g.r.Intn(4) {
			case 0:
				at := g.r.Intn(4)
				l[j][at] = sum(l[j][(at+1)%4], rat(g.fraction()), l[j][(at+2)%4], rat(g.fraction()))
			case 1:
				l[j][g.r.Intn(4)] = g.any()
			}
		}
		bad := !wide(l[0]) || !wide(l[1])
		told[count(bad)]++
		got, e := Four(l[0], l[1])
		same(t, "flat", e == api.ErrFlat, bad)
		same(t, "nothing beside an error", got == api.W{}, bad)
	}
	enough(t, "flat", told[1])
	enough(t, "wide", told[0])
}

func TestMapsOfAll(t *testing.T) {
	told := [2]int{}
	for i := range 2 * rounds {
		g := newGuess(i)
		w, v := g.anyMap(), g.mapping()
		p, l := g.place(), g.place()
		told[count(flat(w))]++
		if flat(w) {
			refused[api.W](t, "back", api.ErrFlat)(Back(w))
			refused[api.W](t, "after", api.ErrFlat)(After(w, v))
			refused[api.W](t, "after", api.ErrFlat)(After(v, w))
			refused[api.H](t, "apply", api.ErrFlat)(Apply(w, p))
			refused[api.H](t, "carry", api.ErrFlat)(Carry(w, l))
			continue
		}
		back, both := must[api.W](t, "back")(Back(w)), must[api.W](t, "after")(After(w, v))
		same(t, "plain", isPlain(back[:]...) && isPlain(both[:]...), true)
		same(t, "nothing left", must[api.W](t, "after")(After(w, back)), still())
		same(t, "nothing left", must[api.W](t, "after")(After(back, w)), still())
		same(t, "back from both", must[api.W](t, "back")(Back(both)), must[api.W](t, "after")(After(must[api.W](t, "back")(Back(v)), back)))
		same(t, "however often", must[api.W](t, "after")(After(manyMap(w, g.more()), manyMap(v, g.more()))), both)
		to := apply(t, w, p)
		same(t, "apply", isPlain(to[:]...) && one(to, image(w, p)), true)
		same(t, "and back", apply(t, back, to), plain(t, p))
		same(t, "one after the other", apply(t, both, p), apply(t, w, apply(t, v, p)))
		same(t, "and back", carry(t, back, carry(t, w, l)), plain(t, l))
		same(t, "one after the other", carry(t, both, l), carry(t, w, carry(t, v, l)))
	}
	enough(t, "flat", told[1])
	enough(t, "maps", told[0])
}

func TestMapsKeepWhatIsOnAndRatio(t *testing.T) {
	told := [2]int{}
	for i := range rounds {
		g := newGuess(i)
		w := g.mapping()
		l, want := g.row()
		across := join(t, l[0], l[1])
		to := carry(t, w, across)
		same(t, "plain", isPlain(to[:]...), true)
		var made [4]api.H
		for j, p := range l {
			made[j] = apply(t, w, p)
			on(t, "on it", made[j], to)
		}
		same(t, "the line through what is made", to, join(t, made[0], made[1]))
		same(t, "ratio", ratio(t, made), want)
		// Of lines, too.
		for j, p := range l {
			made[j] = carry(t, w, p)
		}
		same(t, "ratio of lines", ratio(t, made), want)
		p := g.place()
		holds := dot(p, across).Sign() == 0
		told[count(holds)]++
		same(t, "on it just if it was", must[bool](t, "on")(On(apply(t, w, p), to)), holds)
	}
	enough(t, "not on it", told[0])
}

func TestDesargues(t *testing.T) {
	told := 0
	for i := range rounds {
		g := newGuess(i)
		eye := g.place()
		a := [3]api.H{g.place(), g.place(), g.place()}
		var b [3]api.H
		for j, p := range a {
			b[j] = sum(eye, g.more(), p, g.more())
		}
		var at bench
		side := func(j int) api.H { return at.meet(a[j], a[(j+1)%3], b[j], b[(j+1)%3]) }
		axis := at.join(side(0), side(1))
		last := side(2)
		if at.bad {
			continue
		}
		told++
		on(t, "Desargues", last, axis)
	}
	enough(t, "Desargues", told)
}

func TestDesarguesTheOtherWayRound(t *testing.T) {
	told := 0
	for i := range rounds {
		g := newGuess(i)
		axis := g.place()
		a := [3]api.H{g.place(), g.place(), g.place()}
		var at bench
		// Each side of the other triangle meets that of the first on the axis.
		var sides [3]api.H
		for j := range sides {
			sides[j] = at.join(at.join(at.join(a[j], a[(j+1)%3]), axis), g.place())
		}
		ray := func(j int) api.H { return at.join(a[j], at.join(sides[j], sides[(j+2)%3])) }
		eye := at.join(ray(0), ray(1))
		last := ray(2)
		if at.bad {
			continue
		}
		told++
		on(t, "Desargues", eye, last)
	}
	enough(t, "Desargues", told)
}

func TestPappus(t *testing.T) {
	told := 0
	for i := range rounds {
		g := newGuess(i)
		a, b := [3]api.H{g.place(), g.place()}, [3]api.H{g.place(), g.place()}
		a[2], b[2] = g.between(a[0], a[1]), g.between(b[0], b[1])
		var at bench
		cross := func(j, k int) api.H { return at.meet(a[j], b[k], a[k], b[j]) }
		axis := at.join(cross(0, 1), cross(1, 2))
		last := cross(2, 0)
		if at.bad {
			continue
		}
		told++
		on(t, "Pappus", last, axis)
	}
	enough(t, "Pappus", told)
}

func TestStaudt(t *testing.T) {
	for i := range rounds {
		p := newGuess(i).four()
		for j := range 3 {
			// The sides through the first, and those across from them.
			q, r, s := p[1+j], p[1+(j+1)%3], p[1+(j+2)%3]
			var at bench
			x, y := at.meet(p[0], q, r, s), at.meet(p[0], r, q, s)
			diagonal := at.join(x, y)
			u, v := at.join(diagonal, at.join(p[0], s)), at.join(diagonal, at.join(q, r))
			same(t, "bad", at.bad, false)
			same(t, "Staudt", must[api.H](t, "harmonic")(Harmonic(x, y, u)), v)
			same(t, "Staudt", ratio(t, [4]api.H{x, y, u, v}), "-1")
		}
	}
}
