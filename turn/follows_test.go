package turn

import (
	"math/big"
	"testing"

	"compass/api"
	"compass/circle"
	"compass/line"
)

const rounds = 200

// enough: much of what was made at random must have been in such a place that something could be told.
func enough(t *testing.T, what string, told int) {
	t.Helper()
	if told < rounds/10 {
		t.Errorf("%s: only %d of %d told", what, told, rounds)
	}
}

// count is where a thing is counted: in the second place, if it holds.
func count(holds bool) int {
	if holds {
		return 1
	}
	return 0
}

func origin() api.P { return pt("0", "0") }

// bent is a circle, or a line, and points of it.
func (g guess) bent(t *testing.T, straight bool) (api.G, []api.P) {
	t.Helper()
	if straight {
		p := g.point()
		q := g.other(p)
		l := []api.P{plain(p), plain(q), at(p, q, rat(g.fraction())), at(p, q, whole(-1))}
		return must[api.G](t, "of a line")(OfLine(must[api.L](t, "line")(line.Through(p, q)))), l
	}
	c, on := g.on(4)
	return must[api.G](t, "of a circle")(OfCircle(c)), on
}

// inverse is p turned inside out by c, p being no middle.
func inverse(c api.C, p api.P) api.P { return at(c.M, p, over(rat(c.R2), far2(c.M, p))) }

func TestPointOfAll(t *testing.T) {
	for i := range rounds {
		g := newGuess(i)
		c := g.circle()
		p := plain(g.other(c.M))
		got := must[api.P](t, "point")(Point(c, p))
		same(t, "point", got, inverse(c, p))
		same(t, "back", must[api.P](t, "back")(Point(c, got)), p)
		same(t, "product of the distances", text(times(far2(c.M, p), far2(c.M, got))), text(times(rat(c.R2), rat(c.R2))))
		_, on := g.on(1)
		d := api.C{M: c.M, R2: text(far2(c.M, on[0]))}
		if far2(c.M, on[0]).Sign() != 0 {
			same(t, "on it", must[api.P](t, "on it")(Point(d, on[0])), on[0])
		}
	}
}

func TestReadingOfAll(t *testing.T) {
	told := [3]int{}
	for i := range rounds {
		g := newGuess(i)
		b := bend(g.fraction(), g.fraction(), g.fraction(), g.fraction())
		if i%3 == 0 {
			b.A = "0"
		}
		if i%5 == 0 {
			// A circle with one point: too little by nothing.
			p := g.point()
			b = bend("1", text(times(whole(-2), rat(p.X))), text(times(whole(-2), rat(p.Y))), text(far2(origin(), p)))
		}
		straight, good := rat(b.A).Sign() == 0, spread(b).Sign() > 0
		l, wrongLine := ToLine(b)
		c, wrongCircle := ToCircle(b)
		switch {
		case !good:
			told[0]++
			refused[api.L](t, "neither", api.ErrFlat)(l, wrongLine)
			refused[api.C](t, "neither", api.ErrFlat)(c, wrongCircle)
		case straight:
			told[1]++
			refused[api.C](t, "no circle", api.ErrForm)(c, wrongCircle)
			same(t, "line", wrongLine, api.OK)
			same(t, "its G", must[api.G](t, "of a line")(OfLine(l)), must[api.G](t, "carry")(Carry(ofFractions("1", "0", "0", "1"), b)))
			same(t, "its line", l, must[api.L](t, "plain")(line.Plain(ln(b.B, b.C, b.D))))
		default:
			told[2]++
			refused[api.L](t, "no line", api.ErrForm)(l, wrongLine)
			same(t, "circle", wrongCircle, api.OK)
			same(t, "its G", must[api.G](t, "of a circle")(OfCircle(c)), must[api.G](t, "carry")(Carry(ofFractions("1", "0", "0", "1"), b)))
			p := g.point()
			same(t, "its power", text(times(rat(b.A), less(far2(c.M, p), rat(c.R2)))), text(value(b, p)))
		}
	}
	for _, n := range told {
		enough(t, "reading", n)
	}
}

func TestRoundOfAll(t *testing.T) {
	told := [2]int{}
	for i := range rounds {
		g := newGuess(i)
		b, on := g.bent(t, i%2 == 0)
		c := g.circle()
		if i%8 > 5 {
			c.M = on[1]
		}
		got := must[api.G](t, "round")(Round(c, b))
		same(t, "plain", isPlain(got), true)
		same(t, "a circle or a line", spread(got).Sign() > 0, true)
		for _, p := range on {
			if far2(c.M, p).Sign() != 0 {
				same(t, "on it", text(value(got, must[api.P](t, "point")(Point(c, p)))), "0")
			}
		}
		// Just what goes through the middle becomes straight.
		through := value(b, c.M).Sign() == 0
		told[count(through)]++
		same(t, "straight", got.A == "0", through)
		same(t, "through the middle", value(got, c.M).Sign() == 0, b.A == "0")
		same(t, "back", must[api.G](t, "back")(Round(c, got)), b)
		// What isn't on it doesn't come upon it.
		if p := g.other(c.M); value(b, p).Sign() != 0 {
			same(t, "not on it", value(got, inverse(c, p)).Sign() != 0, true)
		}
	}
	enough(t, "straight", told[1])
	enough(t, "bent", told[0])
}

func TestAtRightAnglesTurnedIntoItself(t *testing.T) {
	told := [2]int{}
	for i := range rounds {
		g := newGuess(i)
		c, d := g.circle(), g.circle()
		switch i % 4 {
		case 0, 1:
			// A circle through a point and its image crosses at right angles.
			p := g.other(c.M)
			q := inverse(c, p)
			if far2(p, q).Sign() == 0 {
				continue
			}
			k := rat(g.fraction())
			left := pt(text(less(rat(p.Y), rat(q.Y))), text(less(rat(q.X), rat(p.X))))
			d.M = sum(at(p, q, big.NewRat(1, 2)), at(origin(), left, k))
			d.R2 = text(far2(d.M, p))
		case 2:
			d = c
		}
		square := must[bool](t, "square")(circle.Square(c, d))
		itself := must[api.G](t, "of a circle")(OfCircle(d))
		one := must[int](t, "lie")(circle.Lie(c, d)) == api.Same
		same(t, "itself", must[api.G](t, "round")(Round(c, itself)) == itself, square || one)
		told[count(square)]++
	}
	enough(t, "square", told[1])
	enough(t, "not square", told[0])
}

func TestLinesTurnedIntoThemselves(t *testing.T) {
	told := [2]int{}
	for i := range rounds {
		g := newGuess(i)
		c := g.circle()
		l := g.line()
		if i%2 == 0 {
			l = must[api.L](t, "through")(line.Through(c.M, g.other(c.M)))
		}
		itself := must[api.G](t, "of a line")(OfLine(l))
		through := value(itself, c.M).Sign() == 0
		same(t, "itself", must[api.G](t, "round")(Round(c, itself)) == itself, through)
		told[count(through)]++
	}
	enough(t, "through the middle", told[1])
	enough(t, "beside it", told[0])
}

func cross(t *testing.T, l []api.P) api.P {
	t.Helper()
	return must[api.P](t, "cross")(Cross(l[0], l[1], l[2], l[3]))
}

func TestCrossOfAll(t *testing.T) {
	for i := range rounds {
		g := newGuess(i)
		l := g.apart(4)
		a, b, c, d := l[0], l[1], l[2], l[3]
		got := cross(t, l)
		same(t, "cross", got, quotient(product(minus(a, c), minus(b, d)), product(minus(a, d), minus(b, c))))
		same(t, "both pairs changed", cross(t, []api.P{b, a, d, c}), got)
		same(t, "the pairs changed", cross(t, []api.P{c, d, a, b}), got)
		same(t, "one pair changed", cross(t, []api.P{a, b, d, c}), quotient(pt("1", "0"), got))
		// (Ptolemy) The products of the sides across are together the diagonals' product.
		sides := sum(product(minus(a, b), minus(c, d)), product(minus(b, c), minus(a, d)))
		same(t, "Ptolemy", sides, product(minus(a, c), minus(b, d)))
		same(t, "Ptolemy", sum(got, cross(t, []api.P{a, c, b, d})), pt("1", "0"))
	}
}

func TestCrossOfTwoThatAreOne(t *testing.T) {
	told := [2]int{}
	for i := range rounds {
		g := newGuess(i)
		l := [4]api.P{g.point(), g.point(), g.point(), g.point()}
		if i%2 == 0 {
			l[g.r.Intn(4)] = l[g.r.Intn(4)]
		}
		one := false
		for j := range l {
			for k := range j {
				one = one || far2(l[j], l[k]).Sign() == 0
			}
		}
		got, e := Cross(l[0], l[1], l[2], l[3])
		same(t, "flat", e == api.ErrFlat, one)
		same(t, "nothing", got == api.P{}, one)
		told[count(one)]++
	}
	enough(t, "one", told[1])
	enough(t, "apart", told[0])
}

func TestCrossIsANumberJustOnOneCircleOrLine(t *testing.T) {
	told := [2]int{}
	for i := range rounds {
		g := newGuess(i)
		l := g.apart(4)
		if i%3 > 0 {
			_, l = g.bent(t, i%3 == 1)
		}
		number, e := Cross(l[0], l[1], l[2], l[3])
		if e != api.OK {
			continue
		}
		// The circle or the line through the first three, and whether the fourth is on it.
		var through api.G
		if c, e := circle.Through(l[0], l[1], l[2]); e == api.OK {
			through = must[api.G](t, "of a circle")(OfCircle(c))
		} else {
			through = must[api.G](t, "of a line")(OfLine(must[api.L](t, "through")(line.Through(l[0], l[1]))))
		}
		on := value(through, l[3]).Sign() == 0
		same(t, "a number", number.Y == "0", on)
		told[count(on)]++
	}
	enough(t, "on one", told[1])
	enough(t, "not on one", told[0])
}

func TestCrossIsKeptByMapsAndMirroredByPoint(t *testing.T) {
	told := 0
	for i := range rounds {
		g := newGuess(i)
		l, m, c := g.apart(4), g.mapping(), g.circle()
		want := cross(t, l)
		var carried, turned []api.P
		for _, p := range l {
			if got := must[image](t, "apply")(imageOf(m, p)); !got.far {
				carried = append(carried, got.w)
			}
			if far2(c.M, p).Sign() != 0 {
				turned = append(turned, must[api.P](t, "point")(Point(c, p)))
			}
		}
		if len(carried) == 4 {
			same(t, "kept", cross(t, carried), want)
			told++
		}
		if len(turned) == 4 {
			same(t, "mirrored", cross(t, turned), conjugate(want))
		}
	}
	enough(t, "cross", told)
}

func TestApplyOfAll(t *testing.T) {
	told := [2]int{}
	for i := range rounds {
		g := newGuess(i)
		m, z := g.mapping(), g.point()
		if i%3 == 0 && far2(origin(), m.C).Sign() != 0 {
			z = minus(origin(), quotient(m.D, m.C))
		}
		low := sum(product(m.C, z), m.D)
		far := low == origin()
		told[count(far)]++
		want := image{far: far}
		if !far {
			want.w = quotient(sum(product(m.A, z), m.B), low)
		}
		same(t, "apply", must[image](t, "apply")(imageOf(m, z)), want)
		if !far {
			back := must[api.M](t, "back")(Back(m))
			same(t, "there and back", must[image](t, "apply")(imageOf(back, want.w)), image{plain(z), false})
		}
	}
	enough(t, "far", told[1])
	enough(t, "not far", told[0])
}

func TestMapsOfAll(t *testing.T) {
	told := [2]int{}
	still := ofFractions("1", "0", "0", "1")
	for i := range rounds {
		g := newGuess(i)
		m, n := g.mapping(), g.mapping()
		both, back := must[api.M](t, "after")(After(m, n)), must[api.M](t, "back")(Back(m))
		same(t, "starts with 1", startsWithOne(both) && startsWithOne(back), true)
		same(t, "nothing left", must[api.M](t, "after")(After(m, back)), still)
		same(t, "nothing left", must[api.M](t, "after")(After(back, m)), still)
		same(t, "back from both", must[api.M](t, "back")(Back(both)), must[api.M](t, "after")(After(must[api.M](t, "back")(Back(n)), back)))
		z := g.point()
		if first := must[image](t, "apply")(imageOf(n, z)); !first.far {
			same(t, "one after the other", must[image](t, "apply")(imageOf(both, z)), must[image](t, "apply")(imageOf(m, first.w)))
		}
		any := frac(g.point(), g.point(), g.point(), g.point())
		if i%3 == 0 {
			any = frac(product(m.A, z), product(m.A, m.C), product(m.B, z), product(m.B, m.C))
		}
		flat := determinant(any) == origin()
		_, e := Back(any)
		same(t, "flat", e == api.ErrFlat, flat)
		told[count(flat)]++
	}
	enough(t, "flat", told[1])
	enough(t, "maps", told[0])
}

func TestThreeOfAll(t *testing.T) {
	for i := range rounds {
		g := newGuess(i)
		p, q := [3]api.P(g.apart(3)), [3]api.P(g.apart(3))
		m := must[api.M](t, "three")(Three(p, q))
		same(t, "starts with 1", startsWithOne(m), true)
		for j := range p {
			same(t, "each to that of q", must[image](t, "apply")(imageOf(m, p[j])), image{plain(q[j]), false})
		}
		same(t, "back", must[api.M](t, "back")(Back(m)), must[api.M](t, "three")(Three(q, p)))
		// There is but one such map: a map is found again from what it makes of three points.
		n := g.mapping()
		var made []api.P
		for _, z := range p {
			if got := must[image](t, "apply")(imageOf(n, z)); !got.far {
				made = append(made, got.w)
			}
		}
		if len(made) == 3 {
			same(t, "found again", must[api.M](t, "three")(Three(p, [3]api.P(made))), must[api.M](t, "after")(After(n, ofFractions("1", "0", "0", "1"))))
		}
	}
}

func TestCarryOfAll(t *testing.T) {
	told := [2]int{}
	for i := range rounds {
		g := newGuess(i)
		b, on := g.bent(t, i%2 == 0)
		m := g.mapping()
		if i%8 > 5 {
			// A point of it goes out of the plane.
			m.C = g.other(origin())
			m.D = minus(origin(), product(m.C, on[2]))
		}
		if determinant(m) == origin() {
			continue
		}
		got := must[api.G](t, "carry")(Carry(m, b))
		same(t, "plain", isPlain(got), true)
		same(t, "a circle or a line", spread(got).Sign() > 0, true)
		straight := false
		for _, p := range on {
			to := must[image](t, "apply")(imageOf(m, p))
			straight = straight || to.far
			if !to.far {
				same(t, "on it", text(value(got, to.w)), "0")
			}
		}
		if straight {
			same(t, "straight", got.A, "0")
		}
		told[count(got.A == "0")]++
		same(t, "back", must[api.G](t, "carry")(Carry(must[api.M](t, "back")(Back(m)), got)), b)
		n := g.mapping()
		both := must[api.M](t, "after")(After(n, m))
		same(t, "one after the other", must[api.G](t, "carry")(Carry(both, b)), must[api.G](t, "carry")(Carry(n, got)))
		if p := g.point(); value(b, p).Sign() != 0 {
			to := must[image](t, "apply")(imageOf(m, p))
			same(t, "not on it", to.far || value(got, to.w).Sign() != 0, true)
		}
	}
	enough(t, "straight", told[1])
	enough(t, "bent", told[0])
}
