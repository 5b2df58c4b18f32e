package circle

import (
	"math/big"
	"testing"

	"compass/api"
	"compass/line"
	"compass/plane"
)

const rounds = 200

// enough: much of what was made at random must have been in such a place that something could be told.
func enough(t *testing.T, what string, told int) {
	t.Helper()
	if told < rounds/10 {
		t.Errorf("%s: only %d of %d told", what, told, rounds)
	}
}

// count is where a thing is counted: in the second place, if it holds.
func count(holds bool) int {
	if holds {
		return 1
	}
	return 0
}

func through(t *testing.T, p, q api.P) api.L {
	t.Helper()
	return must[api.L](t, "through")(line.Through(p, q))
}

func second(t *testing.T, c api.C, p, q api.P) api.P {
	t.Helper()
	return must[api.P](t, "second")(Second(c, p, q))
}

func polar(t *testing.T, c api.C, p api.P) api.L {
	t.Helper()
	return must[api.L](t, "polar")(Polar(c, p))
}

func TestThroughOfAll(t *testing.T) {
	told := [2]int{}
	for i := range rounds {
		g := newGuess(i)
		a, b, d := g.point(), g.point(), g.point()
		c, e := Through(a, b, d)
		flat := turn(a, b, d).Sign() == 0
		same(t, "flat", e == api.ErrFlat, flat)
		told[count(flat)]++
		if flat {
			continue
		}
		for _, p := range []api.P{a, b, d} {
			same(t, "on it", text(power(c, p)), "0")
		}
		same(t, "back", must[api.C](t, "back")(Through(d, a, b)), c)
	}
	enough(t, "through", told[0])
	same(t, "some flat", told[1] > 0, true)
}

func TestPowerOfAll(t *testing.T) {
	for i := range rounds {
		g := newGuess(i)
		c, p := g.circle(), g.point()
		same(t, "power", must[api.Q](t, "power")(Power(c, p)), text(power(c, p)))
	}
}

func TestAxisOfAll(t *testing.T) {
	told := [3]int{}
	for i := range rounds {
		g := newGuess(i)
		c, d := g.circle(), g.circle()
		if i%5 == 0 {
			d.M = c.M
		}
		if i%10 == 0 {
			d.R2 = text(rat(c.R2))
		}
		axis, e := Axis(c, d)
		switch {
		case far2(c.M, d.M).Sign() != 0:
			told[0]++
			same(t, "axis", e, api.OK)
			same(t, "plain", isPlain(axis), true)
			for _, p := range onLine(axis) {
				same(t, "one power", text(power(c, p)), text(power(d, p)))
			}
		case rat(c.R2).Cmp(rat(d.R2)) == 0:
			told[1]++
			refused[api.L](t, "the same", api.ErrFree)(axis, e)
		default:
			told[2]++
			refused[api.L](t, "one middle", api.ErrNone)(axis, e)
		}
	}
	for _, n := range told {
		enough(t, "axis", n)
	}
}

func TestThreeAxesMeetInTheHeart(t *testing.T) {
	told := [2]int{}
	for i := range rounds {
		g := newGuess(i)
		l := [3]api.C{g.circle(), g.circle(), g.circle()}
		if i%5 == 0 {
			l[2].M = at(l[0].M, l[1].M, rat(g.fraction()))
		}
		heart, e := Heart(l[0], l[1], l[2])
		flat := turn(l[0].M, l[1].M, l[2].M).Sign() == 0
		told[count(flat)]++
		if flat {
			refused[api.P](t, "flat", api.ErrFlat)(heart, e)
			continue
		}
		same(t, "heart", e, api.OK)
		for j := range l {
			same(t, "one power", text(power(l[j], heart)), text(power(l[0], heart)))
			axis := must[api.L](t, "axis")(Axis(l[j], l[(j+1)%3]))
			same(t, "on the axis", text(value(axis, heart)), "0")
			next := must[api.L](t, "axis")(Axis(l[(j+1)%3], l[(j+2)%3]))
			same(t, "where they meet", must[api.P](t, "meet")(line.Meet(axis, next)), heart)
		}
	}
	enough(t, "heart", told[0])
	enough(t, "flat", told[1])
}

func TestChordOfAll(t *testing.T) {
	told := [2]int{}
	for i := range rounds {
		g := newGuess(i)
		c, l := g.circle(), g.line()
		if i%4 == 3 {
			var on []api.P
			c, on = g.on(2)
			if far2(on[0], on[1]).Sign() != 0 {
				l = through(t, on[0], on[1])
				same(t, "its middle", must[chord](t, "chord")(chordOf(c, l)), chord{middle(on[0], on[1]), text(over(far2(on[0], on[1]), whole(4)))})
			}
		}
		a, b := rat(l.A), rat(l.B)
		v := value(l, c.M)
		half := less(rat(c.R2), over(times(v, v), plus(times(a, a), times(b, b))))
		got, e := chordOf(c, l)
		told[count(half.Sign() < 0)]++
		if half.Sign() < 0 {
			refused[chord](t, "beside", api.ErrNone)(got, e)
			continue
		}
		same(t, "chord", e, api.OK)
		same(t, "half", got.half2, text(half))
		same(t, "on the line", text(value(l, got.mid)), "0")
		same(t, "at right angles", text(less(times(a, less(rat(got.mid.Y), rat(c.M.Y))), times(b, less(rat(got.mid.X), rat(c.M.X))))), "0")
	}
	enough(t, "chord", told[0])
	enough(t, "beside", told[1])
}

func TestTouchOfAll(t *testing.T) {
	for i := range rounds {
		g := newGuess(i)
		c, on := g.on(2)
		for _, p := range on {
			touch := must[api.L](t, "touch")(Touch(c, p))
			same(t, "plain", isPlain(touch), true)
			same(t, "through p", text(value(touch, p)), "0")
			same(t, "it touches", must[chord](t, "chord")(chordOf(c, touch)), chord{p, "0"})
			same(t, "its polar", polar(t, c, p), touch)
			for _, q := range onLine(touch) {
				same(t, "right angle", text(dot(c.M, p, p, q)), "0")
				if far2(p, q).Sign() != 0 {
					same(t, "no other point", second(t, c, p, q), p)
				}
			}
		}
		p := g.point()
		_, e := Touch(c, p)
		same(t, "on it", e == api.OK, power(c, p).Sign() == 0)
		same(t, "not on it", e == api.ErrNone, power(c, p).Sign() != 0)
	}
}

func TestPolarAndPoleOfAll(t *testing.T) {
	for i := range rounds {
		g := newGuess(i)
		c := g.circle()
		p := plain(g.other(c.M))
		l := polar(t, c, p)
		same(t, "plain", isPlain(l), true)
		for _, x := range onLine(l) {
			same(t, "product", text(dot(c.M, p, c.M, x)), text(rat(c.R2)))
		}
		same(t, "its pole", must[api.P](t, "pole")(Pole(c, l)), p)
		refused[api.L](t, "of the middle", api.ErrFlat)(Polar(c, c.M))
		m := g.line()
		pole, e := Pole(c, m)
		if value(m, c.M).Sign() == 0 {
			refused[api.P](t, "through the middle", api.ErrNone)(pole, e)
			continue
		}
		same(t, "pole", e, api.OK)
		same(t, "its polar", polar(t, c, pole), must[api.L](t, "plain")(line.Plain(m)))
		refused[api.P](t, "through the middle", api.ErrNone)(Pole(c, through(t, c.M, p)))
	}
}

func TestLaHire(t *testing.T) {
	told := [2]int{}
	for i := range rounds {
		g := newGuess(i)
		c := g.circle()
		p := g.other(c.M)
		l := polar(t, c, p)
		q := g.other(c.M)
		if i%3 == 0 {
			on := onLine(l)
			q = at(on[0], on[1], rat(g.fraction()))
		}
		forth := value(l, q).Sign() == 0
		back := value(polar(t, c, q), p).Sign() == 0
		same(t, "La Hire", back, forth)
		told[count(forth)]++
	}
	enough(t, "La Hire", told[0])
	enough(t, "La Hire", told[1])
}

func TestSecondOfAll(t *testing.T) {
	told := 0
	for i := range rounds {
		g := newGuess(i)
		c, on := g.on(2)
		q := g.point()
		if power(c, q).Sign() != 0 {
			refused[api.P](t, "not on it", api.ErrNone)(Second(c, q, on[0]))
		}
		refused[api.P](t, "q is p", api.ErrFlat)(Second(c, on[0], on[0]))
		if far2(on[0], on[1]).Sign() != 0 {
			told++
			same(t, "the other", second(t, c, on[0], on[1]), on[1])
			beyond := at(on[0], on[1], plus(whole(2), rat(g.above())))
			same(t, "the other", second(t, c, on[0], beyond), on[1])
		}
		q = g.other(on[0])
		other := second(t, c, on[0], q)
		same(t, "on it", text(power(c, other)), "0")
		same(t, "on the line", text(turn(on[0], q, other)), "0")
		same(t, "itself if it touches", other == on[0], dot(c.M, on[0], on[0], q).Sign() == 0)
	}
	enough(t, "second", told)
}

func TestEuclid(t *testing.T) {
	for i := range rounds {
		g := newGuess(i)
		c, on := g.on(1)
		p := g.other(on[0])
		want := must[api.Q](t, "power")(Power(c, p))
		other := second(t, c, on[0], p)
		same(t, "product of the ways", text(dot(p, on[0], p, other)), want)
		l := through(t, p, on[0])
		cut := must[chord](t, "chord")(chordOf(c, l))
		same(t, "by the chord", text(less(far2(p, cut.mid), rat(cut.half2))), want)
	}
}

func TestThales(t *testing.T) {
	for i := range rounds {
		g := newGuess(i)
		c, on := g.on(2)
		across := second(t, c, on[0], c.M)
		same(t, "a diameter", middle(on[0], across), plain(c.M))
		same(t, "right angle", text(dot(on[1], on[0], on[1], across)), "0")
		p := g.point()
		same(t, "nowhere else", dot(p, on[0], p, across).Sign(), power(c, p).Sign())
	}
}

// sides are the squares of the sides of four points in their order, and of both diagonals.
func sides(l []api.P) [6]*big.Rat {
	return [6]*big.Rat{far2(l[0], l[1]), far2(l[1], l[2]), far2(l[2], l[3]), far2(l[3], l[0]), far2(l[0], l[2]), far2(l[1], l[3])}
}

// fourth is a point on the circle through the first three, or, by turns, any point.
func fourth(t *testing.T, g guess, round int) []api.P {
	t.Helper()
	if round%2 == 0 {
		return []api.P{g.point(), g.point(), g.point(), g.point()}
	}
	a, b, d := g.point(), g.point(), g.point()
	for turn(a, b, d).Sign() == 0 {
		a, b, d = g.point(), g.point(), g.point()
	}
	c := must[api.C](t, "circle")(Through(a, b, d))
	return []api.P{a, b, d, second(t, c, a, g.other(a))}
}

// together: do four points lie on one circle or line?
func together(l []api.P) bool {
	c, e := Through(l[0], l[1], l[2])
	if e != api.OK {
		return turn(l[0], l[1], l[3]).Sign() == 0 && turn(l[0], l[2], l[3]).Sign() == 0
	}
	return power(c, l[3]).Sign() == 0
}

func TestPtolemy(t *testing.T) {
	told := [2]int{}
	for i := range rounds {
		l := fourth(t, newGuess(i), i)
		if twice(l) {
			continue
		}
		s := sides(l)
		x, y, z := times(s[0], s[2]), times(s[1], s[3]), times(s[4], s[5])
		d := less(z, plus(x, y))
		holds := together(l)
		same(t, "Ptolemy", times(d, d).Cmp(times(whole(4), x, y)) == 0, holds)
		told[count(holds)]++
		if holds && inOrder(l) {
			same(t, "the diagonals' product is the greatest", d.Sign(), 1)
		}
	}
	enough(t, "Ptolemy", told[0])
	enough(t, "Ptolemy", told[1])
}

// twice: are two of the points one?
func twice(l []api.P) bool {
	for i := range l {
		for j := range i {
			if far2(l[i], l[j]).Sign() == 0 {
				return true
			}
		}
	}
	return false
}

// inOrder: do four points go around one way?
func inOrder(l []api.P) bool {
	first := turn(l[0], l[1], l[2]).Sign()
	return first != 0 && turn(l[1], l[2], l[3]).Sign() == first && turn(l[2], l[3], l[0]).Sign() == first && turn(l[3], l[0], l[1]).Sign() == first
}

func TestBrahmagupta(t *testing.T) {
	told := 0
	for i := range rounds {
		g := newGuess(i)
		_, l := g.on(4)
		if twice(l) {
			continue
		}
		s := sides(l)
		area := plus(rat(plane.Area2(l[0], l[1], l[2])), rat(plane.Area2(l[0], l[2], l[3])))
		d := less(plus(s[0], s[1]), plus(s[2], s[3]))
		// Sixteen times the square of the area, and the square of d, are four times the square of the sum of two products of sides: of that, this is what isn't a sum of squares.
		mixed := less(plus(times(whole(4), area, area), times(d, d)), times(whole(4), plus(times(s[0], s[1]), times(s[2], s[3]))))
		same(t, "Brahmagupta", text(times(mixed, mixed)), text(times(whole(64), s[0], s[1], s[2], s[3])))
		if inOrder(l) {
			told++
			same(t, "in order", mixed.Sign(), 1)
		}
	}
	enough(t, "Brahmagupta", told)
}

func TestButterfly(t *testing.T) {
	told := 0
	for i := range rounds {
		g := newGuess(i)
		c, on := g.on(3)
		m := at(on[0], on[1], big.NewRat(int64(1+i%7), 8))
		if far2(m, c.M).Sign() == 0 || far2(on[0], on[1]).Sign() == 0 || turn(on[0], m, on[2]).Sign() == 0 {
			continue
		}
		l := must[api.L](t, "square")(line.Square(through(t, c.M, m), m))
		same(t, "its middle", must[chord](t, "chord")(chordOf(c, l)).mid, m)
		last := second(t, c, on[2], m)
		x, e := line.Meet(l, through(t, on[0], last))
		y, f := line.Meet(l, through(t, on[2], second(t, c, on[0], m)))
		same(t, "butterfly", e, f)
		if e == api.OK {
			told++
			same(t, "butterfly", middle(x, y), m)
		}
	}
	enough(t, "butterfly", told)
}

// how both lie to each other, if the radii and the distance of the middles are fractions.
func how(r, s, d *big.Rat) int {
	apart, within := d.Cmp(plus(r, s)), d.Cmp(new(big.Rat).Abs(less(r, s)))
	switch {
	case d.Sign() == 0 && r.Cmp(s) == 0:
		return api.Same
	case apart > 0:
		return api.Outside
	case apart == 0:
		return api.Touches
	case within > 0:
		return api.Crosses
	case within == 0:
		return api.Leans
	default:
		return api.Within
	}
}

func TestLieOfAll(t *testing.T) {
	var told [6]int
	for i := range rounds {
		g := newGuess(i)
		r, s, d := rat(g.above()), rat(g.above()), rat(g.above())
		switch i % 7 {
		case 0:
			d = plus(r, s)
		case 1:
			d = new(big.Rat).Abs(less(r, s))
		case 2:
			d = over(plus(r, s, new(big.Rat).Abs(less(r, s))), whole(2))
		case 3:
			d = over(less(r, s), whole(2))
			d.Abs(d)
		case 4:
			d, s = new(big.Rat), r
		}
		// The root of scale need be no fraction, and the way between the middles is as long as it: so all is scaled alike.
		from, way := g.point(), g.other(pt("0", "0"))
		scale := far2(pt("0", "0"), way)
		to := pt(text(plus(rat(from.X), times(d, rat(way.X)))), text(plus(rat(from.Y), times(d, rat(way.Y)))))
		b, c := api.C{M: from, R2: text(times(r, r, scale))}, api.C{M: to, R2: text(times(s, s, scale))}
		want := how(r, s, d)
		same(t, "lie", must[int](t, "lie")(Lie(b, c)), want)
		same(t, "lie", must[int](t, "lie")(Lie(c, b)), want)
		same(t, "square", must[bool](t, "square")(Square(b, c)), times(d, d).Cmp(plus(times(r, r), times(s, s))) == 0)
		told[want]++
	}
	for i, n := range told {
		if n < 5 {
			t.Errorf("lie: only %d of kind %d", n, i)
		}
	}
}

func TestLieByTheAxis(t *testing.T) {
	told := [2]int{}
	for i := range rounds {
		g := newGuess(i)
		c, d := g.circle(), g.circle()
		if i%2 == 0 {
			var on []api.P
			c, on = g.on(1)
			d.R2 = text(far2(d.M, g.other(d.M)))
			if far2(d.M, on[0]).Sign() != 0 {
				d.R2 = text(far2(d.M, on[0]))
			}
		}
		axis, e := Axis(c, d)
		if e != api.OK {
			continue
		}
		// What both have in common lies on their axis.
		cut, e := chordOf(c, axis)
		lie := must[int](t, "lie")(Lie(c, d))
		same(t, "two", lie == api.Crosses, e == api.OK && cut.half2 != "0")
		same(t, "one", lie == api.Touches || lie == api.Leans, e == api.OK && cut.half2 == "0")
		same(t, "none", lie == api.Outside || lie == api.Within, e == api.ErrNone)
		told[count(e == api.OK)]++
	}
	enough(t, "lie", told[0])
	enough(t, "lie", told[1])
}

func TestSquareOfAll(t *testing.T) {
	told := [2]int{}
	for i := range rounds {
		g := newGuess(i)
		c, on := g.on(1)
		d := g.circle()
		if i%2 == 0 {
			// Around a point of a line that touches, through where it touches.
			touch := onLine(must[api.L](t, "touch")(Touch(c, on[0])))
			m := touch[0]
			if far2(m, on[0]).Sign() == 0 {
				m = touch[1]
			}
			d.M = at(on[0], m, rat(g.above()))
			d.R2 = text(far2(d.M, on[0]))
		}
		want := far2(c.M, d.M).Cmp(plus(rat(c.R2), rat(d.R2))) == 0
		same(t, "square", must[bool](t, "square")(Square(c, d)), want)
		told[count(want)]++
		if want {
			same(t, "power", must[api.Q](t, "power")(Power(c, d.M)), text(rat(d.R2)))
		}
	}
	enough(t, "square", told[0])
	enough(t, "square", told[1])
}

func TestFarOfAll(t *testing.T) {
	for i := range rounds {
		g := newGuess(i)
		a := g.point()
		b, k := g.other(a), g.above()
		if rat(k).Cmp(whole(1)) == 0 {
			continue
		}
		c := must[api.C](t, "far")(Far(a, b, k))
		// The middle lies on the line of both, and each is the other's turned inside out.
		same(t, "on their line", text(turn(a, b, c.M)), "0")
		same(t, "inside out", text(dot(c.M, a, c.M, b)), c.R2)
		same(t, "as far", text(over(far2(c.M, a), far2(c.M, b))), text(times(rat(k), rat(k))))
		same(t, "the other way", must[api.C](t, "far")(Far(b, a, text(over(whole(1), rat(k))))), c)
		// A point x that is as far, and is not on the line of both: it is found from the other end.
		x := g.point()
		if far2(x, b).Sign() == 0 || far2(x, a).Sign() == 0 || far2(x, a).Cmp(far2(x, b)) == 0 {
			continue
		}
		d := must[api.C](t, "far")(Far(a, b, text(over(far2(x, a), far2(x, b)))))
		same(t, "on it", text(power(d, x)), "0")
	}
}
