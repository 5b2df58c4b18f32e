package angle

import (
	"math"
	"math/big"
	"testing"

	"compass/api"
	"compass/line"
	"compass/plane"
)

const rounds = 200

func sum(t *testing.T, l ...api.T) api.T {
	t.Helper()
	all := an("0", "1")
	for _, a := range l {
		all = must[api.T](t, "sum")(Sum(all, a))
	}
	return all
}

func seen(t *testing.T, a, b, p api.P) api.T {
	t.Helper()
	return must[api.T](t, "seen")(Seen(a, b, p))
}

func through(t *testing.T, p, q api.P) api.L {
	t.Helper()
	return must[api.L](t, "through")(line.Through(p, q))
}

func TestAgainstLibrary(t *testing.T) {
	for i := range rounds {
		g := newGuess(i)
		a, b, l, m := g.angle(), g.angle(), g.line(), g.line()
		same(t, "plain", must[api.T](t, "plain")(Plain(a)), angleOf(a).told())
		same(t, "sum", must[api.T](t, "sum")(Sum(a, b)), angleOf(a).times(angleOf(b)).told())
		same(t, "from", must[api.T](t, "from")(From(l, m)), along(l).back().times(along(m)).told())
		p := g.apart(3)
		first, second := numberOf(p[0]).minus(numberOf(p[2])), numberOf(p[1]).minus(numberOf(p[2]))
		same(t, "seen", seen(t, p[0], p[1], p[2]), first.back().times(second).told())
	}
}

func TestTimesAgainstLibrary(t *testing.T) {
	for i := range 8 {
		a := newGuess(i).angle()
		forth, back := number{big.NewRat(1, 1), new(big.Rat)}, number{big.NewRat(1, 1), new(big.Rat)}
		for n := range api.MaxTimes + 1 {
			same(t, "times", must[api.T](t, "times")(Times(a, n)), forth.told())
			same(t, "times back", must[api.T](t, "times")(Times(a, -n)), back.told())
			forth, back = forth.times(angleOf(a)), back.times(angleOf(a).back())
		}
	}
}

// slope is how far a line is turned from the level one, as a float: by the tangent, as both numbers may be too great for floats.
func slope(n number) float64 {
	if n.re.Sign() == 0 {
		return math.Pi / 2
	}
	tangent, _ := new(big.Rat).Quo(n.im, n.re).Float64()
	return math.Atan(tangent)
}

// near checks that two angles are alike but for half turns.
func near(t *testing.T, what string, got, want float64) {
	t.Helper()
	if d := math.Remainder(got-want, math.Pi); math.Abs(d) > 1e-9 {
		t.Errorf("%s: %v, want %v", what, got, want)
	}
}

func TestAgainstTheClock(t *testing.T) {
	for i := range rounds {
		g := newGuess(i)
		a, b, l, m := g.angle(), g.angle(), g.line(), g.line()
		near(t, "from", slope(angleOf(must[api.T](t, "from")(From(l, m)))), slope(along(m))-slope(along(l)))
		near(t, "sum", slope(angleOf(sum(t, a, b))), slope(angleOf(a))+slope(angleOf(b)))
		n := g.r.Intn(2*api.MaxTimes+1) - api.MaxTimes
		near(t, "times", slope(angleOf(must[api.T](t, "times")(Times(a, n)))), float64(n)*slope(angleOf(a)))
		turned := must[api.L](t, "turned")(Turned(l, g.point(), a))
		near(t, "turned", slope(along(turned)), slope(along(l))+slope(angleOf(a)))
	}
}

func TestTurnedIsBackOfFrom(t *testing.T) {
	for i := range rounds {
		g := newGuess(i)
		l, m, p, a := g.line(), g.line(), g.point(), g.angle()
		turned := must[api.L](t, "turned")(Turned(l, p, a))
		same(t, "through the point", must[int](t, "side")(line.Side(turned, p)), 0)
		same(t, "plain", must[api.L](t, "plain")(line.Plain(turned)), turned)
		same(t, "from", must[api.T](t, "from")(From(l, turned)), must[api.T](t, "plain")(Plain(a)))
		by := must[api.T](t, "from")(From(l, m))
		same(t, "to the other", must[api.L](t, "turned")(Turned(l, p, by)), must[api.L](t, "beside")(line.Beside(m, p)))
	}
}

func TestSeenIsFromLineToLine(t *testing.T) {
	for i := range rounds {
		p := newGuess(i).apart(3)
		want := must[api.T](t, "from")(From(through(t, p[2], p[0]), through(t, p[2], p[1])))
		same(t, "seen", seen(t, p[0], p[1], p[2]), want)
	}
}

func TestAnglesOfATriangle(t *testing.T) {
	for i := range rounds {
		p := newGuess(i).apart(3)
		same(t, "seen", sum(t, seen(t, p[0], p[1], p[2]), seen(t, p[1], p[2], p[0]), seen(t, p[2], p[0], p[1])), an("0", "1"))
		var sides [3]api.L
		for j := range sides {
			sides[j] = through(t, p[j], p[(j+1)%3])
		}
		all := an("0", "1")
		for j := range sides {
			all = sum(t, all, must[api.T](t, "from")(From(sides[j], sides[(j+1)%3])))
		}
		same(t, "from side to side", all, an("0", "1"))
	}
}

// onCircle are n points of one circle, and its middle: p, turned by twice as much as some angles.
func onCircle(g guess, n int) ([]api.P, api.P) {
	m, p := numberOf(g.point()), numberOf(g.way())
	l := make([]api.P, n)
	for i := range l {
		z := angleOf(g.angle())
		length2 := z.times(z.back()).re
		unit := z.times(z).times(number{new(big.Rat).Inv(length2), new(big.Rat)})
		l[i] = m.plus(p.times(unit)).point()
	}
	return l, m.point()
}

// distinct tells if no two points are one.
func distinct(l []api.P) bool {
	for i := range l {
		for j := range i {
			if l[i] == l[j] {
				return false
			}
		}
	}
	return true
}

// together: do four points lie on one circle, or one line? By their determinant, seen from the last one.
func together(l []api.P) bool {
	var rows [3][3]*big.Rat
	for i := range rows {
		d := numberOf(l[i]).minus(numberOf(l[3]))
		rows[i] = [3]*big.Rat{d.re, d.im, d.times(d.back()).re}
	}
	det := new(big.Rat)
	for i := range rows {
		b, c := rows[(i+1)%3], rows[(i+2)%3]
		det.Add(det, times(rows[i][2], less(times(b[0], c[1]), times(b[1], c[0]))))
	}
	return det.Sign() == 0
}

// enough: most of what was made at random must have been in such a place that something could be told.
func enough(t *testing.T, told int) {
	t.Helper()
	if told < rounds/2 {
		t.Errorf("only %d of %d told", told, rounds)
	}
}

func TestEuclidOnACircle(t *testing.T) {
	told := 0
	for i := range rounds {
		p, _ := onCircle(newGuess(i), 4)
		if !distinct(p) {
			continue
		}
		told++
		same(t, "on a circle", together(p), true)
		same(t, "seen", seen(t, p[0], p[1], p[2]), seen(t, p[0], p[1], p[3]))
	}
	enough(t, told)
}

func TestEuclidOnALine(t *testing.T) {
	told := 0
	for i := range rounds {
		g := newGuess(i)
		p := g.apart(2)
		p = append(p, plane.At(p[0], p[1], g.fraction()), plane.At(p[0], p[1], g.fraction()))
		if !distinct(p) {
			continue
		}
		told++
		same(t, "on a line", together(p), true)
		same(t, "seen", seen(t, p[0], p[1], p[2]), an("0", "1"))
		same(t, "seen", seen(t, p[0], p[1], p[3]), an("0", "1"))
	}
	enough(t, told)
}

func TestEuclidOfAll(t *testing.T) {
	yes, no := 0, 0
	for i := range 5 * rounds {
		p := newGuess(i).near(4)
		want := together(p)
		if want {
			yes++
		} else {
			no++
		}
		same(t, "Euclid", seen(t, p[0], p[1], p[2]) == seen(t, p[0], p[1], p[3]), want)
	}
	if yes < rounds/10 || no < rounds/10 {
		t.Errorf("only %d on one circle, %d not", yes, no)
	}
}

func TestFromTheMiddle(t *testing.T) {
	told := 0
	for i := range rounds {
		p, m := onCircle(newGuess(i), 3)
		if !distinct(p) {
			continue
		}
		told++
		twice := must[api.T](t, "times")(Times(seen(t, p[0], p[1], p[2]), 2))
		same(t, "from the middle", seen(t, p[0], p[1], m), twice)
	}
	enough(t, told)
}

// middleOf is the middle of the circle through three points, if there is one.
func middleOf(a, b, c api.P) (api.P, bool) {
	l, e := line.Between(a, b)
	m, f := line.Between(b, c)
	if e != api.OK || f != api.OK {
		return api.P{}, false
	}
	p, e := line.Meet(l, m)
	return p, e == api.OK
}

func TestMiquel(t *testing.T) {
	told := 0
	for i := range rounds {
		g := newGuess(i)
		c := g.apart(3)
		var on [3]api.P
		for j := range on {
			on[j] = plane.At(c[(j+1)%3], c[(j+2)%3], g.fraction())
		}
		first, ok := middleOf(c[0], on[1], on[2])
		second, ok2 := middleOf(c[1], on[2], on[0])
		_, ok3 := middleOf(c[2], on[0], on[1])
		if !ok || !ok2 || !ok3 || first == second {
			continue
		}
		// Two circles have another point in common: the first one's mirror at the line through their middles.
		p := must[api.P](t, "mirror")(line.Mirror(through(t, first, second), on[2]))
		got, e := Seen(on[0], on[1], p)
		if e != api.OK {
			continue
		}
		told++
		same(t, "Miquel", got, seen(t, on[0], on[1], c[2]))
	}
	enough(t, told)
}
