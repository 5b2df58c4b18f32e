package triangle

import (
	"math/big"
	"testing"

	"compass/api"
	"compass/line"
	"compass/plane"
)

const rounds = 200

// enough: much of what was made at random must have been in such a place that something could be told.
func enough(t *testing.T, what string, told int) {
	t.Helper()
	if told < rounds/10 {
		t.Errorf("%s: only %d of %d told", what, told, rounds)
	}
}

func centre(t *testing.T, x [3]api.P, which int) api.P {
	t.Helper()
	return must[api.P](t, "centre")(Centre(x, which))
}

// place is a triangle and a point: by turns anywhere, and both of a small grid.
func place(round int) ([3]api.P, api.P) {
	g := newGuess(round)
	if round%2 == 0 {
		return g.near(), g.nearPoint()
	}
	return g.triangle(), g.point()
}

// ray is the line from a corner to where its side is parted.
func ray(t *testing.T, corner, parted api.P) api.L {
	t.Helper()
	return must[api.L](t, "ray")(line.Through(corner, parted))
}

// oneMeet: do three lines, of which no two are the same, meet in one point, or lie all beside each other?
func oneMeet(l [3]api.L) bool {
	minor := func(a, b, c, d api.Q) *big.Rat { return less(times(rat(a), rat(d)), times(rat(b), rat(c))) }
	return plus(
		times(rat(l[0].A), minor(l[1].B, l[1].C, l[2].B, l[2].C)),
		times(rat(l[0].B), minor(l[1].C, l[1].A, l[2].C, l[2].A)),
		times(rat(l[0].C), minor(l[1].A, l[1].B, l[2].A, l[2].B)),
	).Sign() == 0
}

// parted are points on the sides: At(b, c, x), At(c, a, y), At(a, b, z), made by weights.
func parted(t *testing.T, x [3]api.P, k [3]*big.Rat) [3]api.P {
	t.Helper()
	var l [3]api.P
	for i := range l {
		var w [3]api.Q
		w[(i+1)%3], w[(i+2)%3] = text(less(whole(1), k[i])), text(k[i])
		l[i] = must[api.P](t, "parted")(Weigh(x, w))
		same(t, "parted", l[i], plane.At(x[(i+1)%3], x[(i+2)%3], text(k[i])))
	}
	return l
}

// products are x y z and (1 - x)(1 - y)(1 - z).
func products(k [3]*big.Rat) (*big.Rat, *big.Rat) {
	rest := func(r *big.Rat) *big.Rat { return less(whole(1), r) }
	return times(k[0], k[1], k[2]), times(rest(k[0]), rest(k[1]), rest(k[2]))
}

// parts are three numbers, the last of them, every second time, such that x y z is sign times (1 - x)(1 - y)(1 - z).
func parts(g guess, round int, sign int64) [3]*big.Rat {
	k := [3]*big.Rat{rat(g.fraction()), rat(g.fraction()), rat(g.fraction())}
	forth := times(k[0], k[1])
	back := times(whole(sign), less(whole(1), k[0]), less(whole(1), k[1]))
	if total := plus(forth, back); round%8 < 4 && total.Sign() != 0 {
		k[2] = over(back, total)
	}
	return k
}

// squares of the sides.
func squares(x [3]api.P) [3]*big.Rat {
	return [3]*big.Rat{far2(x[1], x[2]), far2(x[2], x[0]), far2(x[0], x[1])}
}

func ones() [3]*big.Rat { return [3]*big.Rat{whole(1), whole(1), whole(1)} }

func TestCentresOfAll(t *testing.T) {
	for i := range rounds {
		x, _ := place(i)
		sides := squares(x)
		same(t, "mass", centre(t, x, api.Mass), weighed(x, ones()))
		same(t, "Lemoine", centre(t, x, api.Lemoine), weighed(x, sides))
		around, heights := centre(t, x, api.Around), centre(t, x, api.Heights)
		same(t, "nine", centre(t, x, api.Nine), middle(around, heights))
		told := must[[3]api.Q](t, "sides")(Sides(x))
		for j := range x {
			same(t, "side", told[j], text(sides[j]))
			same(t, "as far from all", text(far2(around, x[j])), text(far2(around, x[0])))
			if dot(x[j], heights, x[(j+1)%3], x[(j+2)%3]).Sign() != 0 {
				t.Errorf("heights: no right angle: %v, %v", x, heights)
			}
		}
		circle := must[api.C](t, "circle")(Circle(x, false))
		same(t, "circle", circle, api.C{M: around, R2: text(far2(around, x[0]))})
	}
}

func TestEulerLine(t *testing.T) {
	for i := range rounds {
		x, _ := place(i)
		mass, around, heights := centre(t, x, api.Mass), centre(t, x, api.Around), centre(t, x, api.Heights)
		same(t, "Euler", heights, at(around, mass, whole(3)))
		circle := must[api.C](t, "circle")(Circle(x, false))
		sides := must[[3]api.Q](t, "sides")(Sides(x))
		same(t, "nine radii", text(less(times(whole(9), rat(circle.R2)), plus(rat(sides[0]), rat(sides[1]), rat(sides[2])))), text(far2(around, heights)))
	}
}

func TestNinePoints(t *testing.T) {
	for i := range rounds {
		x, _ := place(i)
		nine := must[api.C](t, "nine")(Circle(x, true))
		same(t, "its middle", nine.M, centre(t, x, api.Nine))
		heights := centre(t, x, api.Heights)
		feet := must[[3]api.P](t, "feet")(Feet(x, heights))
		for j := range x {
			for _, p := range []api.P{middle(x[(j+1)%3], x[(j+2)%3]), middle(x[j], heights), feet[j]} {
				same(t, "nine", text(far2(nine.M, p)), nine.R2)
			}
		}
	}
}

func TestWeightsOfAll(t *testing.T) {
	for i := range rounds {
		x, p := place(i)
		w := must[[3]api.Q](t, "weights")(Weights(x, p))
		k := [3]*big.Rat{rat(w[0]), rat(w[1]), rat(w[2])}
		same(t, "together", text(plus(k[0], k[1], k[2])), "1")
		same(t, "the mean", weighed(x, k), plain(p))
		same(t, "weigh", must[api.P](t, "weigh")(Weigh(x, w)), plain(p))
	}
}

func TestFeetOfAll(t *testing.T) {
	for i := range rounds {
		x, p := place(i)
		for j, foot := range must[[3]api.P](t, "feet")(Feet(x, p)) {
			a, b := x[(j+1)%3], x[(j+2)%3]
			if turn(a, b, foot).Sign() != 0 || dot(a, b, p, foot).Sign() != 0 {
				t.Errorf("%v is no foot of %v on the line of %v, %v", foot, p, a, b)
			}
		}
	}
}

func TestRaysOfAll(t *testing.T) {
	told, none := 0, 0
	for i := range rounds {
		x, p := place(i)
		one := false
		for _, w := range must[[3]api.Q](t, "weights")(Weights(x, p)) {
			one = one || w == "1"
		}
		rays, e := Rays(x, p)
		same(t, "rays", e == api.ErrNone, one)
		if one {
			none++
			continue
		}
		told++
		for j, r := range rays {
			if turn(x[(j+1)%3], x[(j+2)%3], r).Sign() != 0 || turn(x[j], p, r).Sign() != 0 {
				t.Errorf("%v is not on the ray of %v", r, p)
			}
		}
	}
	enough(t, "rays", told)
	enough(t, "no rays", none)
}

func TestCeva(t *testing.T) {
	told := [2]int{}
	for i := range rounds {
		g := newGuess(i)
		x := g.triangle()
		k := parts(g, i, 1)
		forth, back := products(k)
		var rays [3]api.L
		for j, p := range parted(t, x, k) {
			rays[j] = ray(t, x[j], p)
		}
		alike := forth.Cmp(back) == 0
		same(t, "Ceva", oneMeet(rays), alike)
		told[count(alike)]++
	}
	enough(t, "Ceva", told[0])
	enough(t, "Ceva", told[1])
}

// count is where a thing is counted: in the second place, if it holds.
func count(holds bool) int {
	if holds {
		return 1
	}
	return 0
}

func TestCevaOfRays(t *testing.T) {
	told := 0
	for i := range rounds {
		x, p := place(i)
		rays, e := Rays(x, p)
		if e != api.OK {
			continue
		}
		told++
		var k [3]*big.Rat
		for j := range rays {
			k[j] = rat(must[api.Q](t, "ratio")(plane.Ratio(x[(j+1)%3], x[(j+2)%3], rays[j])))
		}
		forth, back := products(k)
		same(t, "Ceva", text(forth), text(back))
	}
	enough(t, "Ceva", told)
}

func TestMenelaus(t *testing.T) {
	told := [2]int{}
	for i := range rounds {
		g := newGuess(i)
		x := g.triangle()
		k := parts(g, i, -1)
		forth, back := products(k)
		p := parted(t, x, k)
		alike := plus(forth, back).Sign() == 0
		same(t, "Menelaus", turn(p[0], p[1], p[2]).Sign() == 0, alike)
		told[count(alike)]++
	}
	enough(t, "Menelaus", told[0])
	enough(t, "Menelaus", told[1])
}

// onCircle is a point on the circle through the corners: the first corner mirrored at a line through the circle's middle.
func onCircle(t *testing.T, x [3]api.P, g guess) api.P {
	t.Helper()
	m, p := centre(t, x, api.Around), g.point()
	for far2(m, p).Sign() == 0 {
		p = g.point()
	}
	return must[api.P](t, "mirror")(line.Mirror(ray(t, m, p), x[0]))
}

func TestSimsonAndEulerOfFeet(t *testing.T) {
	told := [2]int{}
	for i := range rounds {
		x, p := place(i)
		if i%3 == 0 {
			p = onCircle(t, x, newGuess(i))
		}
		circle := must[api.C](t, "circle")(Circle(x, false))
		r2, far := rat(circle.R2), far2(circle.M, p)
		feet := must[[3]api.P](t, "feet")(Feet(x, p))
		area, on := turn(feet[0], feet[1], feet[2]), far.Cmp(r2) == 0
		same(t, "Simson, Wallace", area.Sign() == 0, on)
		same(t, "Euler", text(over(area, turn(x[0], x[1], x[2]))), text(over(less(r2, far), times(whole(4), r2))))
		told[count(on)]++
	}
	enough(t, "Simson", told[0])
	enough(t, "Simson", told[1])
}

func TestCarnot(t *testing.T) {
	told := [2]int{}
	for i := range rounds {
		g := newGuess(i)
		x := g.triangle()
		on := parted(t, x, parts(g, i, 1))
		if i%3 == 0 {
			on = must[[3]api.P](t, "feet")(Feet(x, g.point()))
		}
		first, second := new(big.Rat), new(big.Rat)
		var upright [3]api.L
		for j := range on {
			a, b := x[(j+1)%3], x[(j+2)%3]
			first, second = plus(first, far2(a, on[j])), plus(second, far2(on[j], b))
			upright[j] = must[api.L](t, "square")(line.Square(ray(t, a, b), on[j]))
		}
		alike := first.Cmp(second) == 0
		same(t, "Carnot", oneMeet(upright), alike)
		told[count(alike)]++
	}
	enough(t, "Carnot", told[0])
	enough(t, "Carnot", told[1])
}

func TestRouth(t *testing.T) {
	told := 0
	for i := range rounds {
		g := newGuess(i)
		x := g.triangle()
		k := parts(g, i, 1)
		p := parted(t, x, k)
		// Where the lines of two corners meet, the weights of the corners are told by both lines: this is what they add up to.
		bottom, all := whole(1), true
		var meets [3]api.P
		for j := range p {
			next := (j + 1) % 3
			bottom = times(bottom, plus(whole(1), new(big.Rat).Neg(k[next]), times(k[j], k[next])))
			var e api.Errno
			meets[j], e = line.Meet(ray(t, x[j], p[j]), ray(t, x[next], p[next]))
			all = all && e == api.OK
		}
		if !all {
			continue
		}
		told++
		forth, back := products(k)
		d := less(forth, back)
		same(t, "Routh", text(over(turn(meets[0], meets[1], meets[2]), turn(x[0], x[1], x[2]))), text(over(times(d, d), bottom)))
	}
	enough(t, "Routh", told)
}

// sum2 is the sum of the squares of the distances of p to the sides.
func sum2(t *testing.T, x [3]api.P, p api.P) *big.Rat {
	t.Helper()
	sum := new(big.Rat)
	for _, foot := range must[[3]api.P](t, "feet")(Feet(x, p)) {
		sum = plus(sum, far2(p, foot))
	}
	return sum
}

func TestLemoineIsTheLeast(t *testing.T) {
	for i := range rounds {
		x, p := place(i)
		least := centre(t, x, api.Lemoine)
		if i%3 == 0 {
			p = at(least, p, big.NewRat(1, 1000000000000))
		}
		if order := sum2(t, x, least).Cmp(sum2(t, x, p)); order > 0 || order == 0 && least != plain(p) {
			t.Errorf("Lemoine: %v has less than %v", p, least)
		}
	}
}

func TestTurnedOverOfAll(t *testing.T) {
	told := 0
	for i := range rounds {
		x, p := place(i)
		w := must[[3]api.Q](t, "weights")(Weights(x, p))
		sides := squares(x)
		got, e := Isogonal(x, p)
		told += checkTurnedOver(t, "isogonal", x, w, sides, got, e)
		got, e = Isotomic(x, p)
		checkTurnedOver(t, "isotomic", x, w, ones(), got, e)
	}
	enough(t, "turned over", told)
}

// checkTurnedOver holds an answer against ups over the weights w; it answers 1 if there is such a point.
func checkTurnedOver(t *testing.T, what string, x [3]api.P, w [3]api.Q, ups [3]*big.Rat, got api.P, e api.Errno) int {
	t.Helper()
	var k [3]*big.Rat
	for i := range w {
		if w[i] == "0" {
			same(t, what, got, api.P{})
			same(t, what, e, api.ErrValue)
			return 0
		}
		k[i] = over(ups[i], rat(w[i]))
	}
	if plus(k[0], k[1], k[2]).Sign() == 0 {
		same(t, what, got, api.P{})
		same(t, what, e, api.ErrNone)
		return 0
	}
	same(t, what, got, weighed(x, k))
	same(t, what, e, api.OK)
	return 1
}

func TestTwiceTurnedOver(t *testing.T) {
	told := 0
	for i := range rounds {
		x, p := place(i)
		p = plain(p)
		if q, e := Isotomic(x, p); e == api.OK {
			same(t, "isotomic twice", must[api.P](t, "isotomic")(Isotomic(x, q)), p)
		}
		q, e := Isogonal(x, p)
		if e != api.OK {
			continue
		}
		told++
		same(t, "isogonal twice", must[api.P](t, "isogonal")(Isogonal(x, q)), p)
		m := middle(p, q)
		feet, others := must[[3]api.P](t, "feet")(Feet(x, p)), must[[3]api.P](t, "feet")(Feet(x, q))
		for j := range feet {
			same(t, "one circle", text(far2(m, feet[j])), text(far2(m, feet[0])))
			same(t, "one circle", text(far2(m, others[j])), text(far2(m, feet[0])))
		}
	}
	enough(t, "isogonal twice", told)
}
