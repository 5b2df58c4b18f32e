package conic

import (
	"math/big"
	"testing"

	"compass/api"
	"compass/line"
)

const rounds = 200

// enough: much of what was made at random must have been in such a place that something could be told.
func enough(t *testing.T, what string, told int) {
	t.Helper()
	if told < rounds/10 {
		t.Errorf("%s: only %d of %d told", what, told, rounds)
	}
}

// count is where a thing is counted: in the second place, if it holds.
func count(holds bool) int {
	if holds {
		return 1
	}
	return 0
}

func TestPlainAndSideOfAll(t *testing.T) {
	told := [3]int{}
	for i := range rounds {
		g := newGuess(i)
		k, p := g.any(), g.point()
		if i%3 == 0 && !flat(set(k, p)) {
			k = set(k, p)
		}
		got := must[api.K](t, "plain")(Plain(k))
		same(t, "plain", isPlain(got[:]...), true)
		same(t, "the same", proportional(got, k), true)
		n := rat(g.more())
		same(t, "of many times it", must[api.K](t, "plain")(Plain(sum(k, n, k, whole(0)))), got)
		side := must[int](t, "side")(Side(k, p))
		same(t, "side", side, value(got, p).Sign())
		same(t, "side of many times it", must[int](t, "side")(Side(sum(k, n, k, whole(0)), p)), side)
		told[side+1]++
	}
	for _, n := range told {
		enough(t, "side", n)
	}
}

// rank of the equations that points set to a conic.
func rank(l [5]api.P) int {
	var rows [][]*big.Rat
	for _, p := range l {
		x, y := rat(p.X), rat(p.Y)
		rows = append(rows, []*big.Rat{times(x, x), times(x, y), times(y, y), x, y, whole(1)})
	}
	found := 0
	for column := range 6 {
		at := found
		for at < 5 && rows[at][column].Sign() == 0 {
			at++
		}
		if at == 5 {
			continue
		}
		rows[at], rows[found] = rows[found], rows[at]
		for _, row := range rows[found+1:] {
			n := over(row[column], rows[found][column])
			for i := range row {
				row[i] = less(row[i], times(n, rows[found][i]))
			}
		}
		if found++; found == 5 {
			break
		}
	}
	return found
}

func TestThroughOfAll(t *testing.T) {
	told := [2]int{}
	for i := range rounds {
		g := newGuess(i)
		l := [5]api.P{g.point(), g.point(), g.point(), g.point(), g.point()}
		from, way := g.point(), g.way()
		// Some of them come upon one line, or upon each other.
		for j := range i / 4 % 6 {
			l[g.r.Intn(5)] = shifted(from, way, rat(g.fraction()))
			if j == 3 {
				l[g.r.Intn(5)] = l[g.r.Intn(5)]
			}
		}
		free := rank(l) < 5
		told[count(free)]++
		got, e := Through(l)
		if free {
			refused[api.K](t, "several", api.ErrFree)(got, e)
			continue
		}
		must[api.K](t, "through")(got, e)
		same(t, "plain", isPlain(got[:]...), true)
		same(t, "a conic", flat(got), false)
		for _, p := range l {
			same(t, "on it", must[int](t, "side")(Side(got, p)), 0)
			same(t, "on it", value(got, p).Sign(), 0)
		}
	}
	enough(t, "several", told[1])
	enough(t, "one", told[0])
}

func TestThroughFindsAConicAgain(t *testing.T) {
	for i := range rounds {
		l := newGuess(i).on(8)
		k := must[api.K](t, "through")(Through([5]api.P(l)))
		for _, p := range l {
			same(t, "on it", value(k, p).Sign(), 0)
		}
		same(t, "by others", must[api.K](t, "through")(Through([5]api.P(l[3:]))), k)
	}
}

func TestPolarOfAll(t *testing.T) {
	told, both := [2]int{}, [2]int{}
	for i := range rounds {
		g := newGuess(i)
		k, p, q := g.any(), g.point(), g.point()
		if c, e := Centre(k); e == api.OK && i%5 == 0 {
			p = c
		}
		right, up := slope(k, p, pt("1", "0")), slope(k, p, pt("0", "1"))
		l, e := Polar(k, p)
		none := right.Sign() == 0 && up.Sign() == 0
		told[count(none)]++
		if none {
			refused[api.L](t, "polar", api.ErrNone)(l, e)
			continue
		}
		must[api.L](t, "polar")(l, e)
		same(t, "plain", isPlain(l.A, l.B, l.C), true)
		// What the line makes of each x is so many times what is made of the pair.
		for _, x := range []api.P{q, g.point(), g.point(), p} {
			for _, y := range []api.P{origin(), g.point()} {
				same(t, "polar", times(valueOfLine(l, x), pairOf(k, p, y)).Cmp(times(valueOfLine(l, y), pairOf(k, p, x))), 0)
			}
		}
		if i%2 == 0 {
			// q comes upon the Polar of p.
			foot := must[api.P](t, "foot")(line.Foot(l, q))
			q = shifted(foot, pt(text(rat(l.B)), text(less(whole(0), rat(l.A)))), rat(g.fraction()))
		}
		m, e := Polar(k, q)
		if e != api.OK {
			continue
		}
		on := must[int](t, "side")(line.Side(l, q)) == 0
		same(t, "each on the other's", must[int](t, "side")(line.Side(m, p)) == 0, on)
		both[count(on)]++
	}
	enough(t, "no line", told[1])
	enough(t, "a line", told[0])
	enough(t, "each on the other's", both[1])
	enough(t, "neither on the other's", both[0])
}

func TestTouchOfAll(t *testing.T) {
	told := [3]int{}
	for i := range rounds {
		g := newGuess(i)
		k, p := g.any(), g.point()
		if i%4 > 0 {
			k = set(k, p)
		}
		if c, e := Centre(k); e == api.OK && i%4 == 1 {
			p = c
			k = set(k, p)
		}
		l, e := Touch(k, p)
		polar, none := Polar(k, p)
		if value(k, p).Sign() != 0 {
			told[0]++
			refused[api.L](t, "not on it", api.ErrValue)(l, e)
			continue
		}
		same(t, "its polar", l, polar)
		same(t, "its polar's error", e, none)
		if e != api.OK {
			told[1]++
			continue
		}
		told[2]++
		same(t, "through p", valueOfLine(l, p).Sign(), 0)
		// It touches: along it there is no other point, but where all of it is on k.
		along := pt(l.B, text(less(whole(0), rat(l.A))))
		same(t, "k doesn't grow", slope(k, p, along).Sign(), 0)
		if q, e := Second(k, p, along); e == api.OK {
			same(t, "touched", q, lowest(p))
		} else {
			same(t, "all of it", e, api.ErrFree)
		}
	}
	for _, n := range told {
		enough(t, "touch", n)
	}
}

// kindOf is told in the document's words.
func kindOf(k api.K) int {
	row := func(a, b, c *big.Rat) triad { return triad{a, b, c} }
	a, b, c, d, e, f := rat(k[0]), rat(k[1]), rat(k[2]), rat(k[3]), rat(k[4]), rat(k[5])
	small := less(times(whole(4), a, c), times(b, b))
	great := times(whole(4), determinant(row(a, half(b), half(d)), row(half(b), c, half(e)), row(half(d), half(e), f)))
	switch {
	case great.Sign() == 0 && small.Sign() != 0:
		return api.Lines
	case great.Sign() == 0:
		return api.Beside
	case small.Sign() < 0:
		return api.Hyperbola
	case small.Sign() == 0:
		return api.Parabola
	case times(great, plus(a, c)).Sign() > 0:
		return api.Void
	}
	return api.Ellipse
}

// bowlOf is a square, and a line: a parabola, or two lines beside each other.
func (g guess) bowlOf() api.K {
	w := g.way()
	x, y := rat(w.X), rat(w.Y)
	return api.K{text(times(x, x)), text(times(whole(2), x, y)), text(times(y, y)), g.fraction(), g.fraction(), g.fraction()}
}

// squares are two squares of lines that cross, and a number: an ellipse, one point, or nothing at all.
func (g guess) squares() api.K {
	k := sum(g.bowlOf(), rat("1"), g.bowlOf(), rat("1"))
	if g.r.Intn(2) == 0 {
		k[5] = text(plus(rat(k[5]), whole(1000)))
	}
	return k
}

func TestKindOfAll(t *testing.T) {
	told := map[int]int{}
	for i := range 3 * rounds {
		g := newGuess(i)
		k := g.any()
		switch i / 4 % 3 {
		case 0:
			k = g.bowlOf()
		case 1:
			k = g.squares()
		}
		want := kindOf(k)
		told[want]++
		same(t, "kind", must[int](t, "kind")(Kind(k)), want)
		// However often it is taken, and wherever it is shifted to.
		n := rat(g.more())
		same(t, "of many times it", must[int](t, "kind")(Kind(sum(k, n, k, whole(0)))), want)
		same(t, "shifted", must[int](t, "kind")(Kind(moved(k, g.point()))), want)
	}
	for _, kind := range []int{api.Ellipse, api.Hyperbola, api.Parabola, api.Lines, api.Beside, api.Void} {
		enough(t, "kind", told[kind])
	}
}

// moved makes of x what k makes of x and way.
func moved(k api.K, way api.P) api.K {
	k[3], k[4], k[5] = text(slope(k, way, pt("1", "0"))), text(slope(k, way, pt("0", "1"))), text(value(k, way))
	return k
}

// TestKindIsWhatIsThere: what has points on both sides, or none at all, is told so.
func TestKindIsWhatIsThere(t *testing.T) {
	told := 0
	for i := range rounds {
		g := newGuess(i)
		l := g.on(5)
		k := must[api.K](t, "through")(Through([5]api.P(l)))
		kind := must[int](t, "kind")(Kind(k))
		same(t, "one piece", kind == api.Ellipse || kind == api.Hyperbola || kind == api.Parabola, true)
		c, e := Centre(k)
		same(t, "centre", e == api.OK, kind != api.Parabola)
		if e != api.OK {
			continue
		}
		told++
		for _, p := range l {
			same(t, "both ways", value(k, shifted(c, between(p, c), whole(1))).Sign(), 0)
		}
	}
	enough(t, "centre", told)
}

func TestCentreOfAll(t *testing.T) {
	told := [2]int{}
	for i := range rounds {
		g := newGuess(i)
		k := g.any()
		if i%3 == 0 {
			k = g.bowlOf()
		}
		none := less(times(whole(4), rat(k[0]), rat(k[2])), times(rat(k[1]), rat(k[1]))).Sign() == 0
		told[count(none)]++
		c, e := Centre(k)
		if none {
			refused[api.P](t, "centre", api.ErrNone)(c, e)
			continue
		}
		must[api.P](t, "centre")(c, e)
		same(t, "lowest terms", c, lowest(c))
		for range 3 {
			way := g.way()
			there, back := shifted(c, way, whole(1)), shifted(c, way, whole(-1))
			same(t, "both ways", text(value(k, there)), text(value(k, back)))
			same(t, "on all middles", valueOfLine(must[api.L](t, "middles")(Middles(k, way)), c).Sign(), 0)
		}
	}
	enough(t, "none", told[1])
	enough(t, "a centre", told[0])
}

func TestMiddlesOfAll(t *testing.T) {
	told := [2]int{}
	for i := range rounds {
		g := newGuess(i)
		k, way := g.any(), g.way()
		if i%3 == 0 {
			k = g.bowlOf()
			// The way along which the square stays the same.
			if i%2 == 0 {
				way = pt(text(rat(k[1])), text(times(whole(-2), rat(k[0]))))
			}
			if one(way, origin()) {
				way = pt("1", "0")
			}
		}
		atOrigin := slope(k, origin(), way)
		right, up := less(slope(k, pt("1", "0"), way), atOrigin), less(slope(k, pt("0", "1"), way), atOrigin)
		none := right.Sign() == 0 && up.Sign() == 0
		told[count(none)]++
		l, e := Middles(k, way)
		if none {
			refused[api.L](t, "middles", api.ErrNone)(l, e)
			continue
		}
		must[api.L](t, "middles")(l, e)
		same(t, "plain", isPlain(l.A, l.B, l.C), true)
		foot := must[api.P](t, "foot")(line.Foot(l, g.point()))
		same(t, "neither grows nor shrinks", slope(k, foot, way).Sign(), 0)
		other := shifted(foot, pt(l.B, text(less(whole(0), rat(l.A)))), rat(g.more()))
		same(t, "neither grows nor shrinks", slope(k, other, way).Sign(), 0)
		if p := g.point(); valueOfLine(l, p).Sign() != 0 {
			same(t, "grows or shrinks", slope(k, p, way).Sign() != 0, true)
		}
	}
	enough(t, "none", told[1])
	enough(t, "a line", told[0])
}

func TestSecondOfAll(t *testing.T) {
	told := map[api.Errno]int{}
	touched := 0
	for i := range rounds {
		g := newGuess(i)
		k, p, way := g.any(), g.point(), g.way()
		switch i / 4 % 8 {
		case 0:
			k = g.bowlOf()
			if turned := pt(text(rat(k[1])), text(times(whole(-2), rat(k[0])))); !one(turned, origin()) {
				way = turned
			}
		case 1, 2:
			k = api.K{"0", "0", "0", way.Y, text(less(whole(0), rat(way.X))), "0"}
		}
		if i/4%8 != 7 {
			k = set(k, p)
		}
		if flat(k) {
			continue
		}
		if i/4%8 == 3 || i/4%8 == 4 {
			if l, e := Touch(k, p); e == api.OK {
				way = pt(l.B, text(less(whole(0), rat(l.A))))
			}
		}
		// Along the way: so much once, so much the square of how far.
		grows := slope(k, p, way)
		bends := less(less(value(k, shifted(p, way, whole(1))), value(k, p)), grows)
		q, e := Second(k, p, way)
		told[e]++
		switch {
		case value(k, p).Sign() != 0:
			refused[api.P](t, "not on it", api.ErrValue)(q, e)
		case bends.Sign() == 0 && grows.Sign() == 0:
			refused[api.P](t, "all of it", api.ErrFree)(q, e)
		case bends.Sign() == 0:
			refused[api.P](t, "no other", api.ErrNone)(q, e)
		default:
			must[api.P](t, "second")(q, e)
			same(t, "on it", value(k, q).Sign(), 0)
			same(t, "on the line", determinant(ofPoint(p), ofPoint(shifted(p, way, whole(1))), ofPoint(q)).Sign(), 0)
			same(t, "p just if it touches", one(p, q), grows.Sign() == 0)
			touched += count(one(p, q))
			same(t, "back", must[api.P](t, "second")(Second(k, q, way)), lowest(p))
			same(t, "the middle of the chord", must[int](t, "side")(line.Side(must[api.L](t, "middles")(Middles(k, way)), middle(p, q))), 0)
		}
	}
	for _, e := range []api.Errno{api.OK, api.ErrValue, api.ErrFree, api.ErrNone} {
		enough(t, "second", told[e])
	}
	enough(t, "touched", touched)
}

func TestChords(t *testing.T) {
	for i := range rounds {
		l := newGuess(i).on(6)
		k := must[api.K](t, "through")(Through([5]api.P(l)))
		for j := range l {
			for _, q := range l[:j] {
				p := l[j]
				if one(p, q) {
					t.Fatal("one point twice")
				}
				way := between(p, q)
				same(t, "second", must[api.P](t, "second")(Second(k, p, way)), q)
				same(t, "middle", must[int](t, "side")(line.Side(must[api.L](t, "middles")(Middles(k, way)), middle(p, q))), 0)
			}
		}
	}
}

// found is what Pencil answers, as one.
type found struct {
	k api.K
	e api.Errno
}

func asOne(k api.K, e api.Errno) found { return found{k, e} }

func TestPencilOfAll(t *testing.T) {
	told := [2]int{}
	for i := range rounds {
		g := newGuess(i)
		a, b, p := g.any(), g.any(), g.point()
		switch i / 4 % 5 {
		case 0:
			b = sum(a, rat(g.more()), a, whole(0))
		case 1:
			if a, b = set(a, p), set(b, p); flat(a) || flat(b) {
				continue
			}
		case 2:
			b = sum(a, rat(g.more()), a, whole(0))
			b[5] = g.fraction()
		}
		free := proportional(a, b) || value(a, p).Sign() == 0 && value(b, p).Sign() == 0
		told[count(free)]++
		got, e := Pencil(a, b, p)
		same(t, "the other way round", asOne(Pencil(b, a, p)), asOne(got, e))
		if free {
			refused[api.K](t, "several", api.ErrFree)(got, e)
			continue
		}
		must[api.K](t, "pencil")(got, e)
		same(t, "plain", isPlain(got[:]...), true)
		same(t, "a conic", flat(got), false)
		same(t, "through p", value(got, p).Sign(), 0)
		same(t, "the sum", proportional(got, sum(a, value(b, p), b, new(big.Rat).Neg(value(a, p)))), true)
	}
	enough(t, "several", told[1])
	enough(t, "one", told[0])
}

func TestPencilGoesThroughWhatBothShare(t *testing.T) {
	for i := range rounds {
		g := newGuess(i)
		l := g.on(6)
		a := must[api.K](t, "through")(Through([5]api.P(l)))
		// Two lines through four of the points.
		first, second := ofPoint(l[0]).cross(ofPoint(l[1])), ofPoint(l[2]).cross(ofPoint(l[3]))
		mixed := func(i, j int) api.Q { return text(plus(times(first[i], second[j]), times(first[j], second[i]))) }
		b := api.K{text(times(first[0], second[0])), mixed(0, 1), text(times(first[1], second[1])), mixed(0, 2), mixed(1, 2), text(times(first[2], second[2]))}
		p := g.point()
		got, e := Pencil(a, b, p)
		if e != api.OK {
			continue
		}
		for _, q := range append([]api.P{p}, l[:4]...) {
			same(t, "through it", must[int](t, "side")(Side(got, q)), 0)
		}
	}
}

func TestPascal(t *testing.T) {
	told := 0
	for i := range rounds {
		l := newGuess(i).on(5)
		k := must[api.K](t, "through")(Through([5]api.P(l)))
		// The sixth is found along a way of its own.
		g := newGuess(i)
		sixth, e := Second(k, l[4], g.way())
		if e != api.OK {
			continue
		}
		l = append(l, sixth)
		side := func(i int) triad { return ofPoint(l[i%6]).cross(ofPoint(l[(i+1)%6])) }
		across := func(i int) triad { return side(i).cross(side(i + 3)) }
		same(t, "Pascal", determinant(across(0), across(1), across(2)).Sign(), 0)
		told += count(pascal(t, l))
	}
	enough(t, "Pascal", told)
}

// pascal by lines of the plane, if all sides across meet in it.
func pascal(t *testing.T, l []api.P) bool {
	t.Helper()
	var meets []api.P
	for i := range 3 {
		first, e := line.Through(l[i], l[i+1])
		if e != api.OK {
			return false
		}
		second, e := line.Through(l[i+3], l[(i+4)%6])
		if e != api.OK {
			return false
		}
		p, e := line.Meet(first, second)
		if e != api.OK {
			return false
		}
		meets = append(meets, p)
	}
	join, e := line.Through(meets[0], meets[1])
	if e != api.OK {
		return false
	}
	same(t, "Pascal", must[int](t, "side")(line.Side(join, meets[2])), 0)
	return true
}

func TestBrianchon(t *testing.T) {
	told := 0
	for i := range rounds {
		l := newGuess(i).on(6)
		k := must[api.K](t, "through")(Through([5]api.P(l)))
		var touching [6]api.L
		for j, p := range l {
			touching[j] = must[api.L](t, "touch")(Touch(k, p))
		}
		corner := func(i int) triad { return ofLine(touching[i%6]).cross(ofLine(touching[(i+1)%6])) }
		join := func(i int) triad { return corner(i).cross(corner(i + 3)) }
		same(t, "Brianchon", determinant(join(0), join(1), join(2)).Sign(), 0)
		// A corner is the point whose Polar goes through both points that are touched.
		p, e := line.Meet(touching[0], touching[1])
		if e != api.OK {
			continue
		}
		told++
		same(t, "polar of a corner", must[api.L](t, "polar")(Polar(k, p)), must[api.L](t, "join")(line.Through(l[0], l[1])))
	}
	enough(t, "corners", told)
}
