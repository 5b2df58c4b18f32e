package hyper

import (
	"testing"

	"compass/api"
	"compass/line"
)

const rounds = 400

// enough: much of what was made at random must have been in such a place that something could be told.
func enough(t *testing.T, what string, told int) {
	t.Helper()
	if told < rounds/20 {
		t.Errorf("%s: only %d of %d told", what, told, rounds)
	}
}

func mirrorOf(t *testing.T, l api.L, p api.P) api.P {
	t.Helper()
	return must[api.P](t, "mirror")(Mirror(l, p))
}

func footOf(t *testing.T, l api.L, p api.P) api.P {
	t.Helper()
	return must[api.P](t, "foot")(Foot(l, p))
}

func squareOf(t *testing.T, l api.L, p api.P) api.L {
	t.Helper()
	return must[api.L](t, "square")(Square(l, p))
}

func TestWhatIsWithin(t *testing.T) {
	told := [2][3]int{}
	for i := range rounds {
		g := newGuess(i)
		p, l := g.any(), g.numbers()
		sign := ofPoints(p, p).Sign()
		told[0][sign+1]++
		if sign < 0 {
			answers[api.Q](t, "far", "1", api.OK)(Far(p, p))
		} else {
			refused[api.Q](t, "far", api.ErrValue)(Far(p, p))
		}
		sign = ofLines(l, l).Sign()
		told[1][sign+1]++
		if sign > 0 {
			same(t, "check", Check(l), api.OK)
		} else {
			same(t, "check", Check(l), api.ErrFlat)
		}
		// A line that touches the circle: that of an edge point's polar.
		q := g.edge()
		same(t, "touch", Check(many(ln(q.X, q.Y, "-1"), g.more())), api.ErrFlat)
	}
	for _, of := range told {
		for _, n := range of {
			enough(t, "within, on, outside", n)
		}
	}
}

func TestFarAndLeanOfAll(t *testing.T) {
	told := [3]int{}
	for i := range rounds {
		g := newGuess(i)
		p, q := g.point(), g.point()
		got := must[api.Q](t, "far")(Far(p, q))
		same(t, "far", got, text(far(p, q)))
		if one := lowest(p) == lowest(q); one != (got == "1") || rat(got).Cmp(whole(1)) < 0 {
			t.Errorf("far of %v and %v: %s", p, q, got)
		}
		l, m := g.line(), g.line()
		got = must[api.Q](t, "lean")(Lean(l, m))
		same(t, "lean", got, text(lean(l, m)))
		same(t, "lean, however often", must[api.Q](t, "again")(Lean(many(l, g.more()), many(m, g.more()))), got)
		told[rat(got).Cmp(whole(1))+1]++
	}
	for _, n := range told {
		enough(t, "lean", n)
	}
}

func TestMirrorAndFootOfAll(t *testing.T) {
	for i := range rounds {
		g := newGuess(i)
		l, p := g.line(), g.point()
		if i%8 == 0 {
			p = footOf(t, l, p)
		}
		mirror, foot := mirrorOf(t, l, p), footOf(t, l, p)
		same(t, "mirror", mirror, moved(l, p, 2))
		same(t, "foot", foot, moved(l, p, 1))
		same(t, "on the line", value(l, foot).Sign(), 0)
		more := many(l, g.more())
		same(t, "mirror, however often", mirrorOf(t, more, p), mirror)
		same(t, "foot, however often", footOf(t, more, p), foot)
		same(t, "the same foot", footOf(t, l, mirror), foot)
		same(t, "as far on either side", text(far(foot, mirror)), text(far(foot, p)))
		same(t, "the other side", value(l, mirror).Sign(), -value(l, p).Sign())
		if on := value(l, p).Sign() == 0; on != (mirror == lowest(p)) || on != (foot == lowest(p)) {
			t.Errorf("mirror of %v at %v: %v, foot %v", p, l, mirror, foot)
		}
	}
}

func TestMirrorKeepsFar(t *testing.T) {
	for i := range rounds {
		g := newGuess(i)
		l, p, q := g.line(), g.point(), g.point()
		x, y := mirrorOf(t, l, p), mirrorOf(t, l, q)
		same(t, "far", must[api.Q](t, "far")(Far(x, y)), text(far(p, q)))
		same(t, "twice", mirrorOf(t, l, x), lowest(p))
		// What is on a line stays on one: lines go to lines.
		if r := (api.P{X: text(over(plus(rat(p.X), rat(q.X)), whole(2))), Y: text(over(plus(rat(p.Y), rat(q.Y)), whole(2)))}); value(through(x, y), mirrorOf(t, l, r)).Sign() != 0 {
			t.Errorf("no line: %v, %v, %v at %v", p, q, r, l)
		}
	}
}

func TestSquareOfAll(t *testing.T) {
	on := 0
	for i := range rounds {
		g := newGuess(i)
		l, p := g.line(), g.point()
		if i%8 == 0 {
			p = footOf(t, l, p)
		}
		square, mirror := squareOf(t, l, p), mirrorOf(t, l, p)
		same(t, "plain", isPlain(square), true)
		same(t, "a line", Check(square), api.OK)
		same(t, "through p", value(square, p).Sign(), 0)
		same(t, "through the mirror", value(square, mirror).Sign(), 0)
		same(t, "<,>", ofLines(square, l).Sign(), 0)
		same(t, "lean", must[api.Q](t, "lean")(Lean(square, l)), "0")
		same(t, "however often", squareOf(t, many(l, g.more()), p), square)
		same(t, "they meet in the foot", must[api.P](t, "meet")(line.Meet(square, l)), footOf(t, l, p))
		if value(l, p).Sign() == 0 {
			on++
		} else {
			same(t, "the line of both", must[api.L](t, "through")(line.Through(p, mirror)), square)
		}
	}
	enough(t, "on the line", on)
}

func TestCommonOfAll(t *testing.T) {
	told, none := 0, 0
	for i := range rounds {
		g := newGuess(i)
		l, m := g.line(), g.line()
		got, e := Common(l, m)
		back, again := Common(m, l)
		same(t, "the other way", back, got)
		same(t, "the other way", again, e)
		if lean(l, m).Cmp(whole(1)) <= 0 {
			none++
			same(t, "none", got, api.L{})
			same(t, "none", e, api.ErrNone)
			continue
		}
		told++
		same(t, "common", e, api.OK)
		same(t, "plain", isPlain(got), true)
		same(t, "a line", Check(got), api.OK)
		same(t, "<,> with the first", ofLines(got, l).Sign(), 0)
		same(t, "<,> with the second", ofLines(got, m).Sign(), 0)
		same(t, "however often", must[api.L](t, "again")(Common(many(l, g.more()), many(m, g.more()))), got)
		// Between where it meets both, the way from the one to the other is shortest, and Lean is its Far.
		from, to := must[api.P](t, "meet")(line.Meet(got, l)), must[api.P](t, "meet")(line.Meet(got, m))
		same(t, "foot", footOf(t, m, from), to)
		same(t, "how far", text(far(from, to)), text(lean(l, m)))
	}
	enough(t, "common", told)
	enough(t, "none", none)
}

func TestPythagoras(t *testing.T) {
	for i := range rounds {
		g := newGuess(i)
		c := g.point()
		a := g.other(c)
		first := through(a, c)
		second := squareOf(t, first, c)
		b := footOf(t, second, g.point())
		product := times(rat(must[api.Q](t, "far")(Far(a, c))), rat(must[api.Q](t, "far")(Far(c, b))))
		same(t, "Pythagoras", must[api.Q](t, "far")(Far(a, b)), text(product))
	}
}

func TestNoPointOfALineIsNearerThanTheFoot(t *testing.T) {
	told := 0
	for i := range rounds {
		g := newGuess(i)
		l, p := g.line(), g.point()
		foot, q := footOf(t, l, p), footOf(t, l, g.point())
		near, other := must[api.Q](t, "far")(Far(p, foot)), must[api.Q](t, "far")(Far(p, q))
		if q == foot {
			continue
		}
		told++
		if rat(near).Cmp(rat(other)) >= 0 {
			t.Errorf("from %v, %v isn't farther than %v", p, q, foot)
		}
		// By Pythagoras, a right angle being at the foot.
		same(t, "Pythagoras", other, text(times(rat(near), far(foot, q))))
	}
	enough(t, "two of a line", told)
}

func TestWhereLeanIsBelowOneBothMeetWithin(t *testing.T) {
	within, on, outside := 0, 0, 0
	for i := range rounds {
		g := newGuess(i)
		l, m := g.line(), g.line()
		if i%4 == 0 { // two that share a point of the circle
			p := g.edge()
			l, m = through(p, g.point()), through(p, g.point())
		}
		p, e := line.Meet(l, m)
		if e == api.ErrFree {
			same(t, "one", must[api.Q](t, "lean")(Lean(l, m)), "1")
			continue
		}
		switch rat(must[api.Q](t, "lean")(Lean(l, m))).Cmp(whole(1)) {
		case -1:
			within++
			same(t, "meet", e, api.OK)
			same(t, "within", ofPoints(p, p).Sign(), -1)
		case 0:
			on++
			same(t, "meet", e, api.OK)
			same(t, "on the circle", ofPoints(p, p).Sign(), 0)
		default:
			outside++
			if e == api.OK {
				same(t, "outside", ofPoints(p, p).Sign(), 1)
			}
		}
	}
	enough(t, "within", within)
	enough(t, "on", on)
	enough(t, "outside", outside)
}

func TestTwoMirrorsTurnOrShift(t *testing.T) {
	for i := range rounds {
		g := newGuess(i)
		p, l := g.point(), g.line()
		// At lines square to each other, it is one which comes first: that goes half around.
		m := squareOf(t, l, g.point())
		same(t, "half around", mirrorOf(t, m, mirrorOf(t, l, p)), mirrorOf(t, l, mirrorOf(t, m, p)))
		// The middle of both is where they meet: as far from p as from what p comes to.
		o := must[api.P](t, "meet")(line.Meet(l, m))
		same(t, "as far", text(far(o, p)), text(far(o, mirrorOf(t, m, mirrorOf(t, l, p)))))
	}
}
