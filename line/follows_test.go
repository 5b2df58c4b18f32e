package line

import (
	"testing"

	"compass/api"
	"compass/plane"
)

const rounds = 200

func TestLinesOfPoints(t *testing.T) {
	for i := range rounds {
		g := newGuess(i)
		p := g.point()
		q := g.other(p)
		on(t, "through", must[api.L](t, "through")(Through(p, q)), p, q)
		between := must[api.L](t, "between")(Between(p, q))
		on(t, "between", between, middle(p, q))
		x := must[api.P](t, "foot")(Foot(between, g.point()))
		if far2(x, p).Cmp(far2(x, q)) != 0 {
			t.Errorf("%v isn't as far from %v as from %v", x, p, q)
		}
		same(t, "mirror", must[api.P](t, "mirror")(Mirror(between, p)), pt(api.Q(rat(q.X).RatString()), api.Q(rat(q.Y).RatString())))
	}
}

func TestPlainIsTheSameLine(t *testing.T) {
	for i := range rounds {
		g := newGuess(i)
		l, p := g.line(), g.point()
		plain := must[api.L](t, "plain")(Plain(l))
		checkPlain(t, "plain", plain)
		_, e := Meet(l, plain)
		same(t, "the same", e, api.ErrFree)
		same(t, "plain of plain", must[api.L](t, "again")(Plain(plain)), plain)
		same(t, "side", must[int](t, "side")(Side(l, p)), value(plain, p).Sign())
	}
}

func TestBesideAndSquareOfAll(t *testing.T) {
	for i := range rounds {
		g := newGuess(i)
		l, p := g.line(), g.point()
		beside := must[api.L](t, "beside")(Beside(l, p))
		on(t, "beside", beside, p)
		_, e := Meet(l, beside)
		if on := value(l, p).Sign() == 0; on != (e == api.ErrFree) || !on && e != api.ErrNone {
			t.Errorf("beside: %v, %v: %d", l, beside, e)
		}
		square := must[api.L](t, "square")(Square(l, p))
		on(t, "square", square, p)
		if plus(times(rat(l.A), rat(square.A)), times(rat(l.B), rat(square.B))).Sign() != 0 {
			t.Errorf("no right angle: %v, %v", l, square)
		}
		foot := must[api.P](t, "foot")(Foot(l, p))
		same(t, "foot", foot, must[api.P](t, "meet")(Meet(square, l)))
		same(t, "far", must[api.Q](t, "far")(Far2(l, p)), api.Q(far2(p, foot).RatString()))
		mirror := must[api.P](t, "mirror")(Mirror(l, p))
		same(t, "half way", middle(p, mirror), foot)
		same(t, "back", must[api.P](t, "mirror")(Mirror(l, mirror)), pt(api.Q(rat(p.X).RatString()), api.Q(rat(p.Y).RatString())))
	}
}

func TestMeetOfAll(t *testing.T) {
	for i := range rounds {
		g := newGuess(i)
		l, m := g.line(), g.line()
		p, e := Meet(l, m)
		back, eBack := Meet(m, l)
		same(t, "back", back, p)
		same(t, "back", eBack, e)
		det := less(times(rat(l.A), rat(m.B)), times(rat(l.B), rat(m.A)))
		if (det.Sign() != 0) != (e == api.OK) {
			t.Errorf("meet: %v, %v: %d", l, m, e)
		}
		if e == api.OK && (value(l, p).Sign() != 0 || value(m, p).Sign() != 0) {
			t.Errorf("meet: %v, %v: %v", l, m, p)
		}
	}
}

func TestThales(t *testing.T) {
	told := 0
	for i := range rounds {
		g := newGuess(i)
		first, l, m := g.line(), g.line(), g.line()
		var onL, onM [3]api.P
		bad := false
		for j := range 3 {
			across := must[api.L](t, "beside")(Beside(first, g.point()))
			var e, f api.Errno
			onL[j], e = Meet(l, across)
			onM[j], f = Meet(m, across)
			bad = bad || e != api.OK || f != api.OK
		}
		if bad || onL[0] == onL[1] {
			continue
		}
		told++
		same(t, "Thales", must[api.Q](t, "ratio")(plane.Ratio(onL[0], onL[1], onL[2])), must[api.Q](t, "ratio")(plane.Ratio(onM[0], onM[1], onM[2])))
	}
	enough(t, told)
}

// enough: most of what was made at random must have been in such a place that something could be told.
func enough(t *testing.T, told int) {
	t.Helper()
	if told < rounds/2 {
		t.Errorf("only %d of %d told", told, rounds)
	}
}

// cross is where the lines through a, b and through c, d meet, if they do.
func cross(a, b, c, d api.P) (api.P, bool) {
	l, e := Through(a, b)
	m, f := Through(c, d)
	if e != api.OK || f != api.OK {
		return api.P{}, false
	}
	p, e := Meet(l, m)
	return p, e == api.OK
}

// inLine checks that three points lie on a line.
func inLine(t *testing.T, what string, a, b, c api.P) {
	t.Helper()
	if turn(a, b, c).Sign() != 0 {
		t.Errorf("%s: %v, %v, %v", what, a, b, c)
	}
}

func TestDesargues(t *testing.T) {
	told := 0
	for i := range rounds {
		g := newGuess(i)
		eye := g.point()
		var a, b, meets [3]api.P
		for j := range a {
			a[j] = g.point()
			b[j] = plane.At(eye, a[j], g.fraction())
		}
		if turn(a[0], a[1], a[2]).Sign() == 0 || turn(b[0], b[1], b[2]).Sign() == 0 {
			continue
		}
		all := true
		for j := range meets {
			p, ok := cross(a[j], a[(j+1)%3], b[j], b[(j+1)%3])
			meets[j], all = p, all && ok
		}
		if all {
			told++
			inLine(t, "Desargues", meets[0], meets[1], meets[2])
		}
	}
	enough(t, told)
}

func TestPappus(t *testing.T) {
	told := 0
	for i := range rounds {
		g := newGuess(i)
		p, r := g.point(), g.point()
		q, s := g.other(p), g.other(r)
		var a, b [3]api.P
		for j := range a {
			a[j], b[j] = plane.At(p, q, g.fraction()), plane.At(r, s, g.fraction())
		}
		x, ok1 := cross(a[0], b[1], a[1], b[0])
		y, ok2 := cross(a[1], b[2], a[2], b[1])
		z, ok3 := cross(a[2], b[0], a[0], b[2])
		if ok1 && ok2 && ok3 {
			told++
			inLine(t, "Pappus", x, y, z)
		}
	}
	enough(t, told)
}

// general: do all pairs of four lines meet, no two of them in one point?
func general(l [4]api.L) ([4][4]api.P, bool) {
	var meets [4][4]api.P
	var seen []api.P
	for i := range l {
		for j := range i {
			p, e := Meet(l[i], l[j])
			if e != api.OK {
				return meets, false
			}
			for _, q := range seen {
				if p == q {
					return meets, false
				}
			}
			seen = append(seen, p)
			meets[i][j], meets[j][i] = p, p
		}
	}
	return meets, true
}

func TestNewtonGauss(t *testing.T) {
	told := 0
	for i := range rounds {
		g := newGuess(i)
		m, ok := general([4]api.L{g.line(), g.line(), g.line(), g.line()})
		if !ok {
			continue
		}
		told++
		inLine(t, "Newton, Gauss", middle(m[0][1], m[2][3]), middle(m[0][2], m[1][3]), middle(m[0][3], m[1][2]))
	}
	enough(t, told)
}

func TestDistanceIsTheLeast(t *testing.T) {
	for i := range rounds {
		g := newGuess(i)
		l, p := g.line(), g.point()
		least := rat(must[api.Q](t, "far")(Far2(l, p)))
		x := must[api.P](t, "foot")(Foot(l, g.point()))
		if far2(p, x).Cmp(least) < 0 {
			t.Errorf("%v of %v is nearer than the foot", x, l)
		}
	}
}
