package space

import (
	"math/big"
	"testing"

	"compass/api"
)

const rounds = 400

// enough: much of what was made at random must have been in such a place that something could be told.
func enough(t *testing.T, what string, told int) {
	t.Helper()
	if told < rounds/20 {
		t.Errorf("%s: only %d of %d told", what, told, rounds)
	}
}

// count is where a thing is counted: in the second place, if it holds.
func count(holds bool) int {
	if holds {
		return 1
	}
	return 0
}

func through(t *testing.T, a, b, c api.P3) api.E {
	t.Helper()
	return must[api.E](t, "through")(Through(a, b, c))
}

func footOf(t *testing.T, e api.E, p api.P3) api.P3 {
	t.Helper()
	return must[api.P3](t, "foot")(Foot(e, p))
}

func apartOf(t *testing.T, a, b, c, d api.P3) api.Q {
	t.Helper()
	return must[api.Q](t, "apart")(Apart(a, b, c, d))
}

// on checks that points lie on a plane, by the library and by Side.
func on(t *testing.T, what string, e api.E, l ...api.P3) {
	t.Helper()
	for _, p := range l {
		same(t, what, value(e, p).Sign(), 0)
		answers(t, what, 0, api.OK)(Side(e, p))
	}
}

func TestFar2AndVolumeOfAll(t *testing.T) {
	for i := range rounds {
		g := newGuess(i)
		l := [4]api.P3{g.point(), g.point(), g.point(), g.point()}
		same(t, "far", Far2(l[0], l[1]), text(far2(l[0], l[1])))
		want := determinant(from(l[0], l[1]), from(l[0], l[2]), from(l[0], l[3]))
		for _, o := range orders() {
			// Each pair that stands the wrong way round turns the sign.
			signed := want
			for j := range o {
				for k := range j {
					if o[k] > o[j] {
						signed = new(big.Rat).Neg(signed)
					}
				}
			}
			m := inOrder(l, o)
			same(t, "volume", Volume(m[0], m[1], m[2], m[3]), text(signed))
		}
	}
}

func TestThroughOfAll(t *testing.T) {
	told := [2]int{}
	for i := range rounds {
		g := newGuess(i)
		a, b := g.point(), g.point()
		c := g.point()
		if i/4%3 == 0 {
			c = at(a, b, rat(g.fraction()))
		}
		flat := inLine(a, b, c)
		told[count(flat)]++
		got, e := Through(a, b, c)
		answers(t, "go round", got, e)(Through(b, c, a))
		answers(t, "the other way round", got, e)(Through(c, b, a))
		if flat {
			answers(t, "on a line", api.E{}, api.ErrFlat)(got, e)
			continue
		}
		same(t, "through", e, api.OK)
		same(t, "plain", isPlain(got), true)
		on(t, "through", got, a, b, c)
	}
	enough(t, "on a line", told[1])
	enough(t, "on no line", told[0])
}

func TestSideOfAll(t *testing.T) {
	told := [3]int{}
	for i := range rounds {
		g := newGuess(i)
		e, p, k := g.plane(), g.point(), g.more()
		if i/4%4 == 0 {
			p = footOf(t, e, p)
		}
		want := value(e, p).Sign()
		for _, q := range []api.Q{e.A, e.B, e.C} {
			if s := rat(q).Sign(); s != 0 {
				want *= s
				break
			}
		}
		told[want+1]++
		answers(t, "side", want, api.OK)(Side(e, p))
		answers(t, "however often", want, api.OK)(Side(many(e, k), p))
	}
	for _, n := range told {
		enough(t, "side", n)
	}
}

func TestBetweenOfAll(t *testing.T) {
	for i := range rounds {
		g := newGuess(i)
		p := g.point()
		q := g.other(p)
		e := must[api.E](t, "between")(Between(p, q))
		answers(t, "back", e, api.OK)(Between(q, p))
		same(t, "plain", isPlain(e), true)
		on(t, "half way", e, mean(p, q))
		x := g.point()
		same(t, "on it just if as far", value(e, x).Sign() == 0, far2(x, p).Cmp(far2(x, q)) == 0)
		x = footOf(t, e, x)
		same(t, "as far", far2(x, p).Cmp(far2(x, q)), 0)
		refused[api.E](t, "one", api.ErrFlat)(Between(p, at(p, q, whole(0))))
	}
}

func TestFootOfAll(t *testing.T) {
	for i := range rounds {
		g := newGuess(i)
		e, p, x := g.plane(), g.point(), g.point()
		foot := footOf(t, e, p)
		on(t, "foot", e, foot)
		same(t, "at right angles", proportional(numbers(from(p, foot)), numbers(across(e))), true)
		answers(t, "however often", foot, api.OK)(Foot(many(e, g.more()), p))
		answers(t, "again", foot, api.OK)(Foot(e, foot))
		x = footOf(t, e, x)
		same(t, "none is nearer", far2(p, x).Cmp(far2(p, foot)) >= 0, true)
		answers(t, "pierce", foot, api.OK)(Pierce(e, p, reach(p, across(e))))
	}
}

func TestPierceOfAll(t *testing.T) {
	told := map[api.Errno]int{}
	for i := range 2 * rounds {
		g := newGuess(i)
		e, p := g.plane(), g.point()
		q := g.other(p)
		switch i / 4 % 4 {
		case 0:
			// Beside the plane, or within: from foot to foot.
			q = reach(p, from(footOf(t, e, p), footOf(t, e, q)))
		case 1:
			p, q = footOf(t, e, p), footOf(t, e, q)
		}
		want := api.OK
		switch {
		case far2(p, q).Sign() == 0:
			want = api.ErrFlat
		case value(e, p).Cmp(value(e, q)) != 0:
		case value(e, p).Sign() == 0:
			want = api.ErrFree
		default:
			want = api.ErrNone
		}
		told[want]++
		got, wrong := Pierce(e, p, q)
		answers(t, "back", got, wrong)(Pierce(e, q, p))
		answers(t, "however often", got, wrong)(Pierce(many(e, g.more()), p, q))
		if want != api.OK {
			answers(t, "pierce", api.P3{}, want)(got, wrong)
			continue
		}
		same(t, "pierce", wrong, api.OK)
		on(t, "pierce", e, got)
		same(t, "on the line", inLine(p, q, got), true)
	}
	for _, e := range []api.Errno{api.OK, api.ErrFree, api.ErrNone} {
		enough(t, "pierce", told[e])
	}
}

// planes are three, which often are special to each other.
func (g guess) planes(kind int) [3]api.E {
	l := [3]api.E{g.plane(), g.plane(), g.plane()}
	switch kind {
	case 0: // around a line, or the same, or none
		l[2] = g.both(l[0], l[1])
	case 1: // a roof
		l[2] = g.both(l[0], l[1])
		l[2].D = g.fraction()
	case 2: // beside each other
		l[1] = many(l[0], g.more())
		l[1].D = g.fraction()
	case 3: // the same
		l[1] = many(l[0], g.more())
	case 4: // all beside each other
		l[1], l[2] = many(l[0], g.more()), many(l[0], g.more())
		l[g.r.Intn(3)].D = g.fraction()
	}
	i := g.r.Intn(3)
	l[0], l[i] = l[i], l[0]
	return l
}

func TestMeetOfAll(t *testing.T) {
	told := map[api.Errno]int{}
	for i := range 4 * rounds {
		g := newGuess(i)
		l := g.planes(i / 4 % 7)
		want, wrong := meetOf(l[:]...)
		for _, e := range l {
			if dot(across(e), across(e)).Sign() == 0 {
				want, wrong = api.P3{}, api.ErrFlat
			}
		}
		told[wrong]++
		answers(t, "meet", want, wrong)(Meet(l[0], l[1], l[2]))
		answers(t, "go round", want, wrong)(Meet(l[1], l[2], l[0]))
		answers(t, "the other way round", want, wrong)(Meet(l[2], l[1], l[0]))
	}
	for _, e := range []api.Errno{api.OK, api.ErrFree, api.ErrNone} {
		enough(t, "meet", told[e])
	}
}

func TestAroundOfAll(t *testing.T) {
	told := [2]int{}
	for i := range rounds {
		g := newGuess(i)
		l := [4]api.P3{g.point(), g.point(), g.point(), g.point()}
		switch i / 4 % 6 {
		case 0:
			l[3] = at(at(l[0], l[1], rat(g.fraction())), l[2], rat(g.fraction()))
		case 1:
			l[g.r.Intn(4)] = l[g.r.Intn(4)]
		}
		told[count(level(l))]++
		if level(l) {
			answers(t, "on a plane", ball{}, api.ErrFlat)(aroundOf(l))
			refused[api.P3](t, "monge, on a plane", api.ErrFlat)(Monge(l))
			continue
		}
		got := must[ball](t, "around")(aroundOf(l))
		for _, p := range l {
			same(t, "as far", text(far2(got.m, p)), got.r2)
		}
		// Half way between Around and Monge is the mean of all.
		monge := must[api.P3](t, "monge")(Monge(l))
		same(t, "half way", mean(got.m, monge), mean(l[:]...))
	}
	enough(t, "on a plane", told[1])
	enough(t, "on no plane", told[0])
}

// lines are two points of each of two lines, which often are special to each other.
func (g guess) lines(kind int) [4]api.P3 {
	a, c := g.point(), g.point()
	b, d := g.other(a), g.other(c)
	switch kind {
	case 0: // they meet
		c = at(a, b, rat(g.fraction()))
		d = g.other(c)
	case 1: // beside each other
		d = reach(c, sum([]api.P3{from(a, b)}, []*big.Rat{g.more()}))
	case 2: // the same
		c = at(a, b, rat(g.fraction()))
		d = at(c, reach(c, from(a, b)), g.more())
	}
	return [4]api.P3{a, b, c, d}
}

func TestApartOfAll(t *testing.T) {
	told := [2]int{}
	for i := range rounds {
		g := newGuess(i)
		l := g.lines(i / 4 % 6)
		want := leastApart(l[0], l[1], l[2], l[3])
		told[count(want.Sign() == 0)]++
		same(t, "apart", apartOf(t, l[0], l[1], l[2], l[3]), text(want))
		same(t, "the other way round", apartOf(t, l[3], l[2], l[1], l[0]), text(want))
		p, q := at(l[0], l[1], rat(g.fraction())), at(l[2], l[3], rat(g.fraction()))
		same(t, "none are nearer", far2(p, q).Cmp(want) >= 0, true)
	}
	enough(t, "they meet", told[1])
	enough(t, "they don't", told[0])
}

// area2 is the square of the area, sixteen times, told by the squares of the sides (Heron).
func area2(a, b, c api.P3) *big.Rat {
	x, y, z := rat(Far2(a, b)), rat(Far2(b, c)), rat(Far2(c, a))
	return less(times(whole(2), plus(times(x, y), times(y, z), times(z, x))), plus(times(x, x), times(y, y), times(z, z)))
}

func TestDeGua(t *testing.T) {
	for i := range rounds {
		g := newGuess(i)
		a, edges := g.point(), g.square()
		b, c, d := reach(a, edges[0]), reach(a, edges[1]), reach(a, edges[2])
		same(t, "De Gua", area2(b, c, d).Cmp(plus(area2(a, b, c), area2(a, c, d), area2(a, d, b))), 0)
		// Their Monge is the corner itself: each plane through it at right angles to an edge has it.
		answers(t, "Monge", at(a, a, whole(0)), api.OK)(Monge([4]api.P3{a, b, c, d}))
		// The area across, by the distance of the corner: three times the volume is one of them times the other.
		foot := footOf(t, through(t, b, c, d), a)
		volume := rat(Volume(a, b, c, d))
		same(t, "the volume", times(whole(4), volume, volume).Cmp(times(area2(b, c, d), rat(Far2(a, foot)))), 0)
	}
}

func TestMonge(t *testing.T) {
	for i := range rounds {
		g := newGuess(i)
		l := g.corners()
		monge := must[api.P3](t, "monge")(Monge(l))
		for _, o := range orders() {
			m := inOrder(l, o)
			middle, edge := mean(m[0], m[1]), from(m[2], m[3])
			e := must[api.E](t, "at right angles")(Between(reach(middle, edge), at(middle, reach(middle, edge), whole(-1))))
			on(t, "Monge", e, middle, monge)
		}
	}
}

func TestCommandino(t *testing.T) {
	for i := range rounds {
		g := newGuess(i)
		l := g.corners()
		all := mean(l[:]...)
		for _, o := range orders() {
			m := inOrder(l, o)
			face := mean(m[1], m[2], m[3])
			answers(t, "it ends in the mean of the others", face, api.OK)(Pierce(through(t, m[1], m[2], m[3]), m[0], all))
			same(t, "3 to 1", rat(Far2(m[0], all)).Cmp(times(whole(9), rat(Far2(all, face)))), 0)
			same(t, "all meet", apartOf(t, m[0], face, m[1], mean(m[0], m[2], m[3])), "0")
			// So do the planes through an edge and the middle of the one across.
			half := func(a, b, c, d int) api.E { return through(t, m[a], m[b], mean(m[c], m[d])) }
			answers(t, "planes", all, api.OK)(Meet(half(0, 1, 2, 3), half(0, 2, 1, 3), half(1, 2, 0, 3)))
		}
	}
}

func TestDesargues(t *testing.T) {
	told := 0
	for i := range 2 * rounds {
		g := newGuess(i)
		l := g.corners()
		eye, a := l[0], [3]api.P3{l[1], l[2], l[3]}
		var b [3]api.P3
		for j, p := range a {
			b[j] = at(eye, p, g.more())
		}
		onA, onB := through(t, a[0], a[1], a[2]), through(t, b[0], b[1], b[2])
		var x [3]api.P3
		bad := onA == onB
		for j := range x {
			p, e := Pierce(onB, a[j], a[(j+1)%3])
			x[j], bad = p, bad || e != api.OK
		}
		if bad {
			continue
		}
		told++
		for j, p := range x {
			q, r := b[j], b[(j+1)%3]
			answers(t, "the side of the other goes there, too", p, api.OK)(Pierce(onA, q, r))
			same(t, "sides meet", apartOf(t, a[j], a[(j+1)%3], q, r), "0")
		}
		refused[api.E](t, "Desargues", api.ErrFlat)(Through(x[0], x[1], x[2]))
		on(t, "Desargues", onA, x[:]...)
		on(t, "Desargues", onB, x[:]...)
	}
	enough(t, "Desargues", told)
}
