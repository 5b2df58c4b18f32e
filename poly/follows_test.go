package poly

import (
	"math/big"
	"slices"
	"strconv"
	"testing"

	"compass/api"
)

const rounds = 200

// enough: much of what was made at random must have been in such a place that something could be told.
func enough(t *testing.T, what string, told int) {
	t.Helper()
	if told < rounds/10 {
		t.Errorf("%s: only %d of %d told", what, told, rounds)
	}
}

func areaOf(t *testing.T, l []api.P) api.Q {
	t.Helper()
	return must[api.Q](t, "area")(Area2(l))
}

func earsIn(t *testing.T, l []api.P) [][3]int {
	t.Helper()
	return must[[][3]int](t, "ears")(Ears(l))
}

// from starts the ring at another corner.
func from(l []api.P, k int) []api.P { return slices.Concat(l[k:], l[:k]) }

// either runs the ring the other way, at times, and starts it at any corner.
func (g guess) either(l []api.P) []api.P {
	if g.r.Intn(2) == 0 {
		l = backwards(l)
	}
	return from(l, g.r.Intn(len(l)))
}

// nearby is a point at random, a corner, a point of an edge, of an edge's line, or on the level of a corner.
func (g guess) nearby(l []api.P) spot {
	i := g.r.Intn(len(l))
	p, a, b := spotOf(g.point()), spotOf(l[i]), spotOf(l[(i+1)%len(l)])
	switch g.r.Intn(6) {
	case 0:
		return a
	case 1:
		return a.on(b, big.NewRat(int64(g.r.Intn(5)), 4))
	case 2:
		return a.on(b, rat(g.fraction()))
	case 3:
		return spot{p.x, a.y}
	case 4:
		return a.plus(b).plus(spotOf(l[g.r.Intn(len(l))])).times(big.NewRat(1, 3))
	default:
		return p
	}
}

func TestAreaOfAll(t *testing.T) {
	for i := range rounds {
		g := newGuess(i)
		l := g.points(3 + g.r.Intn(api.MaxCorners-2))
		area := fan(spotsOf(l))
		same(t, "area", areaOf(t, l), text(area))
		same(t, "from another corner", areaOf(t, from(l, g.r.Intn(len(l)))), text(area))
		same(t, "backwards", areaOf(t, backwards(l)), text(less(whole(0), area)))
	}
}

func TestSimpleOfAll(t *testing.T) {
	told := [2]int{}
	for i := range 10 * rounds {
		g := newGuess(i)
		l := g.points(3 + g.r.Intn(4))
		if i%5 == 0 {
			// A corner of a simple ring goes elsewhere: so it is often simple still, or nearly.
			l = g.simple()
			l[g.r.Intn(len(l))] = g.nearby(l).text()
		}
		want := isSimple(spotsOf(l))
		told[count2(want)]++
		same(t, "simple", must[bool](t, "simple")(Simple(l)), want)
		same(t, "from elsewhere", must[bool](t, "simple")(Simple(g.either(l))), want)
		if !want {
			refusesAll(t, "not simple", l, api.ErrForm)
		}
	}
	enough(t, "simple", told[1])
	enough(t, "not simple", told[0])
}

func TestSideOfAll(t *testing.T) {
	told := [3]int{}
	for i := range rounds {
		g := newGuess(i)
		l := g.simple()
		for range 20 {
			p := g.nearby(l)
			want := sideOf(spotsOf(l), p)
			told[want+1]++
			same(t, "side", must[int](t, "side")(Side(l, p.text())), want)
			same(t, "from elsewhere", must[int](t, "side")(Side(g.either(l), p.text())), want)
		}
	}
	for _, n := range told {
		enough(t, "side", n)
	}
}

func TestConvexOfAll(t *testing.T) {
	told := [2]int{}
	for i := range 2 * rounds {
		g := newGuess(i)
		l := g.simple()
		if i%3 == 0 {
			l = g.convex()
		}
		want := isConvex(spotsOf(l))
		told[count2(want)]++
		same(t, "convex", must[bool](t, "convex")(Convex(l)), want)
		same(t, "from elsewhere", must[bool](t, "convex")(Convex(g.either(l))), want)
	}
	enough(t, "convex", told[1])
	enough(t, "not convex", told[0])
}

// TestMassOfAll: the mass is that of the triangles with any point, those that turn the other way taken off.
func TestMassOfAll(t *testing.T) {
	for i := range rounds {
		g := newGuess(i)
		l := g.simple()
		s, p := spotsOf(l), spotOf(g.point())
		sum := spot{whole(0), whole(0)}
		for i, a := range s {
			b := s[(i+1)%len(s)]
			sum = sum.plus(p.plus(a).plus(b).times(turning(p, a, b)))
		}
		want := sum.times(over(big.NewRat(1, 3), fan(s))).text()
		same(t, "mass", must[api.P](t, "mass")(Mass(l)), want)
		same(t, "from elsewhere", must[api.P](t, "mass")(Mass(g.either(l))), want)
	}
}

// TestMassOfConvex: it lies within.
func TestMassOfConvex(t *testing.T) {
	for i := range rounds {
		l := newGuess(i).convex()
		same(t, "within", must[int](t, "side")(Side(l, must[api.P](t, "mass")(Mass(l)))), 1)
	}
}

// TestEarsOfAll: they are two fewer than corners, all turn one way, and their areas are the ring's.
func TestEarsOfAll(t *testing.T) {
	check := func(l []api.P) {
		s, ears, sum := spotsOf(l), earsIn(t, l), whole(0)
		sameList(t, "ears", ears, earsOf(s))
		same(t, "how many", len(ears), len(l)-2)
		for _, ear := range ears {
			area := turning(s[ear[0]], s[ear[1]], s[ear[2]])
			same(t, "one way", area.Sign(), fan(s).Sign())
			sum = plus(sum, area)
		}
		same(t, "areas", areaOf(t, l), text(sum))
	}
	straight := 0
	for i := range 2 * rounds {
		g := newGuess(i)
		l := g.simple()
		if slices.ContainsFunc(neighbours(spotsOf(l)), func(x [3]spot) bool { return turning(x[0], x[1], x[2]).Sign() == 0 }) {
			straight++
		}
		check(l)
		check(g.either(l))
	}
	enough(t, "straight corners", straight)
	for what, l := range simples() {
		if what == "what is no fraction is 0" {
			continue
		}
		for k := range l {
			check(from(l, k))
			check(from(backwards(l), k))
		}
	}
}

// neighbours are each corner, the next one and the one behind.
func neighbours(l []spot) [][3]spot {
	var made [][3]spot
	for i, n := 0, len(l); i < n; i++ {
		made = append(made, [3]spot{l[i], l[(i+1)%n], l[(i+2)%n]})
	}
	return made
}

// TestEarsCover: what lies within or on the ring lies in an ear, and nothing else does.
func TestEarsCover(t *testing.T) {
	for i := range rounds {
		g := newGuess(i)
		l := g.simple()
		s, ears := spotsOf(l), earsIn(t, l)
		for range 10 {
			p := g.nearby(l)
			covered := slices.ContainsFunc(ears, func(e [3]int) bool { return inTriangle(s[e[0]], s[e[1]], s[e[2]], p) })
			same(t, "covered", covered, must[int](t, "side")(Side(l, p.text())) >= 0)
		}
	}
}

// paint tells if the corners from k on can be painted in three colours, so that each ear has all.
func paint(ears [][3]int, colours []int, k int) bool {
	if k == len(colours) {
		return true
	}
	for c := 1; c <= 3; c++ {
		colours[k] = c
		clash := slices.ContainsFunc(ears, func(e [3]int) bool {
			a, b, c := colours[e[0]], colours[e[1]], colours[e[2]]
			return a != 0 && a == b || b != 0 && b == c || c != 0 && c == a
		})
		if !clash && paint(ears, colours, k+1) {
			return true
		}
	}
	colours[k] = 0
	return false
}

// TestThreeColours (Chvatal, Fisk): so a third of the corners, at most, sees all of what is within.
func TestThreeColours(t *testing.T) {
	for i := range rounds {
		l := newGuess(i).simple()
		ears, colours := earsIn(t, l), make([]int, len(l))
		same(t, "painted", paint(ears, colours, 0), true)
		least := len(l)
		for c := 1; c <= 3; c++ {
			n := 0
			for _, colour := range colours {
				n += count2(colour == c)
			}
			least = min(least, n)
			for _, e := range ears {
				same(t, "each ear has all", colours[e[0]] == c || colours[e[1]] == c || colours[e[2]] == c, true)
			}
		}
		same(t, "a third at most", least <= len(l)/3, true)
	}
}

// cutOf is in the words of the document.
func cutOf(l []spot, by api.L) []api.P {
	var left []api.P
	for i, a := range l {
		b := l[(i+1)%len(l)]
		here, there := value(by, a), value(by, b)
		if here.Sign() >= 0 {
			left = append(left, a.text())
		}
		if times(here, there).Sign() < 0 {
			left = append(left, a.on(b, over(here, less(here, there))).text())
		}
	}
	return left
}

// linesBy are a line at random, one through two corners, one along an edge, and one through a corner.
func (g guess) linesBy(l []api.P) []api.L {
	through := func(p, q spot) api.L {
		way := q.less(p)
		return ln(text(way.y), text(less(whole(0), way.x)), text(less(times(way.x, p.y), times(way.y, p.x))))
	}
	s, i, j := spotsOf(l), g.r.Intn(len(l)), 1+g.r.Intn(len(l)-1)
	a := s[i]
	made := []api.L{g.line(), through(a, s[(i+j)%len(s)]), through(a, s[(i+1)%len(s)])}
	if p := spotOf(g.point()); !p.is(a) {
		made = append(made, through(a, p))
	}
	return made
}

func opposite(l api.L) api.L {
	minus := func(q api.Q) api.Q { return text(less(whole(0), rat(q))) }
	return ln(minus(l.A), minus(l.B), minus(l.C))
}

// TestCutOfAll: both parts are the whole, each has its side, and each is convex again.
func TestCutOfAll(t *testing.T) {
	told := [2]int{}
	for i := range rounds {
		g := newGuess(i)
		l := g.convex()
		l = from(l, g.r.Intn(len(l)))
		s := spotsOf(l)
		for _, by := range g.linesBy(l) {
			sum := whole(0)
			for _, by := range []api.L{by, opposite(by)} {
				left := must[[]api.P](t, "cut")(Cut(l, by))
				sameList(t, "cut", left, cutOf(s, by))
				for _, p := range left {
					same(t, "its side", value(by, spotOf(p)).Sign() >= 0, true)
					same(t, "of the ring", sideOf(s, spotOf(p)) >= 0, true)
				}
				if len(left) > 2 {
					sum = plus(sum, fan(spotsOf(left)))
				}
				if len(left) > 2 && len(left) <= api.MaxCorners {
					same(t, "convex", must[bool](t, "convex")(Convex(left)), true)
				}
				told[count2(len(left) > 2 && len(left) < len(l))]++
			}
			same(t, "both", text(sum), areaOf(t, l))
		}
		refusedList[api.P](t, "with the clock", api.ErrForm)(Cut(backwards(l), g.line()))
	}
	enough(t, "cut off", told[1])
}

// wholes is a simple ring of whole numbers, stretched and slanted as far as that may be.
func (g guess) wholes() ([]api.P, [][2]int) {
	l := guess{g.r, 1}.simple()
	var k [4]int
	for k[0]*k[3] == k[1]*k[2] {
		for i := range k {
			k[i] = g.r.Intn(api.MaxGrid/3+1) - api.MaxGrid/6
		}
	}
	var numbers [][2]int
	for i, p := range l {
		x, _ := strconv.Atoi(string(p.X))
		y, _ := strconv.Atoi(string(p.Y))
		x, y = k[0]*x+k[1]*y, k[2]*x+k[3]*y
		numbers = append(numbers, [2]int{x, y})
		l[i] = at(x, y)
	}
	return l, numbers
}

// TestPick: twice the area, without its sign, is twice what is within, and what is on the edges, less 2.
func TestPick(t *testing.T) {
	for i := range rounds {
		g := newGuess(i)
		l, numbers := g.wholes()
		got := countedOf(l)
		if i%10 == 0 {
			within, on := counts(numbers)
			same(t, "counted one by one", got, counted{within: within, on: on})
		}
		same(t, "from elsewhere", countedOf(g.either(l)), got)
		area := new(big.Rat).Abs(rat(areaOf(t, l)))
		same(t, "pick", text(area), text(whole(int64(2*got.within+got.on-2))))
	}
}

// TestVarignon: the middles of the sides of four corners have half of their area, however these lie.
func TestVarignon(t *testing.T) {
	half := big.NewRat(1, 2)
	for i := range rounds {
		l := newGuess(i).points(4)
		s := spotsOf(l)
		var middles []api.P
		for j, p := range s {
			middles = append(middles, p.on(s[(j+1)%4], half).text())
		}
		same(t, "varignon", areaOf(t, middles), text(times(half, rat(areaOf(t, l)))))
	}
}
