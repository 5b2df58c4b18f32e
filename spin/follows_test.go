package spin

import (
	"math/big"
	"testing"

	"compass/api"
)

const rounds = 400

// enough: much of what was made at random must have been in such a place that something could be told.
func enough(t *testing.T, what string, told int) {
	t.Helper()
	if told < rounds/20 {
		t.Errorf("%s: only %d of %d told", what, told, rounds)
	}
}

// count is where a thing is counted: in the second place, if it holds.
func count(holds bool) int {
	if holds {
		return 1
	}
	return 0
}

func turnOf(t *testing.T, a api.S, v api.P3) api.P3 {
	t.Helper()
	return must[api.P3](t, "turn")(Turn(a, v))
}

func tableOf(t *testing.T, a api.S) [9]api.Q {
	t.Helper()
	return must[[9]api.Q](t, "table")(Table(a))
}

func ballOf(t *testing.T, p api.P3) api.P {
	t.Helper()
	return must[api.P](t, "ball")(Ball(p))
}

func TestTimesOfAll(t *testing.T) {
	for i := range rounds {
		g := newGuess(i)
		a, b, c := g.any(), g.any(), g.any()
		same(t, "times", Times(a, b), product(a, b))
		same(t, "norm", Norm(a), text(norm(a)))
		same(t, "one after the other", Times(Times(a, b), c), Times(a, Times(b, c)))
		same(t, "norm of the product (Hamilton, Euler)", Norm(Times(a, b)), text(times(norm(a), norm(b))))
	}
}

func TestBackOfAll(t *testing.T) {
	for i := range rounds {
		g := newGuess(i)
		a := g.quaternion()
		back := must[api.S](t, "back")(Back(a))
		one := qn("1", "0", "0", "0")
		same(t, "ahead", product(back, a), one)
		same(t, "behind", product(a, back), one)
		same(t, "again", must[api.S](t, "again")(Back(back)), many(a, whole(1)))
	}
}

func TestTurnOfAll(t *testing.T) {
	for i := range rounds {
		g := newGuess(i)
		a, v, k := g.quaternion(), g.way(), g.more()
		got := turnOf(t, a, v)
		same(t, "turn", got, turned(a, v))
		same(t, "however often", turnOf(t, many(a, k), v), got)
		same(t, "back", turnOf(t, must[api.S](t, "back")(Back(a)), got), sum([]api.P3{v}, whole(1)))
		// What lies along the way of a stays.
		along := sum([]api.P3{{X: a.X, Y: a.Y, Z: a.Z}}, k)
		same(t, "along", turnOf(t, a, along), along)
		table := tableOf(t, a)
		same(t, "table", applied(table, v), got)
		same(t, "keeping", keeping(table), true)
		same(t, "table, however often", tableOf(t, many(a, k)), table)
	}
}

func TestTurnKeepsProductsOfWays(t *testing.T) {
	for i := range rounds {
		g := newGuess(i)
		a, v, w := g.quaternion(), g.way(), g.way()
		x, y := turnOf(t, a, v), turnOf(t, a, w)
		same(t, "dot", text(dot(x, y)), text(dot(v, w)))
		same(t, "length", text(dot(x, x)), text(dot(v, v)))
		same(t, "cross", cross(x, y), turnOf(t, a, cross(v, w)))
		k := g.more()
		same(t, "sum", turnOf(t, a, sum([]api.P3{v, w}, k, whole(1))), sum([]api.P3{x, y}, k, whole(1)))
	}
}

func TestWhatTimesDoesTurnDoesOneAfterTheOther(t *testing.T) {
	for i := range rounds {
		g := newGuess(i)
		a, b, v := g.quaternion(), g.quaternion(), g.way()
		both := Times(a, b)
		same(t, "turn", turnOf(t, both, v), turnOf(t, a, turnOf(t, b, v)))
		same(t, "table", tableOf(t, both), after(tableOf(t, a), tableOf(t, b)))
		same(t, "of", must[api.S](t, "of")(Of(after(tableOf(t, a), tableOf(t, b)))), many(both, over(whole(1), first(both))))
	}
}

func TestOfOfAll(t *testing.T) {
	told := [4]int{}
	for i := range rounds {
		g := newGuess(i)
		a := g.quaternion()
		table := tableOf(t, a)
		got := must[api.S](t, "of")(Of(table))
		same(t, "of", got, many(a, over(whole(1), first(a))))
		same(t, "its table", tableOf(t, got), table)
		for j, q := range numbers(got) {
			if q != "0" {
				told[j]++
				break
			}
		}
	}
	for _, n := range told {
		enough(t, "each the first", n)
	}
}

// bent is a table with something done to it, which it seldom bears.
func (g guess) bent(table [9]api.Q, kind int) [9]api.Q {
	i := g.r.Intn(3)
	j := (i + 1 + g.r.Intn(2)) % 3
	switch kind {
	case 0: // a number changed
		table[3*i+j] = g.fraction()
	case 1: // two rows change places
		for n := range 3 {
			table[3*i+n], table[3*j+n] = table[3*j+n], table[3*i+n]
		}
	case 2: // a row so many times
		k := g.more()
		for n := range 3 {
			table[3*i+n] = text(times(k, rat(table[3*i+n])))
		}
	case 3: // a row leans to another, no longer than it was
		for n := range 3 {
			table[3*i+n] = text(plus(times(big.NewRat(3, 5), rat(table[3*i+n])), times(big.NewRat(4, 5), rat(table[3*j+n]))))
		}
	case 4: // rows are columns
		for n := range 3 {
			for m := range n {
				table[3*n+m], table[3*m+n] = table[3*m+n], table[3*n+m]
			}
		}
	}
	return table
}

func TestOfAsksForItsForm(t *testing.T) {
	told := [2]int{}
	for i := range rounds {
		g := newGuess(i)
		table := g.bent(tableOf(t, g.quaternion()), i/4%6)
		keeps := keeping(table)
		told[count(keeps)]++
		got, e := Of(table)
		if !keeps {
			answers(t, "bent", api.S{}, api.ErrForm)(got, e)
			continue
		}
		same(t, "of", e, api.OK)
		same(t, "its first", text(first(got)), "1")
		for j := range 3 {
			axis := p3(table[j], table[3+j], table[6+j])
			same(t, "its table", axis, turned(got, [3]api.P3{p3("1", "0", "0"), p3("0", "1", "0"), p3("0", "0", "1")}[j]))
		}
	}
	enough(t, "kept", told[1])
	enough(t, "not kept", told[0])
}

func TestSphereOfAll(t *testing.T) {
	for i := range rounds {
		g := newGuess(i)
		p := g.point()
		on := Sphere(p)
		same(t, "sphere", on, onSphere(p))
		same(t, "on it", text(dot(on, on)), "1")
		same(t, "back", ballOf(t, on), pt(text(rat(p.X)), text(rat(p.Y))))
		// The line from the top through a point of the sphere meets the level plane where Ball says.
		q := turnOf(t, g.quaternion(), on)
		if q == top() {
			continue
		}
		b := ballOf(t, q)
		way := sum([]api.P3{q, top()}, whole(1), whole(-1))
		same(t, "on the line", cross(way, p3(b.X, b.Y, "-1")), p3("0", "0", "0"))
		same(t, "back", Sphere(b), q)
	}
}

func TestBallAsksForTheSphere(t *testing.T) {
	told := [2]int{}
	for i := range rounds {
		g := newGuess(i)
		p := g.way()
		if i/4%2 == 0 {
			p = Sphere(g.point())
		}
		if i/4%4 == 0 {
			p.Z = text(new(big.Rat).Neg(rat(p.Z)))
		}
		on := dot(p, p).Cmp(whole(1)) == 0
		told[count(on)]++
		_, e := Ball(p)
		switch {
		case !on:
			answers(t, "not on it", api.P{}, api.ErrValue)(Ball(p))
		case p.Z == "1":
			answers(t, "top", api.P{}, api.ErrNone)(Ball(p))
		default:
			same(t, "on it", e, api.OK)
		}
	}
	enough(t, "on it", told[1])
	enough(t, "not on it", told[0])
}

// determinant of rows, by the first of them.
func determinant(rows [][]*big.Rat) *big.Rat {
	if len(rows) == 0 {
		return whole(1)
	}
	made, sign := new(big.Rat), int64(1)
	for i, q := range rows[0] {
		var rest [][]*big.Rat
		for _, r := range rows[1:] {
			rest = append(rest, append(append([]*big.Rat{}, r[:i]...), r[i+1:]...))
		}
		made, sign = plus(made, times(whole(sign), q, determinant(rest))), -sign
	}
	return made
}

// lie has a 1 for each point, its numbers, and of the plane X X + Y Y too: four points of space lie on a plane, or four of the plane on a circle or a line, just if it is 0.
func lie(rows ...[]*big.Rat) bool {
	for i := range rows {
		rows[i] = append([]*big.Rat{whole(1)}, rows[i]...)
	}
	return determinant(rows).Sign() == 0
}

func straight(a, b, c api.P) bool {
	row := func(p api.P) []*big.Rat { return []*big.Rat{rat(p.X), rat(p.Y)} }
	return lie(row(a), row(b), row(c))
}

func level(a, b, c, d api.P3) bool {
	row := func(p api.P3) []*big.Rat { return []*big.Rat{rat(p.X), rat(p.Y), rat(p.Z)} }
	return lie(row(a), row(b), row(c), row(d))
}

func onOneCircleOrLine(l [4]api.P) bool {
	var rows [4][]*big.Rat
	for i, p := range l {
		x, y := rat(p.X), rat(p.Y)
		rows[i] = []*big.Rat{plus(times(x, x), times(y, y)), x, y}
	}
	return lie(rows[:]...)
}

// ring has four points of one circle of the sphere, no two of them one: what turns around one way make of one point; through the top, if that is asked for, or as it comes.
func (g guess) ring(t *testing.T, through bool) ([4]api.P3, bool) {
	t.Helper()
	from, along := Sphere(g.point()), g.way()
	if through {
		from = top()
	}
	var l [4]api.P3
	for i := range l {
		l[i] = turnOf(t, qn(text(plus(g.more(), whole(int64(7*i)))), along.X, along.Y, along.Z), from)
		for _, q := range l[:i] {
			if q == l[i] {
				return l, false
			}
		}
		if l[i] == top() {
			return l, false
		}
	}
	return l, true
}

func TestCirclesOnTheSphere(t *testing.T) {
	told := [2]int{}
	for i := range rounds {
		g := newGuess(i)
		through := i/4%3 == 0
		on, good := g.ring(t, through)
		if !good {
			continue
		}
		same(t, "on a plane", level(on[0], on[1], on[2], on[3]), true)
		through = level(on[0], on[1], on[2], top())
		told[count(through)]++
		var l [4]api.P
		for j, p := range on {
			l[j] = ballOf(t, p)
		}
		// No circle has three points of a line.
		same(t, "on a circle or a line", onOneCircleOrLine(l), true)
		same(t, "on a line just if through the top", straight(l[0], l[1], l[2]), through)
	}
	enough(t, "through the top", told[1])
	enough(t, "not through the top", told[0])
}

func TestWhatIsOnNoCircleOfThePlaneIsOnNoneOfTheSphere(t *testing.T) {
	told := [2]int{}
	for i := range rounds {
		g := newGuess(i)
		l := [4]api.P{g.point(), g.point(), g.point(), g.point()}
		if i/4%2 == 0 {
			// Four points of the circle around the origin, each so many times as far, and moved.
			k, m := g.more(), g.point()
			for j, p := range [4]api.P{pt("3/5", "4/5"), pt("-1", "0"), pt("5/13", "-12/13"), pt("0", "1")} {
				l[j] = pt(text(plus(rat(m.X), times(k, rat(p.X)))), text(plus(rat(m.Y), times(k, rat(p.Y)))))
			}
		}
		round := onOneCircleOrLine(l)
		told[count(round)]++
		same(t, "on a plane", level(Sphere(l[0]), Sphere(l[1]), Sphere(l[2]), Sphere(l[3])), round)
	}
	enough(t, "on one", told[1])
	enough(t, "on none", told[0])
}
