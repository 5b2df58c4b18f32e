package space

import (
	"math/big"
	"math/rand"
	"strconv"
	"strings"
	"testing"

	"compass/api"
)

func pt(x, y, z api.Q) api.P3 { return api.P3{X: x, Y: y, Z: z} }

func pl(a, b, c, d api.Q) api.E { return api.E{A: a, B: b, C: c, D: d} }

func same[T comparable](t *testing.T, what string, got, want T) {
	t.Helper()
	if got != want {
		t.Errorf("%s: %v, want %v", what, got, want)
	}
}

// must takes what was answered without an error.
func must[T any](t *testing.T, what string) func(got T, e api.Errno) T {
	return func(got T, e api.Errno) T {
		t.Helper()
		if e != api.OK {
			t.Fatalf("%s: error %d", what, e)
		}
		return got
	}
}

// refused checks that there is nothing beside the error.
func refused[T comparable](t *testing.T, what string, want api.Errno) func(got T, e api.Errno) {
	return func(got T, e api.Errno) {
		t.Helper()
		var nothing T
		same(t, what, got, nothing)
		same(t, what, e, want)
	}
}

// answers checks what was answered: nothing beside an error.
func answers[T comparable](t *testing.T, what string, want T, wrong api.Errno) func(got T, e api.Errno) {
	return func(got T, e api.Errno) {
		t.Helper()
		same(t, what, got, want)
		same(t, what, e, wrong)
	}
}

// ball is what Around answers.
type ball struct {
	m  api.P3
	r2 api.Q
}

func aroundOf(l [4]api.P3) (ball, api.Errno) {
	m, r2, e := Around(l)
	return ball{m, r2}, e
}

// orders are all ways in which four things can follow each other.
func orders() [][4]int {
	var l [][4]int
	for i := range 256 {
		o := [4]int{i / 64, i / 16 % 4, i / 4 % 4, i % 4}
		var seen [4]bool
		for _, at := range o {
			seen[at] = true
		}
		if seen == [4]bool{true, true, true, true} {
			l = append(l, o)
		}
	}
	return l
}

func inOrder(l [4]api.P3, o [4]int) [4]api.P3 { return [4]api.P3{l[o[0]], l[o[1]], l[o[2]], l[o[3]]} }

// What follows is held against fractions of the library, so that a fault of the program's own can't hide on both sides.

// rat reads in the base ten by hand: of a fraction, the library takes noughts ahead for another base.
func rat(q api.Q) *big.Rat {
	up, low, bar := strings.Cut(string(q), "/")
	x, _ := new(big.Int).SetString(up, 10)
	y := big.NewInt(1)
	if bar {
		y.SetString(low, 10)
	}
	return new(big.Rat).SetFrac(x, y)
}

func text(r *big.Rat) api.Q { return api.Q(r.RatString()) }

func whole(n int64) *big.Rat { return big.NewRat(n, 1) }

func plus(l ...*big.Rat) *big.Rat {
	sum := new(big.Rat)
	for _, r := range l {
		sum.Add(sum, r)
	}
	return sum
}

func less(a, b *big.Rat) *big.Rat { return new(big.Rat).Sub(a, b) }

func times(l ...*big.Rat) *big.Rat {
	product := whole(1)
	for _, r := range l {
		product.Mul(product, r)
	}
	return product
}

func over(a, b *big.Rat) *big.Rat { return new(big.Rat).Quo(a, b) }

// sum of points, each so many times.
func sum(l []api.P3, k []*big.Rat) api.P3 {
	x, y, z := new(big.Rat), new(big.Rat), new(big.Rat)
	for i, p := range l {
		x, y, z = plus(x, times(k[i], rat(p.X))), plus(y, times(k[i], rat(p.Y))), plus(z, times(k[i], rat(p.Z)))
	}
	return pt(text(x), text(y), text(z))
}

// at is p, and k times the way from p to q.
func at(p, q api.P3, k *big.Rat) api.P3 {
	return sum([]api.P3{p, q}, []*big.Rat{less(whole(1), k), k})
}

// mean of points.
func mean(l ...api.P3) api.P3 {
	k := make([]*big.Rat, len(l))
	for i := range k {
		k[i] = big.NewRat(1, int64(len(l)))
	}
	return sum(l, k)
}

// from is the way from p to q.
func from(p, q api.P3) api.P3 { return sum([]api.P3{p, q}, []*big.Rat{whole(-1), whole(1)}) }

// reach is p, and the way w.
func reach(p, w api.P3) api.P3 { return sum([]api.P3{p, w}, []*big.Rat{whole(1), whole(1)}) }

func dot(p, q api.P3) *big.Rat {
	return plus(times(rat(p.X), rat(q.X)), times(rat(p.Y), rat(q.Y)), times(rat(p.Z), rat(q.Z)))
}

func far2(p, q api.P3) *big.Rat { return dot(from(p, q), from(p, q)) }

// proportional: all products across are alike.
func proportional(a, b []api.Q) bool {
	for i := range a {
		for j := range i {
			if times(rat(a[i]), rat(b[j])).Cmp(times(rat(a[j]), rat(b[i]))) != 0 {
				return false
			}
		}
	}
	return true
}

func numbers(p api.P3) []api.Q { return []api.Q{p.X, p.Y, p.Z} }

// inLine: all points lie on a line, or are one.
func inLine(l ...api.P3) bool {
	for _, p := range l {
		for _, q := range l {
			if !proportional(numbers(from(l[0], p)), numbers(from(l[0], q))) {
				return false
			}
		}
	}
	return true
}

// determinant of three ways, term by term.
func determinant(a, b, c api.P3) *big.Rat {
	term := func(i, j, k int) *big.Rat {
		return times(rat(numbers(a)[i]), rat(numbers(b)[j]), rat(numbers(c)[k]))
	}
	return less(plus(term(0, 1, 2), term(1, 2, 0), term(2, 0, 1)), plus(term(0, 2, 1), term(1, 0, 2), term(2, 1, 0)))
}

func level(l [4]api.P3) bool {
	return determinant(from(l[0], l[1]), from(l[0], l[2]), from(l[0], l[3])).Sign() == 0
}

func across(e api.E) api.P3 { return pt(e.A, e.B, e.C) }

// value is A x + B y + C z + D.
func value(e api.E, p api.P3) *big.Rat { return plus(dot(across(e), p), rat(e.D)) }

// isPlain: whole numbers without a common divisor, the first that isn't 0 above 0; and a plane.
func isPlain(e api.E) bool {
	divisor, first := new(big.Int), 0
	for _, q := range []api.Q{e.A, e.B, e.C, e.D} {
		r := rat(q)
		if !r.IsInt() || text(r) != q {
			return false
		}
		divisor.GCD(nil, nil, divisor, new(big.Int).Abs(r.Num()))
		if first == 0 {
			first = r.Sign()
		}
	}
	return first == 1 && divisor.IsInt64() && divisor.Int64() == 1 && dot(across(e), across(e)).Sign() != 0
}

// meetOf finds the point of planes as one does by hand: number by number is taken out of all planes but one.
func meetOf(l ...api.E) (api.P3, api.Errno) {
	var rows [][4]*big.Rat
	for _, e := range l {
		rows = append(rows, [4]*big.Rat{rat(e.A), rat(e.B), rat(e.C), new(big.Rat).Neg(rat(e.D))})
	}
	told := 0
	for column := range 3 {
		told += takeOut(rows, told, column)
	}
	for _, row := range rows[told:] {
		if row[3].Sign() != 0 {
			return api.P3{}, api.ErrNone
		}
	}
	if told < 3 {
		return api.P3{}, api.ErrFree
	}
	return pt(text(rows[0][3]), text(rows[1][3]), text(rows[2][3])), api.OK
}

// takeOut takes a column out of all rows but one, which it puts at a place; 0, if none from there on has it.
func takeOut(rows [][4]*big.Rat, place, column int) int {
	with := place
	for with < len(rows) && rows[with][column].Sign() == 0 {
		with++
	}
	if with == len(rows) {
		return 0
	}
	rows[place], rows[with] = rows[with], rows[place]
	head := rows[place][column]
	for i := range rows[place] {
		rows[place][i] = over(rows[place][i], head)
	}
	for j := range rows {
		part := rows[j][column]
		for i := range rows[j] {
			if j != place {
				rows[j][i] = less(rows[j][i], times(part, rows[place][i]))
			}
		}
	}
	return 1
}

// leastApart is the square of the least distance of a point of the line of a and b and one of that of c and d: where neither grows along its own line any more.
func leastApart(a, b, c, d api.P3) *big.Rat {
	u, v, w := from(a, b), from(c, d), from(a, c)
	uu, uv, vv, uw, vw := dot(u, u), dot(u, v), dot(v, v), dot(u, w), dot(v, w)
	k, m := over(uw, uu), whole(0)
	if det := less(times(uu, vv), times(uv, uv)); det.Sign() != 0 {
		k = over(less(times(uw, vv), times(uv, vw)), det)
		m = over(less(times(uv, uw), times(uu, vw)), det)
	}
	return far2(at(a, b, k), at(c, d, m))
}

// guess makes points and planes, the same ones each time: small ones, which often are special to each other, and long ones.
type guess struct {
	r    *rand.Rand
	size int
}

func newGuess(round int) guess {
	return guess{rand.New(rand.NewSource(int64(round))), []int{1, 2, 12, 40}[round%4]}
}

func (g guess) digits() string {
	var b strings.Builder
	for range 1 + g.r.Intn(g.size) {
		b.WriteString(strconv.Itoa(g.r.Intn(10)))
	}
	return b.String()
}

func (g guess) fraction() api.Q {
	if g.size == 1 {
		return api.Q(strconv.Itoa(g.r.Intn(5) - 2))
	}
	t := []string{"", "-"}[g.r.Intn(2)] + g.digits()
	if g.r.Intn(2) == 0 {
		t += "/" + g.digits() + strconv.Itoa(1+g.r.Intn(9))
	}
	return api.Q(t)
}

// more is a fraction that isn't 0.
func (g guess) more() *big.Rat {
	for {
		if r := rat(g.fraction()); r.Sign() != 0 {
			return r
		}
	}
}

func (g guess) point() api.P3 { return pt(g.fraction(), g.fraction(), g.fraction()) }

// other is a point that isn't p.
func (g guess) other(p api.P3) api.P3 {
	for {
		if q := g.point(); far2(p, q).Sign() != 0 {
			return q
		}
	}
}

// way is one that isn't 0.
func (g guess) way() api.P3 { return g.other(pt("0", "0", "0")) }

// plane is one for sure.
func (g guess) plane() api.E {
	w := g.way()
	return pl(w.X, w.Y, w.Z, g.fraction())
}

// many is e so many times.
func many(e api.E, k *big.Rat) api.E {
	return pl(text(times(k, rat(e.A))), text(times(k, rat(e.B))), text(times(k, rat(e.C))), text(times(k, rat(e.D))))
}

// both is a plane of all points that two planes share; it is none, if these lie beside each other and it isn't lucky.
func (g guess) both(e, f api.E) api.E {
	k, m := g.more(), g.more()
	add := func(a, b api.Q) api.Q { return text(plus(times(k, rat(a)), times(m, rat(b)))) }
	return pl(add(e.A, f.A), add(e.B, f.B), add(e.C, f.C), add(e.D, f.D))
}

// corners are four points that lie on no plane.
func (g guess) corners() [4]api.P3 {
	for {
		if l := [4]api.P3{g.point(), g.point(), g.point(), g.point()}; !level(l) {
			return l
		}
	}
}

// square are three ways at right angles to each other, none of them 0: the axes, mirrored twice.
func (g guess) square() [3]api.P3 {
	l := [3]api.P3{pt("1", "0", "0"), pt("0", "1", "0"), pt("0", "0", "1")}
	for range 2 {
		w := g.way()
		for i, v := range l {
			l[i] = sum([]api.P3{v, w}, []*big.Rat{whole(1), over(times(whole(-2), dot(v, w)), dot(w, w))})
		}
	}
	for i, v := range l {
		l[i] = sum([]api.P3{v}, []*big.Rat{g.more()})
	}
	return l
}
