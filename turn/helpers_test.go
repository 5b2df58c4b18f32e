package turn

import (
	"math/big"
	"math/rand"
	"strconv"
	"strings"
	"testing"

	"compass/api"
)

func pt(x, y api.Q) api.P { return api.P{X: x, Y: y} }

func ln(a, b, c api.Q) api.L { return api.L{A: a, B: b, C: c} }

func circ(x, y, r2 api.Q) api.C { return api.C{M: pt(x, y), R2: r2} }

func same[T comparable](t *testing.T, what string, got, want T) {
	t.Helper()
	if got != want {
		t.Errorf("%s: %v, want %v", what, got, want)
	}
}

// must takes what was answered without an error.
func must[T any](t *testing.T, what string) func(got T, e api.Errno) T {
	return func(got T, e api.Errno) T {
		t.Helper()
		if e != api.OK {
			t.Fatalf("%s: error %d", what, e)
		}
		return got
	}
}

// refused checks that there is nothing beside the error.
func refused[T comparable](t *testing.T, what string, want api.Errno) func(got T, e api.Errno) {
	return func(got T, e api.Errno) {
		t.Helper()
		var nothing T
		same(t, what, got, nothing)
		same(t, what, e, want)
	}
}

// image is what Apply answers, as one.
type image struct {
	w   api.P
	far bool
}

func imageOf(m api.M, z api.P) (image, api.Errno) {
	w, far, e := Apply(m, z)
	return image{w, far}, e
}

func bend(a, b, c, d api.Q) api.G { return api.G{A: a, B: b, C: c, D: d} }

func frac(a, b, c, d api.P) api.M { return api.M{A: a, B: b, C: c, D: d} }

// ofFractions is a map whose numbers are fractions.
func ofFractions(a, b, c, d api.Q) api.M { return frac(pt(a, "0"), pt(b, "0"), pt(c, "0"), pt(d, "0")) }

// What follows is held against fractions of the library, so that a fault of the program's own can't hide on both sides.

// rat reads in the base ten by hand: of a fraction, the library takes noughts ahead for another base.
func rat(q api.Q) *big.Rat {
	up, low, bar := strings.Cut(string(q), "/")
	x, _ := new(big.Int).SetString(up, 10)
	y := big.NewInt(1)
	if bar {
		y.SetString(low, 10)
	}
	return new(big.Rat).SetFrac(x, y)
}

func text(r *big.Rat) api.Q { return api.Q(r.RatString()) }

func whole(n int64) *big.Rat { return big.NewRat(n, 1) }

func plus(l ...*big.Rat) *big.Rat {
	sum := new(big.Rat)
	for _, r := range l {
		sum.Add(sum, r)
	}
	return sum
}

func less(a, b *big.Rat) *big.Rat { return new(big.Rat).Sub(a, b) }

func times(l ...*big.Rat) *big.Rat {
	product := whole(1)
	for _, r := range l {
		product.Mul(product, r)
	}
	return product
}

func over(a, b *big.Rat) *big.Rat { return new(big.Rat).Quo(a, b) }

// plain is the point in lowest terms.
func plain(p api.P) api.P { return pt(text(rat(p.X)), text(rat(p.Y))) }

// at is p and k times the way from p to q.
func at(p, q api.P, k *big.Rat) api.P {
	one := func(a, b api.Q) api.Q { return text(plus(rat(a), times(k, less(rat(b), rat(a))))) }
	return pt(one(p.X, q.X), one(p.Y, q.Y))
}

// dot is (b - a) . (d - c).
func dot(a, b, c, d api.P) *big.Rat {
	return plus(times(less(rat(b.X), rat(a.X)), less(rat(d.X), rat(c.X))), times(less(rat(b.Y), rat(a.Y)), less(rat(d.Y), rat(c.Y))))
}

func far2(p, q api.P) *big.Rat { return dot(p, q, p, q) }

// sum, minus, product and quotient are those of complex numbers.
func sum(p, q api.P) api.P {
	return pt(text(plus(rat(p.X), rat(q.X))), text(plus(rat(p.Y), rat(q.Y))))
}

func minus(p, q api.P) api.P {
	return pt(text(less(rat(p.X), rat(q.X))), text(less(rat(p.Y), rat(q.Y))))
}

func product(p, q api.P) api.P {
	x := less(times(rat(p.X), rat(q.X)), times(rat(p.Y), rat(q.Y)))
	y := plus(times(rat(p.X), rat(q.Y)), times(rat(p.Y), rat(q.X)))
	return pt(text(x), text(y))
}

func quotient(p, q api.P) api.P {
	size := far2(pt("0", "0"), q)
	up := product(p, conjugate(q))
	return pt(text(over(rat(up.X), size)), text(over(rat(up.Y), size)))
}

func conjugate(p api.P) api.P { return pt(text(rat(p.X)), text(new(big.Rat).Neg(rat(p.Y)))) }

// value is A (x x + y y) + B x + C y + D.
func value(g api.G, p api.P) *big.Rat {
	return plus(times(rat(g.A), far2(pt("0", "0"), p)), times(rat(g.B), rat(p.X)), times(rat(g.C), rat(p.Y)), rat(g.D))
}

// spread is B B + C C - 4 A D.
func spread(g api.G) *big.Rat {
	return less(plus(times(rat(g.B), rat(g.B)), times(rat(g.C), rat(g.C))), times(whole(4), rat(g.A), rat(g.D)))
}

// determinant is A D - B C.
func determinant(m api.M) api.P { return minus(product(m.A, m.D), product(m.B, m.C)) }

// isPlain: whole numbers without a common divisor, the first that isn't 0 above 0.
func isPlain(g api.G) bool {
	divisor, first := new(big.Int), 0
	for _, q := range []api.Q{g.A, g.B, g.C, g.D} {
		r := rat(q)
		if !r.IsInt() || text(r) != q {
			return false
		}
		divisor.GCD(nil, nil, divisor, new(big.Int).Abs(r.Num()))
		if first == 0 {
			first = r.Sign()
		}
	}
	return first == 1 && divisor.IsInt64() && divisor.Int64() == 1
}

// startsWithOne: the first that isn't 0 is 1.
func startsWithOne(m api.M) bool {
	for _, p := range []api.P{m.A, m.B, m.C, m.D} {
		if p != pt("0", "0") {
			return p == pt("1", "0")
		}
	}
	return false
}

// guess makes points and circles, the same ones each time: small ones, which often are special to each other, and long ones.
type guess struct {
	r    *rand.Rand
	size int
}

func newGuess(round int) guess {
	return guess{rand.New(rand.NewSource(int64(round))), []int{1, 2, 12, 60}[round%4]}
}

func (g guess) digits() string {
	var b strings.Builder
	for range 1 + g.r.Intn(g.size) {
		b.WriteString(strconv.Itoa(g.r.Intn(10)))
	}
	return b.String()
}

func (g guess) fraction() api.Q {
	t := []string{"", "-"}[g.r.Intn(2)] + g.digits()
	if g.r.Intn(2) == 0 {
		t += "/" + g.digits() + strconv.Itoa(1+g.r.Intn(9))
	}
	return api.Q(t)
}

func (g guess) point() api.P {
	if g.size == 1 {
		small := func() api.Q { return api.Q(strconv.Itoa(g.r.Intn(5) - 2)) }
		return pt(small(), small())
	}
	return pt(g.fraction(), g.fraction())
}

// other is a point that isn't p.
func (g guess) other(p api.P) api.P {
	q := g.point()
	for far2(p, q).Sign() == 0 {
		q = g.point()
	}
	return q
}

// above is a fraction above 0.
func (g guess) above() api.Q {
	k := g.fraction()
	for rat(k).Sign() <= 0 {
		k = g.fraction()
	}
	return k
}

func (g guess) circle() api.C { return api.C{M: g.point(), R2: g.above()} }

func (g guess) line() api.L {
	p := g.other(pt("0", "0"))
	return ln(p.X, p.Y, g.fraction())
}

// apart are as many points, of which no two are one.
func (g guess) apart(count int) []api.P {
	var l []api.P
	for len(l) < count {
		p := g.point()
		fresh := true
		for _, q := range l {
			fresh = fresh && far2(p, q).Sign() != 0
		}
		if fresh {
			l = append(l, p)
		}
	}
	return l
}

func (g guess) mapping() api.M {
	for {
		m := frac(g.point(), g.point(), g.point(), g.point())
		if determinant(m) != pt("0", "0") {
			return m
		}
	}
}

// on are as many points of one circle: one of them any point but the middle, the others that one mirrored at lines through the middle.
func (g guess) on(count int) (api.C, []api.P) {
	m := g.point()
	l := []api.P{plain(g.other(m))}
	c := api.C{M: m, R2: text(far2(m, l[0]))}
	for len(l) < count {
		q := g.other(m)
		k := over(dot(m, l[0], m, q), far2(m, q))
		foot := at(m, q, k)
		l = append(l, at(l[0], foot, whole(2)))
	}
	return c, l
}
