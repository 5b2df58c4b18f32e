package hyper

import (
	"math/big"
	"math/rand"
	"strconv"
	"strings"
	"testing"

	"compass/api"
)

func pt(x, y api.Q) api.P { return api.P{X: x, Y: y} }

func ln(a, b, c api.Q) api.L { return api.L{A: a, B: b, C: c} }

func same[T comparable](t *testing.T, what string, got, want T) {
	t.Helper()
	if got != want {
		t.Errorf("%s: %v, want %v", what, got, want)
	}
}

// must takes what was answered without an error.
func must[T any](t *testing.T, what string) func(got T, e api.Errno) T {
	return func(got T, e api.Errno) T {
		t.Helper()
		if e != api.OK {
			t.Fatalf("%s: error %d", what, e)
		}
		return got
	}
}

// answers checks what was answered: nothing beside an error.
func answers[T comparable](t *testing.T, what string, want T, wrong api.Errno) func(got T, e api.Errno) {
	return func(got T, e api.Errno) {
		t.Helper()
		same(t, what, got, want)
		same(t, what, e, wrong)
	}
}

// refused checks that there is nothing beside the error.
func refused[T comparable](t *testing.T, what string, wrong api.Errno) func(got T, e api.Errno) {
	t.Helper()
	var nothing T
	return answers(t, what, nothing, wrong)
}

// What follows is held against fractions of the library, so that a fault of the program's own can't hide on both sides.

// rat reads in the base ten by hand: of a fraction, the library takes noughts ahead for another base.
func rat(q api.Q) *big.Rat {
	up, low, bar := strings.Cut(string(q), "/")
	x, _ := new(big.Int).SetString(up, 10)
	y := big.NewInt(1)
	if bar {
		y.SetString(low, 10)
	}
	return new(big.Rat).SetFrac(x, y)
}

func text(r *big.Rat) api.Q { return api.Q(r.RatString()) }

func whole(n int64) *big.Rat { return big.NewRat(n, 1) }

func plus(l ...*big.Rat) *big.Rat {
	sum := new(big.Rat)
	for _, r := range l {
		sum.Add(sum, r)
	}
	return sum
}

func less(a, b *big.Rat) *big.Rat { return new(big.Rat).Sub(a, b) }

func times(l ...*big.Rat) *big.Rat {
	product := whole(1)
	for _, r := range l {
		product.Mul(product, r)
	}
	return product
}

func over(a, b *big.Rat) *big.Rat { return new(big.Rat).Quo(a, b) }

// lowest is the point in lowest terms.
func lowest(p api.P) api.P { return pt(text(rat(p.X)), text(rat(p.Y))) }

// value is A x + B y + C.
func value(l api.L, p api.P) *big.Rat {
	return plus(times(rat(l.A), rat(p.X)), times(rat(l.B), rat(p.Y)), rat(l.C))
}

// ofPoints is <p, q>.
func ofPoints(p, q api.P) *big.Rat {
	return less(plus(times(rat(p.X), rat(q.X)), times(rat(p.Y), rat(q.Y))), whole(1))
}

// ofLines is <l, m>.
func ofLines(l, m api.L) *big.Rat {
	return less(plus(times(rat(l.A), rat(m.A)), times(rat(l.B), rat(m.B))), times(rat(l.C), rat(m.C)))
}

func far(p, q api.P) *big.Rat {
	return over(times(ofPoints(p, q), ofPoints(p, q)), times(ofPoints(p, p), ofPoints(q, q)))
}

func lean(l, m api.L) *big.Rat {
	return over(times(ofLines(l, m), ofLines(l, m)), times(ofLines(l, l), ofLines(m, m)))
}

// moved is (p.X, p.Y, 1) less k v over <l, l> times (A, B, - C): its first two over its third.
func moved(l api.L, p api.P, k int64) api.P {
	f := over(times(whole(k), value(l, p)), ofLines(l, l))
	x, y, z := less(rat(p.X), times(f, rat(l.A))), less(rat(p.Y), times(f, rat(l.B))), plus(whole(1), times(f, rat(l.C)))
	return pt(text(over(x, z)), text(over(y, z)))
}

// through is the line through two points, not in plain form.
func through(p, q api.P) api.L {
	a, b := less(rat(p.Y), rat(q.Y)), less(rat(q.X), rat(p.X))
	c := plus(times(a, rat(p.X)), times(b, rat(p.Y)))
	return ln(text(a), text(b), text(c.Neg(c)))
}

// isPlain: whole numbers without a common divisor, the first that isn't 0 above 0.
func isPlain(l api.L) bool {
	divisor, first := new(big.Int), 0
	for _, q := range []api.Q{l.A, l.B, l.C} {
		r := rat(q)
		if !r.IsInt() || r.RatString() != string(q) {
			return false
		}
		divisor.GCD(nil, nil, divisor, new(big.Int).Abs(r.Num()))
		if first == 0 {
			first = r.Sign()
		}
	}
	return first == 1 && divisor.IsInt64() && divisor.Int64() == 1
}

// guess makes points and lines, the same ones each time: small ones, which often are special to each other, and long ones.
type guess struct {
	r    *rand.Rand
	size int
}

func newGuess(round int) guess {
	return guess{rand.New(rand.NewSource(int64(round))), []int{1, 1, 2, 20}[round%4]}
}

func (g guess) digits() string {
	var b strings.Builder
	for range 1 + g.r.Intn(g.size) {
		b.WriteString(strconv.Itoa(g.r.Intn(10)))
	}
	return b.String()
}

func (g guess) fraction() api.Q {
	if g.size == 1 {
		return api.Q(strconv.Itoa(g.r.Intn(5) - 2))
	}
	t := []string{"", "-"}[g.r.Intn(2)] + g.digits()
	if g.r.Intn(2) == 0 {
		t += "/" + g.digits() + strconv.Itoa(1+g.r.Intn(9))
	}
	return api.Q(t)
}

// more is a fraction that isn't 0.
func (g guess) more() *big.Rat {
	for {
		if r := rat(g.fraction()); r.Sign() != 0 {
			return r
		}
	}
}

// any is a point within, on the circle or outside.
func (g guess) any() api.P {
	if g.r.Intn(4) == 0 {
		return g.edge()
	}
	return pt(g.fraction(), g.fraction())
}

// edge is a point on the circle.
func (g guess) edge() api.P {
	k := rat(g.fraction())
	n := plus(whole(1), times(k, k))
	return pt(text(over(less(whole(1), times(k, k)), n)), text(over(times(whole(2), k), n)))
}

// point is one within: the farther out one was, the nearer to the circle.
func (g guess) point() api.P {
	x, y := rat(g.fraction()), rat(g.fraction())
	n := plus(whole(1), new(big.Rat).Abs(x), new(big.Rat).Abs(y))
	return pt(text(over(x, n)), text(over(y, n)))
}

// other is a point within that isn't p.
func (g guess) other(p api.P) api.P {
	for {
		if q := g.point(); far(p, q).Cmp(whole(1)) != 0 {
			return q
		}
	}
}

// numbers are those of a line or not.
func (g guess) numbers() api.L { return ln(g.fraction(), g.fraction(), g.fraction()) }

// line is one for sure.
func (g guess) line() api.L {
	for {
		if l := g.numbers(); ofLines(l, l).Sign() > 0 {
			return l
		}
	}
}

// many is a line whose numbers are all so many times as great.
func many(l api.L, k *big.Rat) api.L {
	return ln(text(times(k, rat(l.A))), text(times(k, rat(l.B))), text(times(k, rat(l.C))))
}
