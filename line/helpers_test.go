package line

import (
	"math/big"
	"math/rand"
	"strconv"
	"strings"
	"testing"

	"compass/api"
)

func pt(x, y api.Q) api.P { return api.P{X: x, Y: y} }

func ln(a, b, c api.Q) api.L { return api.L{A: a, B: b, C: c} }

func same[T comparable](t *testing.T, what string, got, want T) {
	t.Helper()
	if got != want {
		t.Errorf("%s: %v, want %v", what, got, want)
	}
}

// must takes what was answered without an error.
func must[T any](t *testing.T, what string) func(got T, e api.Errno) T {
	return func(got T, e api.Errno) T {
		t.Helper()
		if e != api.OK {
			t.Fatalf("%s: error %d", what, e)
		}
		return got
	}
}

// What follows is held against fractions of the library, so that a fault of the program's own can't hide on both sides.

// rat reads in the base ten by hand: of a fraction, the library takes noughts ahead for another base.
func rat(q api.Q) *big.Rat {
	up, low, bar := strings.Cut(string(q), "/")
	x, _ := new(big.Int).SetString(up, 10)
	y := big.NewInt(1)
	if bar {
		y.SetString(low, 10)
	}
	return new(big.Rat).SetFrac(x, y)
}

func plus(l ...*big.Rat) *big.Rat {
	sum := new(big.Rat)
	for _, r := range l {
		sum.Add(sum, r)
	}
	return sum
}

func times(a, b *big.Rat) *big.Rat { return new(big.Rat).Mul(a, b) }

func less(a, b *big.Rat) *big.Rat { return new(big.Rat).Sub(a, b) }

// value is A x + B y + C.
func value(l api.L, p api.P) *big.Rat {
	return plus(times(rat(l.A), rat(p.X)), times(rat(l.B), rat(p.Y)), rat(l.C))
}

// far2 is the square of the distance of two points.
func far2(p, q api.P) *big.Rat {
	x, y := less(rat(q.X), rat(p.X)), less(rat(q.Y), rat(p.Y))
	return plus(times(x, x), times(y, y))
}

// middle is half way between two points.
func middle(p, q api.P) api.P {
	half := big.NewRat(1, 2)
	x, y := times(half, plus(rat(p.X), rat(q.X))), times(half, plus(rat(p.Y), rat(q.Y)))
	return pt(api.Q(x.RatString()), api.Q(y.RatString()))
}

// turn is by how much three points turn.
func turn(a, b, c api.P) *big.Rat {
	ab := [2]*big.Rat{less(rat(b.X), rat(a.X)), less(rat(b.Y), rat(a.Y))}
	ac := [2]*big.Rat{less(rat(c.X), rat(a.X)), less(rat(c.Y), rat(a.Y))}
	return less(times(ab[0], ac[1]), times(ab[1], ac[0]))
}

// checkPlain holds a line against what its plain form must be.
func checkPlain(t *testing.T, what string, l api.L) {
	t.Helper()
	divisor, first := new(big.Int), 0
	for _, q := range []api.Q{l.A, l.B, l.C} {
		r := rat(q)
		if !r.IsInt() || r.RatString() != string(q) {
			t.Fatalf("%s: %v: not whole", what, l)
		}
		if first == 0 {
			first = r.Sign()
		}
		divisor.GCD(nil, nil, divisor, new(big.Int).Abs(r.Num()))
	}
	if first != 1 || divisor.Cmp(big.NewInt(1)) != 0 || l.A == "0" && l.B == "0" {
		t.Fatalf("%s: %v: not plain", what, l)
	}
}

// on checks that points lie on a line, and that it is in plain form.
func on(t *testing.T, what string, l api.L, ps ...api.P) {
	t.Helper()
	checkPlain(t, what, l)
	for _, p := range ps {
		if value(l, p).Sign() != 0 {
			t.Fatalf("%s: %v isn't on %v", what, p, l)
		}
	}
}

// guess makes points and lines, the same ones each time: small ones, where some lie on a line or are one, and long ones.
type guess struct {
	r    *rand.Rand
	size int
}

func newGuess(round int) guess {
	return guess{rand.New(rand.NewSource(int64(round))), []int{1, 2, 12, 80}[round%4]}
}

func (g guess) digits() string {
	var b strings.Builder
	for range 1 + g.r.Intn(g.size) {
		b.WriteString(strconv.Itoa(g.r.Intn(10)))
	}
	return b.String()
}

func (g guess) fraction() api.Q {
	t := []string{"", "-"}[g.r.Intn(2)] + g.digits()
	if g.r.Intn(2) == 0 {
		t += "/" + g.digits() + strconv.Itoa(1+g.r.Intn(9))
	}
	return api.Q(t)
}

func (g guess) point() api.P { return pt(g.fraction(), g.fraction()) }

// line is one for sure.
func (g guess) line() api.L {
	l := ln(g.fraction(), g.fraction(), g.fraction())
	for rat(l.A).Sign() == 0 && rat(l.B).Sign() == 0 {
		l.A, l.B = g.fraction(), g.fraction()
	}
	return l
}

// other is a point that isn't p.
func (g guess) other(p api.P) api.P {
	q := g.point()
	for far2(p, q).Sign() == 0 {
		q = g.point()
	}
	return q
}
