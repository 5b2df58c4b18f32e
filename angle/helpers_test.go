package angle

import (
	"math/big"
	"math/rand"
	"strconv"
	"strings"
	"testing"

	"compass/api"
)

func pt(x, y api.Q) api.P { return api.P{X: x, Y: y} }

func ln(a, b, c api.Q) api.L { return api.L{A: a, B: b, C: c} }

// an is an angle, in the order of the fields: S, then C.
func an(s, c api.Q) api.T { return api.T{S: s, C: c} }

func same[T comparable](t *testing.T, what string, got, want T) {
	t.Helper()
	if got != want {
		t.Errorf("%s: %v, want %v", what, got, want)
	}
}

// must takes what was answered without an error.
func must[T any](t *testing.T, what string) func(got T, e api.Errno) T {
	return func(got T, e api.Errno) T {
		t.Helper()
		if e != api.OK {
			t.Fatalf("%s: error %d", what, e)
		}
		return got
	}
}

// What follows is held against fractions of the library, so that a fault of the program's own can't hide on both sides.

// rat reads in the base ten by hand: of a fraction, the library takes noughts ahead for another base.
func rat(q api.Q) *big.Rat {
	up, low, bar := strings.Cut(string(q), "/")
	x, _ := new(big.Int).SetString(up, 10)
	y := big.NewInt(1)
	if bar {
		y.SetString(low, 10)
	}
	return new(big.Rat).SetFrac(x, y)
}

func plus(a, b *big.Rat) *big.Rat { return new(big.Rat).Add(a, b) }

func less(a, b *big.Rat) *big.Rat { return new(big.Rat).Sub(a, b) }

func times(a, b *big.Rat) *big.Rat { return new(big.Rat).Mul(a, b) }

// number is a complex one: of an angle its C, and its S times i.
type number struct{ re, im *big.Rat }

func numberOf(p api.P) number { return number{rat(p.X), rat(p.Y)} }

// along is how a line goes: for all points of it A x + B y is the same.
func along(l api.L) number { return number{rat(l.B), new(big.Rat).Neg(rat(l.A))} }

func angleOf(a api.T) number { return number{rat(a.C), rat(a.S)} }

func (a number) minus(b number) number { return number{less(a.re, b.re), less(a.im, b.im)} }

func (a number) plus(b number) number { return number{plus(a.re, b.re), plus(a.im, b.im)} }

func (a number) times(b number) number {
	return number{less(times(a.re, b.re), times(a.im, b.im)), plus(times(a.re, b.im), times(a.im, b.re))}
}

// back is the conjugate.
func (a number) back() number { return number{a.re, new(big.Rat).Neg(a.im)} }

func (a number) zero() bool { return a.re.Sign() == 0 && a.im.Sign() == 0 }

func (a number) point() api.P {
	return pt(api.Q(a.re.RatString()), api.Q(a.im.RatString()))
}

// told is a number that isn't 0 as the angle that must be answered for it.
func (a number) told() api.T {
	c := new(big.Int).Mul(a.re.Num(), a.im.Denom())
	s := new(big.Int).Mul(a.im.Num(), a.re.Denom())
	divisor := new(big.Int).GCD(nil, nil, new(big.Int).Abs(c), new(big.Int).Abs(s))
	if c.Sign() < 0 || c.Sign() == 0 && s.Sign() < 0 {
		divisor.Neg(divisor)
	}
	return an(api.Q(s.Quo(s, divisor).String()), api.Q(c.Quo(c, divisor).String()))
}

// guess makes angles, points and lines, the same ones each time: small ones, where some lie on a line or are one, and long ones.
type guess struct {
	r    *rand.Rand
	size int
}

func newGuess(round int) guess {
	return guess{rand.New(rand.NewSource(int64(round))), []int{1, 2, 12, 80}[round%4]}
}

func (g guess) digits() string {
	var b strings.Builder
	for range 1 + g.r.Intn(g.size) {
		b.WriteString(strconv.Itoa(g.r.Intn(10)))
	}
	return b.String()
}

func (g guess) fraction() api.Q {
	t := []string{"", "-"}[g.r.Intn(2)] + g.digits()
	if g.r.Intn(2) == 0 {
		t += "/" + g.digits() + strconv.Itoa(1+g.r.Intn(9))
	}
	return api.Q(t)
}

func (g guess) point() api.P { return pt(g.fraction(), g.fraction()) }

// way is a point that isn't the origin.
func (g guess) way() api.P {
	p := g.point()
	for numberOf(p).zero() {
		p = g.point()
	}
	return p
}

func (g guess) angle() api.T {
	p := g.way()
	return an(p.Y, p.X)
}

func (g guess) line() api.L {
	p := g.way()
	return ln(p.X, p.Y, g.fraction())
}

// apart are n points, no two of them one.
func (g guess) apart(n int) []api.P { return apart(n, g.point) }

// near are n points of a small grid, no two of them one: some lie on one circle, or one line, and most don't.
func (g guess) near(n int) []api.P {
	whole := func() api.Q { return api.Q(strconv.Itoa(g.r.Intn(5) - 2)) }
	return apart(n, func() api.P { return pt(whole(), whole()) })
}

func apart(n int, next func() api.P) []api.P {
	var l []api.P
	for len(l) < n {
		p := numberOf(next()).point()
		fresh := true
		for _, q := range l {
			fresh = fresh && p != q
		}
		if fresh {
			l = append(l, p)
		}
	}
	return l
}
