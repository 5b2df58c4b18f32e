package triangle

import (
	"math/big"
	"math/rand"
	"strconv"
	"strings"
	"testing"

	"compass/api"
)

func pt(x, y api.Q) api.P { return api.P{X: x, Y: y} }

func tri(ax, ay, bx, by, cx, cy api.Q) [3]api.P {
	return [3]api.P{pt(ax, ay), pt(bx, by), pt(cx, cy)}
}

func same[T comparable](t *testing.T, what string, got, want T) {
	t.Helper()
	if got != want {
		t.Errorf("%s: %v, want %v", what, got, want)
	}
}

// must takes what was answered without an error.
func must[T any](t *testing.T, what string) func(got T, e api.Errno) T {
	return func(got T, e api.Errno) T {
		t.Helper()
		if e != api.OK {
			t.Fatalf("%s: error %d", what, e)
		}
		return got
	}
}

// refused checks that there is nothing beside the error.
func refused[T comparable](t *testing.T, what string, want api.Errno) func(got T, e api.Errno) {
	return func(got T, e api.Errno) {
		t.Helper()
		var nothing T
		same(t, what, got, nothing)
		same(t, what, e, want)
	}
}

// What follows is held against fractions of the library, so that a fault of the program's own can't hide on both sides.

// rat reads in the base ten by hand: of a fraction, the library takes noughts ahead for another base.
func rat(q api.Q) *big.Rat {
	up, low, bar := strings.Cut(string(q), "/")
	x, _ := new(big.Int).SetString(up, 10)
	y := big.NewInt(1)
	if bar {
		y.SetString(low, 10)
	}
	return new(big.Rat).SetFrac(x, y)
}

func text(r *big.Rat) api.Q { return api.Q(r.RatString()) }

func whole(n int64) *big.Rat { return big.NewRat(n, 1) }

func plus(l ...*big.Rat) *big.Rat {
	sum := new(big.Rat)
	for _, r := range l {
		sum.Add(sum, r)
	}
	return sum
}

func less(a, b *big.Rat) *big.Rat { return new(big.Rat).Sub(a, b) }

func times(l ...*big.Rat) *big.Rat {
	product := whole(1)
	for _, r := range l {
		product.Mul(product, r)
	}
	return product
}

func over(a, b *big.Rat) *big.Rat { return new(big.Rat).Quo(a, b) }

// plain is the point in lowest terms.
func plain(p api.P) api.P { return pt(text(rat(p.X)), text(rat(p.Y))) }

// at is p and k times the way from p to q.
func at(p, q api.P, k *big.Rat) api.P {
	one := func(a, b api.Q) api.Q { return text(plus(rat(a), times(k, less(rat(b), rat(a))))) }
	return pt(one(p.X, q.X), one(p.Y, q.Y))
}

func middle(p, q api.P) api.P { return at(p, q, big.NewRat(1, 2)) }

// dot is (b - a) . (d - c).
func dot(a, b, c, d api.P) *big.Rat {
	return plus(times(less(rat(b.X), rat(a.X)), less(rat(d.X), rat(c.X))), times(less(rat(b.Y), rat(a.Y)), less(rat(d.Y), rat(c.Y))))
}

func far2(p, q api.P) *big.Rat { return dot(p, q, p, q) }

// turn is by how much three points turn.
func turn(a, b, c api.P) *big.Rat {
	return less(times(less(rat(b.X), rat(a.X)), less(rat(c.Y), rat(a.Y))), times(less(rat(b.Y), rat(a.Y)), less(rat(c.X), rat(a.X))))
}

// weighed is the sum of the corners, each times its weight, over what the weights add up to.
func weighed(x [3]api.P, w [3]*big.Rat) api.P {
	total := plus(w[0], w[1], w[2])
	sum := func(a, b, c api.Q) api.Q {
		return text(over(plus(times(rat(a), w[0]), times(rat(b), w[1]), times(rat(c), w[2])), total))
	}
	return pt(sum(x[0].X, x[1].X, x[2].X), sum(x[0].Y, x[1].Y, x[2].Y))
}

// guess makes triangles and points, the same ones each time: small ones, where some lie on a line or are one, and long ones.
type guess struct {
	r    *rand.Rand
	size int
}

func newGuess(round int) guess {
	return guess{rand.New(rand.NewSource(int64(round))), []int{1, 2, 12, 80}[round%4]}
}

func (g guess) digits() string {
	var b strings.Builder
	for range 1 + g.r.Intn(g.size) {
		b.WriteString(strconv.Itoa(g.r.Intn(10)))
	}
	return b.String()
}

func (g guess) fraction() api.Q {
	t := []string{"", "-"}[g.r.Intn(2)] + g.digits()
	if g.r.Intn(2) == 0 {
		t += "/" + g.digits() + strconv.Itoa(1+g.r.Intn(9))
	}
	return api.Q(t)
}

func (g guess) point() api.P { return pt(g.fraction(), g.fraction()) }

// triangle is one for sure.
func (g guess) triangle() [3]api.P { return apart(g.point) }

// near is a triangle of a small grid, for points of which many are special to it.
func (g guess) near() [3]api.P { return apart(g.nearPoint) }

func (g guess) nearPoint() api.P {
	small := func() api.Q { return api.Q(strconv.Itoa(g.r.Intn(5) - 2)) }
	return pt(small(), small())
}

func apart(next func() api.P) [3]api.P {
	x := [3]api.P{next(), next(), next()}
	for turn(x[0], x[1], x[2]).Sign() == 0 {
		x = [3]api.P{next(), next(), next()}
	}
	return x
}
