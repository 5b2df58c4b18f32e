package project

import (
	"math/big"
	"math/rand"
	"strconv"
	"strings"
	"testing"

	"compass/api"
)

func same[T comparable](t *testing.T, what string, got, want T) {
	t.Helper()
	if got != want {
		t.Errorf("%s: %v, want %v", what, got, want)
	}
}

// must takes what was answered without an error.
func must[T any](t *testing.T, what string) func(got T, e api.Errno) T {
	return func(got T, e api.Errno) T {
		t.Helper()
		if e != api.OK {
			t.Fatalf("%s: error %d", what, e)
		}
		return got
	}
}

// refused checks that there is nothing beside the error.
func refused[T comparable](t *testing.T, what string, want api.Errno) func(got T, e api.Errno) {
	return func(got T, e api.Errno) {
		t.Helper()
		var nothing T
		same(t, what, got, nothing)
		same(t, what, e, want)
	}
}

// What follows is held against fractions of the library, so that a fault of the program's own can't hide on both sides.

// rat reads in the base ten by hand: of a fraction, the library takes noughts ahead for another base.
func rat(q api.Q) *big.Rat {
	up, low, bar := strings.Cut(string(q), "/")
	x, _ := new(big.Int).SetString(up, 10)
	y := big.NewInt(1)
	if bar {
		y.SetString(low, 10)
	}
	return new(big.Rat).SetFrac(x, y)
}

func text(r *big.Rat) api.Q { return api.Q(r.RatString()) }

func whole(n int64) *big.Rat { return big.NewRat(n, 1) }

func plus(l ...*big.Rat) *big.Rat {
	sum := new(big.Rat)
	for _, r := range l {
		sum.Add(sum, r)
	}
	return sum
}

func less(a, b *big.Rat) *big.Rat { return new(big.Rat).Sub(a, b) }

func times(l ...*big.Rat) *big.Rat {
	product := whole(1)
	for _, r := range l {
		product.Mul(product, r)
	}
	return product
}

func over(a, b *big.Rat) *big.Rat { return new(big.Rat).Quo(a, b) }

// sum of both, each so many times.
func sum(a api.H, m *big.Rat, b api.H, n *big.Rat) api.H {
	var h api.H
	for i := range h {
		h[i] = text(plus(times(m, rat(a[i])), times(n, rat(b[i]))))
	}
	return h
}

// many is h so many times.
func many(h api.H, n *big.Rat) api.H { return sum(h, n, h, whole(0)) }

// manyMap is w so many times.
func manyMap(w api.W, n *big.Rat) api.W {
	for i, q := range w {
		w[i] = text(times(n, rat(q)))
	}
	return w
}

// dot is the sum of the products.
func dot(a, b api.H) *big.Rat {
	return plus(times(rat(a[0]), rat(b[0])), times(rat(a[1]), rat(b[1])), times(rat(a[2]), rat(b[2])))
}

// determinant of three rows, term by term.
func determinant(a, b, c api.H) *big.Rat {
	term := func(i, j, k int) *big.Rat { return times(rat(a[i]), rat(b[j]), rat(c[k])) }
	return less(plus(term(0, 1, 2), term(1, 2, 0), term(2, 0, 1)), plus(term(0, 2, 1), term(1, 0, 2), term(2, 1, 0)))
}

// proportional: all products across are alike.
func proportional(a, b []api.Q) bool {
	for i := range a {
		for j := range i {
			if times(rat(a[i]), rat(b[j])).Cmp(times(rat(a[j]), rat(b[i]))) != 0 {
				return false
			}
		}
	}
	return true
}

func one(a, b api.H) bool { return proportional(a[:], b[:]) }

func none(h api.H) bool { return dot(h, h).Sign() == 0 }

// isPlain: whole numbers without a common divisor, the first that isn't 0 above 0.
func isPlain(l ...api.Q) bool {
	divisor, first := new(big.Int), 0
	for _, q := range l {
		r := rat(q)
		if !r.IsInt() || text(r) != q {
			return false
		}
		divisor.GCD(nil, nil, divisor, new(big.Int).Abs(r.Num()))
		if first == 0 {
			first = r.Sign()
		}
	}
	return first == 1 && divisor.IsInt64() && divisor.Int64() == 1
}

func rows(w api.W) [3]api.H {
	return [3]api.H{{w[0], w[1], w[2]}, {w[3], w[4], w[5]}, {w[6], w[7], w[8]}}
}

// image is what w makes of p, not made plain.
func image(w api.W, p api.H) api.H {
	var h api.H
	for i, row := range rows(w) {
		h[i] = text(dot(row, p))
	}
	return h
}

func flat(w api.W) bool {
	r := rows(w)
	return determinant(r[0], r[1], r[2]).Sign() == 0
}

// still leaves every point where it is.
func still() api.W { return api.W{"1", "0", "0", "0", "1", "0", "0", "0", "1"} }

// guess makes points, lines and maps, the same ones each time: small ones, which often are special to each other, and long ones.
type guess struct {
	r    *rand.Rand
	size int
}

func newGuess(round int) guess {
	return guess{rand.New(rand.NewSource(int64(round))), []int{1, 2, 12, 60}[round%4]}
}

func (g guess) digits() string {
	var b strings.Builder
	for range 1 + g.r.Intn(g.size) {
		b.WriteString(strconv.Itoa(g.r.Intn(10)))
	}
	return b.String()
}

func (g guess) fraction() api.Q {
	if g.size == 1 {
		return api.Q(strconv.Itoa(g.r.Intn(5) - 2))
	}
	t := []string{"", "-"}[g.r.Intn(2)] + g.digits()
	if g.r.Intn(2) == 0 {
		t += "/" + g.digits() + strconv.Itoa(1+g.r.Intn(9))
	}
	return api.Q(t)
}

// more is a fraction that isn't 0.
func (g guess) more() *big.Rat {
	for {
		if r := rat(g.fraction()); r.Sign() != 0 {
			return r
		}
	}
}

// any has three numbers, of which some are 0: all of them, at times.
func (g guess) any() api.H {
	var h api.H
	for i := range h {
		h[i] = "0"
		if g.r.Intn(5) > 0 {
			h[i] = g.fraction()
		}
	}
	return h
}

// place is a point or a line.
func (g guess) place() api.H {
	for {
		if h := g.any(); !none(h) {
			return h
		}
	}
}

// other is one that isn't h.
func (g guess) other(h api.H) api.H {
	for {
		if o := g.place(); !one(h, o) {
			return o
		}
	}
}

// between is one of the line through both, but neither of them.
func (g guess) between(a, b api.H) api.H { return sum(a, g.more(), b, g.more()) }

// anyMap has nine numbers, and is none, at times.
func (g guess) anyMap() api.W {
	var w api.W
	a, b, c := g.any(), g.any(), g.any()
	if g.r.Intn(4) == 0 {
		c = sum(a, rat(g.fraction()), b, rat(g.fraction()))
	}
	for i, row := range [3]api.H{a, b, c} {
		for j, q := range row {
			w[3*i+j] = q
		}
	}
	return w
}

// mapping is a map.
func (g guess) mapping() api.W {
	for {
		if w := g.anyMap(); !flat(w) {
			return w
		}
	}
}

// wide: no three of them lie on a line.
func wide(l [4]api.H) bool {
	for i := range l {
		if determinant(l[i], l[(i+1)%4], l[(i+2)%4]).Sign() == 0 {
			return false
		}
	}
	return true
}

// four points, no three on a line.
func (g guess) four() [4]api.H {
	for {
		if l := [4]api.H{g.place(), g.place(), g.place(), g.place()}; wide(l) {
			return l
		}
	}
}
