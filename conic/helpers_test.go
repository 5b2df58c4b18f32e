package conic

import (
	"math/big"
	"math/rand"
	"strconv"
	"strings"
	"testing"

	"compass/api"
)

func pt(x, y api.Q) api.P { return api.P{X: x, Y: y} }

func ln(a, b, c api.Q) api.L { return api.L{A: a, B: b, C: c} }

func origin() api.P { return pt("0", "0") }

func same[T comparable](t *testing.T, what string, got, want T) {
	t.Helper()
	if got != want {
		t.Errorf("%s: %v, want %v", what, got, want)
	}
}

// must takes what was answered without an error.
func must[T any](t *testing.T, what string) func(got T, e api.Errno) T {
	return func(got T, e api.Errno) T {
		t.Helper()
		if e != api.OK {
			t.Fatalf("%s: error %d", what, e)
		}
		return got
	}
}

// refused checks that there is nothing beside the error.
func refused[T comparable](t *testing.T, what string, want api.Errno) func(got T, e api.Errno) {
	return func(got T, e api.Errno) {
		t.Helper()
		var nothing T
		same(t, what, got, nothing)
		same(t, what, e, want)
	}
}

// What follows is held against fractions of the library, so that a fault of the program's own can't hide on both sides.

// rat reads in the base ten by hand: of a fraction, the library takes noughts ahead for another base.
func rat(q api.Q) *big.Rat {
	up, low, bar := strings.Cut(string(q), "/")
	x, _ := new(big.Int).SetString(up, 10)
	y := big.NewInt(1)
	if bar {
		y.SetString(low, 10)
	}
	return new(big.Rat).SetFrac(x, y)
}

func text(r *big.Rat) api.Q { return api.Q(r.RatString()) }

func whole(n int64) *big.Rat { return big.NewRat(n, 1) }

func plus(l ...*big.Rat) *big.Rat {
	sum := new(big.Rat)
	for _, r := range l {
		sum.Add(sum, r)
	}
	return sum
}

func less(a, b *big.Rat) *big.Rat { return new(big.Rat).Sub(a, b) }

func times(l ...*big.Rat) *big.Rat {
	product := whole(1)
	for _, r := range l {
		product.Mul(product, r)
	}
	return product
}

func over(a, b *big.Rat) *big.Rat { return new(big.Rat).Quo(a, b) }

func half(a *big.Rat) *big.Rat { return over(a, whole(2)) }

// lowest is the point in lowest terms.
func lowest(p api.P) api.P { return pt(text(rat(p.X)), text(rat(p.Y))) }

// shifted is p and n times the way.
func shifted(p, way api.P, n *big.Rat) api.P {
	one := func(a, b api.Q) api.Q { return text(plus(rat(a), times(n, rat(b)))) }
	return pt(one(p.X, way.X), one(p.Y, way.Y))
}

// between is the way from p to q.
func between(p, q api.P) api.P { return shifted(q, p, whole(-1)) }

func one(p, q api.P) bool { return between(p, q) == origin() }

func middle(p, q api.P) api.P { return shifted(p, between(p, q), big.NewRat(1, 2)) }

// pairOf is what k makes of the pair p, q, in the document's words.
func pairOf(k api.K, p, q api.P) *big.Rat {
	px, py, qx, qy := rat(p.X), rat(p.Y), rat(q.X), rat(q.Y)
	return plus(
		times(rat(k[0]), px, qx),
		times(rat(k[1]), half(plus(times(px, qy), times(py, qx)))),
		times(rat(k[2]), py, qy),
		times(rat(k[3]), half(plus(px, qx))),
		times(rat(k[4]), half(plus(py, qy))),
		rat(k[5]),
	)
}

// value is what k makes of p, in the words of package api.
func value(k api.K, p api.P) *big.Rat {
	x, y := rat(p.X), rat(p.Y)
	return plus(times(rat(k[0]), x, x), times(rat(k[1]), x, y), times(rat(k[2]), y, y), times(rat(k[3]), x), times(rat(k[4]), y), rat(k[5]))
}

// slope is how fast k grows at p along a way.
func slope(k api.K, p, way api.P) *big.Rat {
	x, y := rat(p.X), rat(p.Y)
	right := plus(times(whole(2), rat(k[0]), x), times(rat(k[1]), y), rat(k[3]))
	up := plus(times(rat(k[1]), x), times(whole(2), rat(k[2]), y), rat(k[4]))
	return plus(times(right, rat(way.X)), times(up, rat(way.Y)))
}

func valueOfLine(l api.L, p api.P) *big.Rat {
	return plus(times(rat(l.A), rat(p.X)), times(rat(l.B), rat(p.Y)), rat(l.C))
}

// isPlain: whole numbers without a common divisor, the first that isn't 0 above 0.
func isPlain(l ...api.Q) bool {
	divisor, first := new(big.Int), 0
	for _, q := range l {
		r := rat(q)
		if !r.IsInt() || text(r) != q {
			return false
		}
		divisor.GCD(nil, nil, divisor, new(big.Int).Abs(r.Num()))
		if first == 0 {
			first = r.Sign()
		}
	}
	return first == 1 && divisor.IsInt64() && divisor.Int64() == 1
}

// sum of both, each so many times.
func sum(a api.K, m *big.Rat, b api.K, n *big.Rat) api.K {
	var k api.K
	for i := range k {
		k[i] = text(plus(times(m, rat(a[i])), times(n, rat(b[i]))))
	}
	return k
}

// flat: all but the last number are 0.
func flat(k api.K) bool {
	for _, q := range k[:5] {
		if rat(q).Sign() != 0 {
			return false
		}
	}
	return true
}

// proportional: all products across are alike.
func proportional(a, b api.K) bool {
	for i := range a {
		for j := range i {
			if times(rat(a[i]), rat(b[j])).Cmp(times(rat(a[j]), rat(b[i]))) != 0 {
				return false
			}
		}
	}
	return true
}

// triad is a point or a line of which only the ratios count.
type triad [3]*big.Rat

func ofPoint(p api.P) triad { return triad{rat(p.X), rat(p.Y), whole(1)} }

func ofLine(l api.L) triad { return triad{rat(l.A), rat(l.B), rat(l.C)} }

// cross is the line through two points, and the point that two lines share.
func (a triad) cross(b triad) triad {
	part := func(i, j int) *big.Rat { return less(times(a[i], b[j]), times(a[j], b[i])) }
	return triad{part(1, 2), part(2, 0), part(0, 1)}
}

// determinant is 0 just if three points lie on a line, or three lines go through a point, be it out of the plane.
func determinant(a, b, c triad) *big.Rat {
	d := b.cross(c)
	return plus(times(a[0], d[0]), times(a[1], d[1]), times(a[2], d[2]))
}

// guess makes points and conics, the same ones each time: small ones, which often are special to each other, and long ones.
type guess struct {
	r    *rand.Rand
	size int
}

func newGuess(round int) guess {
	return guess{rand.New(rand.NewSource(int64(round))), []int{1, 2, 12, 60}[round%4]}
}

func (g guess) digits() string {
	var b strings.Builder
	for range 1 + g.r.Intn(g.size) {
		b.WriteString(strconv.Itoa(g.r.Intn(10)))
	}
	return b.String()
}

func (g guess) fraction() api.Q {
	if g.size == 1 {
		return api.Q(strconv.Itoa(g.r.Intn(5) - 2))
	}
	t := []string{"", "-"}[g.r.Intn(2)] + g.digits()
	if g.r.Intn(2) == 0 {
		t += "/" + g.digits() + strconv.Itoa(1+g.r.Intn(9))
	}
	return api.Q(t)
}

// more is a fraction that isn't 0.
func (g guess) more() api.Q {
	for {
		if q := g.fraction(); rat(q).Sign() != 0 {
			return q
		}
	}
}

func (g guess) point() api.P { return pt(g.fraction(), g.fraction()) }

// other is a point that isn't p.
func (g guess) other(p api.P) api.P {
	for {
		if q := g.point(); !one(p, q) {
			return q
		}
	}
}

// way is one that goes somewhere.
func (g guess) way() api.P { return g.other(origin()) }

// conic of any numbers, of which some are 0.
func (g guess) conic() api.K {
	for {
		var k api.K
		for i := range k {
			k[i] = "0"
			if g.r.Intn(4) > 0 {
				k[i] = g.fraction()
			}
		}
		if !flat(k) {
			return k
		}
	}
}

// pair of lines, as a conic: some of them cross, some lie beside each other, some are one.
func (g guess) pair() api.K {
	a, b := g.way(), g.way()
	if g.r.Intn(2) == 0 {
		n := rat(g.more())
		b = shifted(origin(), a, n)
	}
	l, m := triad{rat(a.X), rat(a.Y), rat(g.fraction())}, triad{rat(b.X), rat(b.Y), rat(g.fraction())}
	mixed := func(i, j int) api.Q { return text(plus(times(l[i], m[j]), times(l[j], m[i]))) }
	square := func(i int) api.Q { return text(times(l[i], m[i])) }
	return api.K{square(0), mixed(0, 1), square(1), mixed(0, 2), mixed(1, 2), square(2)}
}

// any conic, or two lines.
func (g guess) any() api.K {
	if g.r.Intn(3) == 0 {
		return g.pair()
	}
	return g.conic()
}

// set is k with its last number such that p is on it.
func set(k api.K, p api.P) api.K {
	k[5] = text(less(rat(k[5]), value(k, p)))
	return k
}

// on has points of one conic, no two of them one: what a projective map makes of points of a circle.
func (g guess) on(count int) []api.P {
	for {
		a, b, c := triad{}, triad{}, triad{}
		for i := range a {
			a[i], b[i], c[i] = rat(g.fraction()), rat(g.fraction()), rat(g.fraction())
		}
		if determinant(a, b, c).Sign() == 0 {
			continue
		}
		if l := bendsOf(a, b, c, count); len(l) == count {
			return l
		}
	}
}

// bendsOf are points of the circle around the origin through 1, 0, carried by the map with these rows.
func bendsOf(a, b, c triad, count int) []api.P {
	var l []api.P
	for n := int64(0); n < 4*int64(count) && len(l) < count; n++ {
		t := big.NewRat(n-int64(count), 2)
		u := triad{less(whole(1), times(t, t)), times(whole(2), t), plus(whole(1), times(t, t))}
		made := func(row triad) *big.Rat { return plus(times(row[0], u[0]), times(row[1], u[1]), times(row[2], u[2])) }
		if low := made(c); low.Sign() != 0 {
			l = append(l, pt(text(over(made(a), low)), text(over(made(b), low))))
		}
	}
	return l
}
