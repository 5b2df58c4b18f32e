package move

import (
	"math/big"
	"math/rand"
	"strconv"
	"strings"
	"testing"

	"compass/api"
)

func pt(x, y api.Q) api.P { return api.P{X: x, Y: y} }

func ln(a, b, c api.Q) api.L { return api.L{A: a, B: b, C: c} }

func same[T comparable](t *testing.T, what string, got, want T) {
	t.Helper()
	if got != want {
		t.Errorf("%s: %v, want %v", what, got, want)
	}
}

// must takes what was answered without an error.
func must[T any](t *testing.T, what string) func(got T, e api.Errno) T {
	return func(got T, e api.Errno) T {
		t.Helper()
		if e != api.OK {
			t.Fatalf("%s: error %d", what, e)
		}
		return got
	}
}

// refused checks that there is nothing beside the error.
func refused[T comparable](t *testing.T, what string, want api.Errno) func(got T, e api.Errno) {
	return func(got T, e api.Errno) {
		t.Helper()
		var nothing T
		same(t, what, got, nothing)
		same(t, what, e, want)
	}
}

// stays is all that Fixed answers.
type stays struct {
	p   api.P
	l   api.L
	all bool
	e   api.Errno
}

func staysOf(a api.A) stays {
	p, l, all, e := Fixed(a)
	return stays{p, l, all, e}
}

// What follows is held against fractions of the library, so that a fault of the program's own can't hide on both sides.

// rat reads in the base ten by hand: of a fraction, the library takes noughts ahead for another base.
func rat(q api.Q) *big.Rat {
	up, low, bar := strings.Cut(string(q), "/")
	x, _ := new(big.Int).SetString(up, 10)
	y := big.NewInt(1)
	if bar {
		y.SetString(low, 10)
	}
	return new(big.Rat).SetFrac(x, y)
}

func text(r *big.Rat) api.Q { return api.Q(r.RatString()) }

func whole(n int64) *big.Rat { return big.NewRat(n, 1) }

func half() *big.Rat { return big.NewRat(1, 2) }

func plus(l ...*big.Rat) *big.Rat {
	sum := new(big.Rat)
	for _, r := range l {
		sum.Add(sum, r)
	}
	return sum
}

func less(a, b *big.Rat) *big.Rat { return new(big.Rat).Sub(a, b) }

func times(l ...*big.Rat) *big.Rat {
	product := whole(1)
	for _, r := range l {
		product.Mul(product, r)
	}
	return product
}

func over(a, b *big.Rat) *big.Rat { return new(big.Rat).Quo(a, b) }

// plain is the point as it is answered.
func plain(p api.P) api.P { return pt(text(rat(p.X)), text(rat(p.Y))) }

func sum(p, q api.P) api.P { return pt(text(plus(rat(p.X), rat(q.X))), text(plus(rat(p.Y), rat(q.Y)))) }

func minus(p, q api.P) api.P {
	return pt(text(less(rat(p.X), rat(q.X))), text(less(rat(p.Y), rat(q.Y))))
}

// at is p and k times the way from p to q.
func at(p, q api.P, k *big.Rat) api.P {
	way := minus(q, p)
	return sum(p, pt(text(times(k, rat(way.X))), text(times(k, rat(way.Y)))))
}

func dot(p, q api.P) *big.Rat { return plus(times(rat(p.X), rat(q.X)), times(rat(p.Y), rat(q.Y))) }

func cross(p, q api.P) *big.Rat { return less(times(rat(p.X), rat(q.Y)), times(rat(p.Y), rat(q.X))) }

func far2(p, q api.P) *big.Rat { return dot(minus(q, p), minus(q, p)) }

// turns is by how much three points turn.
func turns(a, b, c api.P) *big.Rat { return cross(minus(b, a), minus(c, a)) }

// product of complex numbers.
func product(p, q api.P) api.P {
	return pt(text(less(times(rat(p.X), rat(q.X)), times(rat(p.Y), rat(q.Y)))), text(plus(times(rat(p.X), rat(q.Y)), times(rat(p.Y), rat(q.X)))))
}

// value is A x + B y + C.
func value(l api.L, p api.P) *big.Rat {
	return plus(times(rat(l.A), rat(p.X)), times(rat(l.B), rat(p.Y)), rat(l.C))
}

// across is the way at right angles to a line.
func across(l api.L) api.P { return pt(l.A, l.B) }

// mirrored is as far from l as p, on the other side.
func mirrored(l api.L, p api.P) api.P {
	n := across(l)
	k := times(whole(-2), over(value(l, p), dot(n, n)))
	return sum(p, pt(text(times(k, rat(n.X))), text(times(k, rat(n.Y)))))
}

// image is what the map makes of p, in the words of package api.
func image(a api.A, p api.P) api.P {
	row := func(i int) api.Q {
		return text(plus(times(rat(a[i]), rat(p.X)), times(rat(a[i+1]), rat(p.Y)), rat(a[i+2])))
	}
	return pt(row(0), row(3))
}

func origin() api.P { return pt("0", "0") }

// mapOf is the map that does to every point what f does.
func mapOf(f func(p api.P) api.P) api.A {
	o := f(origin())
	r, u := minus(f(pt("1", "0")), o), minus(f(pt("0", "1")), o)
	return api.A{r.X, u.X, o.X, r.Y, u.Y, o.Y}
}

func determinant(a api.A) *big.Rat {
	return less(times(rat(a[0]), rat(a[4])), times(rat(a[1]), rat(a[3])))
}

// keeps tells if the map keeps distances: those of three points that aren't on a line tell it.
func keeps(a api.A) bool {
	l := [3]api.P{origin(), pt("1", "0"), pt("0", "1")}
	for i, p := range l {
		for _, q := range l[:i] {
			if far2(image(a, p), image(a, q)).Cmp(far2(p, q)) != 0 {
				return false
			}
		}
	}
	return true
}

// isPlain: whole numbers without a common divisor, the first that isn't 0 above 0; and a line.
func isPlain(l api.L) bool {
	divisor, first := new(big.Int), 0
	for _, q := range []api.Q{l.A, l.B, l.C} {
		r := rat(q)
		if !r.IsInt() || text(r) != q {
			return false
		}
		divisor.GCD(nil, nil, divisor, new(big.Int).Abs(r.Num()))
		if first == 0 {
			first = r.Sign()
		}
	}
	return first == 1 && divisor.IsInt64() && divisor.Int64() == 1 && (l.A != "0" || l.B != "0")
}

// guess makes points, lines and maps, the same ones each time: small ones, which often are special to each other, and long ones.
type guess struct {
	r    *rand.Rand
	size int
}

func newGuess(round int) guess {
	return guess{rand.New(rand.NewSource(int64(round))), []int{1, 2, 12, 60}[round%4]}
}

func (g guess) digits() string {
	var b strings.Builder
	for range 1 + g.r.Intn(g.size) {
		b.WriteString(strconv.Itoa(g.r.Intn(10)))
	}
	return b.String()
}

func (g guess) fraction() api.Q {
	if g.size == 1 {
		return api.Q(strconv.Itoa(g.r.Intn(5) - 2))
	}
	t := []string{"", "-"}[g.r.Intn(2)] + g.digits()
	if g.r.Intn(2) == 0 {
		t += "/" + g.digits() + strconv.Itoa(1+g.r.Intn(9))
	}
	return api.Q(t)
}

func (g guess) point() api.P { return pt(g.fraction(), g.fraction()) }

// other is a point that isn't p.
func (g guess) other(p api.P) api.P {
	for {
		if q := g.point(); far2(p, q).Sign() != 0 {
			return q
		}
	}
}

// line through the origin, at times.
func (g guess) line() api.L {
	n := g.other(origin())
	if g.r.Intn(4) == 0 {
		return ln(n.X, n.Y, "0")
	}
	return ln(n.X, n.Y, g.fraction())
}

// three points that don't lie on a line.
func (g guess) three() [3]api.P {
	for {
		if l := [3]api.P{g.point(), g.point(), g.point()}; turns(l[0], l[1], l[2]).Sign() != 0 {
			return l
		}
	}
}

// any has six numbers; all goes to a line, at times.
func (g guess) any() api.A {
	a := api.A{g.fraction(), g.fraction(), g.fraction(), g.fraction(), g.fraction(), g.fraction()}
	if g.r.Intn(4) == 0 {
		k := rat(g.fraction())
		a[3], a[4] = text(times(k, rat(a[0]))), text(times(k, rat(a[1])))
	}
	return a
}

// good is a map that can be undone.
func (g guess) good() api.A {
	for {
		if a := g.any(); determinant(a).Sign() != 0 {
			return a
		}
	}
}

// unit is a complex number that is as long as 1, but isn't 1: the square of another, over the square of that one's length.
func (g guess) unit() api.P {
	for {
		p := g.other(origin())
		if rat(p.Y).Sign() == 0 {
			continue
		}
		square, k := product(p, p), dot(p, p)
		return pt(text(over(rat(square.X), k)), text(over(rat(square.Y), k)))
	}
}

// rigid is a map of that kind, and the points that stay, as Fixed is to tell them but for the line's plain form.
func (g guess) rigid(kind int) (api.A, stays) {
	m, l, shift := g.point(), g.line(), g.other(origin())
	switch kind {
	case api.Still:
		return mapOf(func(p api.P) api.P { return p }), stays{all: true}
	case api.Shift:
		return mapOf(func(p api.P) api.P { return sum(p, shift) }), stays{e: api.ErrNone}
	case api.Spin:
		z := g.unit()
		return mapOf(func(p api.P) api.P { return sum(m, product(z, minus(p, m))) }), stays{p: plain(m)}
	case api.Mirror:
		return mapOf(func(p api.P) api.P { return mirrored(l, p) }), stays{l: l, e: api.ErrFree}
	default:
		k := rat(shift.X)
		if k.Sign() == 0 {
			k = rat(shift.Y)
		}
		along := pt(text(times(k, rat(l.B))), text(times(whole(-1), k, rat(l.A))))
		return mapOf(func(p api.P) api.P { return sum(mirrored(l, p), along) }), stays{e: api.ErrNone}
	}
}

func kinds() []int { return []int{api.Still, api.Shift, api.Spin, api.Mirror, api.Glide} }
