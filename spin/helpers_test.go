package spin

import (
	"math/big"
	"math/rand"
	"strconv"
	"strings"
	"testing"

	"compass/api"
)

func qn(w, x, y, z api.Q) api.S { return api.S{W: w, X: x, Y: y, Z: z} }

func pt(x, y api.Q) api.P { return api.P{X: x, Y: y} }

func p3(x, y, z api.Q) api.P3 { return api.P3{X: x, Y: y, Z: z} }

func same[T comparable](t *testing.T, what string, got, want T) {
	t.Helper()
	if got != want {
		t.Errorf("%s: %v, want %v", what, got, want)
	}
}

// must takes what was answered without an error.
func must[T any](t *testing.T, what string) func(got T, e api.Errno) T {
	return func(got T, e api.Errno) T {
		t.Helper()
		if e != api.OK {
			t.Fatalf("%s: error %d", what, e)
		}
		return got
	}
}

// answers checks what was answered: nothing beside an error.
func answers[T comparable](t *testing.T, what string, want T, wrong api.Errno) func(got T, e api.Errno) {
	return func(got T, e api.Errno) {
		t.Helper()
		same(t, what, got, want)
		same(t, what, e, wrong)
	}
}

// What follows is held against fractions of the library, so that a fault of the program's own can't hide on both sides.

// rat reads in the base ten by hand: of a fraction, the library takes noughts ahead for another base.
func rat(q api.Q) *big.Rat {
	up, low, bar := strings.Cut(string(q), "/")
	x, _ := new(big.Int).SetString(up, 10)
	y := big.NewInt(1)
	if bar {
		y.SetString(low, 10)
	}
	return new(big.Rat).SetFrac(x, y)
}

func text(r *big.Rat) api.Q { return api.Q(r.RatString()) }

func whole(n int64) *big.Rat { return big.NewRat(n, 1) }

func plus(l ...*big.Rat) *big.Rat {
	sum := new(big.Rat)
	for _, r := range l {
		sum.Add(sum, r)
	}
	return sum
}

func less(a, b *big.Rat) *big.Rat { return new(big.Rat).Sub(a, b) }

func times(l ...*big.Rat) *big.Rat {
	product := whole(1)
	for _, r := range l {
		product.Mul(product, r)
	}
	return product
}

func over(a, b *big.Rat) *big.Rat { return new(big.Rat).Quo(a, b) }

func numbers(a api.S) [4]api.Q { return [4]api.Q{a.W, a.X, a.Y, a.Z} }

func ofNumbers(l [4]*big.Rat) api.S { return qn(text(l[0]), text(l[1]), text(l[2]), text(l[3])) }

// unitTimes is the product of two units, by the numbers of their places: the unit's place, and its sign.
func unitTimes(a, b int) (place int, sign int64) {
	switch {
	case a == 0 || b == 0:
		return a + b, 1
	case a == b:
		return 0, -1
	case b == a%3+1: // i j, j k, k i
		return 6 - a - b, 1
	default:
		return 6 - a - b, -1
	}
}

// product unit by unit.
func product(a, b api.S) api.S {
	sum := [4]*big.Rat{whole(0), whole(0), whole(0), whole(0)}
	for i, p := range numbers(a) {
		for j, q := range numbers(b) {
			place, sign := unitTimes(i, j)
			sum[place] = plus(sum[place], times(whole(sign), rat(p), rat(q)))
		}
	}
	return ofNumbers(sum)
}

func norm(a api.S) *big.Rat {
	sum := new(big.Rat)
	for _, q := range numbers(a) {
		sum = plus(sum, times(rat(q), rat(q)))
	}
	return sum
}

// many is a so many times.
func many(a api.S, k *big.Rat) api.S {
	var l [4]*big.Rat
	for i, q := range numbers(a) {
		l[i] = times(k, rat(q))
	}
	return ofNumbers(l)
}

// first of the numbers that isn't 0.
func first(a api.S) *big.Rat {
	for _, q := range numbers(a) {
		if r := rat(q); r.Sign() != 0 {
			return r
		}
	}
	return new(big.Rat)
}

// across has the way turned round.
func across(a api.S) api.S {
	l := [4]*big.Rat{rat(a.W), rat(a.X), rat(a.Y), rat(a.Z)}
	for i := 1; i < 4; i++ {
		l[i].Neg(l[i])
	}
	return ofNumbers(l)
}

func pure(v api.P3) api.S { return qn("0", v.X, v.Y, v.Z) }

// turned is a v over a, unit by unit.
func turned(a api.S, v api.P3) api.P3 {
	made := many(product(product(a, pure(v)), across(a)), over(whole(1), norm(a)))
	return p3(made.X, made.Y, made.Z)
}

// sum of ways, each so many times.
func sum(l []api.P3, k ...*big.Rat) api.P3 {
	x, y, z := new(big.Rat), new(big.Rat), new(big.Rat)
	for i, p := range l {
		x, y, z = plus(x, times(k[i], rat(p.X))), plus(y, times(k[i], rat(p.Y))), plus(z, times(k[i], rat(p.Z)))
	}
	return p3(text(x), text(y), text(z))
}

func dot(v, w api.P3) *big.Rat {
	return plus(times(rat(v.X), rat(w.X)), times(rat(v.Y), rat(w.Y)), times(rat(v.Z), rat(w.Z)))
}

func cross(v, w api.P3) api.P3 {
	made := func(a, b, c, d api.Q) api.Q { return text(less(times(rat(a), rat(d)), times(rat(b), rat(c)))) }
	return p3(made(v.Y, v.Z, w.Y, w.Z), made(v.Z, v.X, w.Z, w.X), made(v.X, v.Y, w.X, w.Y))
}

func row(t [9]api.Q, i int) api.P3 { return p3(t[3*i], t[3*i+1], t[3*i+2]) }

// applied is what t makes of v, row by row.
func applied(t [9]api.Q, v api.P3) api.P3 {
	return p3(text(dot(row(t, 0), v)), text(dot(row(t, 1), v)), text(dot(row(t, 2), v)))
}

// after is s, then t.
func after(t, s [9]api.Q) [9]api.Q {
	var made [9]api.Q
	for i := range made {
		made[i] = text(dot(row(t, i/3), p3(s[i%3], s[3+i%3], s[6+i%3])))
	}
	return made
}

// keeping: the rows are as long as 1, at right angles, and go round as the axes do.
func keeping(t [9]api.Q) bool {
	for i := range 3 {
		for j := range 3 {
			want := int64(0)
			if i == j {
				want = 1
			}
			if dot(row(t, i), row(t, j)).Cmp(whole(want)) != 0 {
				return false
			}
		}
	}
	return dot(row(t, 0), cross(row(t, 1), row(t, 2))).Sign() > 0
}

// onSphere is the point k times the way from the top to p, k being what brings it to the sphere: above 0, as no other than 0 does.
func onSphere(p api.P) api.P3 {
	// (k X)(k X) + (k Y)(k Y) + (1 - k)(1 - k) is 1: k (X X + Y Y + 1) is 2.
	k := over(whole(2), plus(times(rat(p.X), rat(p.X)), times(rat(p.Y), rat(p.Y)), whole(1)))
	return p3(text(times(k, rat(p.X))), text(times(k, rat(p.Y))), text(less(whole(1), k)))
}

func top() api.P3 { return p3("0", "0", "1") }

// guess makes quaternions, ways and points, the same ones each time: small ones, which often are special to each other, and long ones.
type guess struct {
	r    *rand.Rand
	size int
}

func newGuess(round int) guess {
	return guess{rand.New(rand.NewSource(int64(round))), []int{1, 2, 12, 40}[round%4]}
}

func (g guess) digits() string {
	var b strings.Builder
	for range 1 + g.r.Intn(g.size) {
		b.WriteString(strconv.Itoa(g.r.Intn(10)))
	}
	return b.String()
}

func (g guess) fraction() api.Q {
	if g.size == 1 {
		return api.Q(strconv.Itoa(g.r.Intn(5) - 2))
	}
	t := []string{"", "-"}[g.r.Intn(2)] + g.digits()
	if g.r.Intn(2) == 0 {
		t += "/" + g.digits() + strconv.Itoa(1+g.r.Intn(9))
	}
	return api.Q(t)
}

// more is a fraction that isn't 0.
func (g guess) more() *big.Rat {
	for {
		if r := rat(g.fraction()); r.Sign() != 0 {
			return r
		}
	}
}

// any may be 0, or have but some of the units.
func (g guess) any() api.S {
	l := [4]api.Q{g.fraction(), g.fraction(), g.fraction(), g.fraction()}
	from := max(0, g.r.Intn(8)-4)
	for i := range l {
		if i < from || g.r.Intn(5) == 0 {
			l[i] = []api.Q{"0", "-0", "00/7"}[g.r.Intn(3)]
		}
	}
	return qn(l[0], l[1], l[2], l[3])
}

// quaternion is one that isn't 0.
func (g guess) quaternion() api.S {
	for {
		if a := g.any(); norm(a).Sign() != 0 {
			return a
		}
	}
}

func (g guess) way() api.P3 { return p3(g.fraction(), g.fraction(), g.fraction()) }

func (g guess) point() api.P { return pt(g.fraction(), g.fraction()) }
