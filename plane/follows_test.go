package plane

import (
	"math/big"
	"math/rand"
	"strconv"
	"strings"
	"testing"

	"compass/api"
)

// What follows for all points (P1.4) is held against fractions of the library, so that a fault of the program's own can't hide on both sides.

// rat reads in the base ten by hand: of a fraction, the library takes noughts ahead for another base.
func rat(q api.Q) *big.Rat {
	up, low, bar := strings.Cut(string(q), "/")
	x, _ := new(big.Int).SetString(up, 10)
	y := big.NewInt(1)
	if bar {
		y.SetString(low, 10)
	}
	return new(big.Rat).SetFrac(x, y)
}

func plus(l ...*big.Rat) *big.Rat {
	sum := new(big.Rat)
	for _, r := range l {
		sum.Add(sum, r)
	}
	return sum
}

func times(l ...*big.Rat) *big.Rat {
	product := big.NewRat(1, 1)
	for _, r := range l {
		product.Mul(product, r)
	}
	return product
}

func less(a, b *big.Rat) *big.Rat { return new(big.Rat).Sub(a, b) }

func sameRat(t *testing.T, what string, got, want *big.Rat) {
	t.Helper()
	if got.Cmp(want) != 0 {
		t.Errorf("%s: %s, want %s", what, got.RatString(), want.RatString())
	}
}

// guess makes points, the same ones each time: small ones, where some lie on a line or are one, and long ones.
type guess struct {
	r    *rand.Rand
	size int
}

func newGuess(round int) guess {
	return guess{rand.New(rand.NewSource(int64(round))), []int{1, 3, 30, 300}[round%4]}
}

func (g guess) digits() string {
	var b strings.Builder
	for range 1 + g.r.Intn(g.size) {
		b.WriteString(strconv.Itoa(g.r.Intn(10)))
	}
	return b.String()
}

func (g guess) fraction() api.Q {
	t := []string{"", "-"}[g.r.Intn(2)] + g.digits()
	if g.r.Intn(2) == 0 {
		t += "/" + g.digits() + strconv.Itoa(1+g.r.Intn(9))
	}
	return api.Q(t)
}

func (g guess) point() api.P { return pt(g.fraction(), g.fraction()) }

func TestStewart(t *testing.T) {
	for i := range 80 {
		g := newGuess(i)
		a, b, c, k := g.point(), g.point(), g.point(), g.fraction()
		p := At(a, b, k)
		rest := less(big.NewRat(1, 1), rat(k))
		want := plus(times(rest, rat(Far2(c, a))), times(rat(k), rat(Far2(c, b))))
		want.Sub(want, times(rat(k), rest, rat(Far2(a, b))))
		sameRat(t, "Stewart", rat(Far2(c, p)), want)
	}
}

func TestLeibniz(t *testing.T) {
	for i := range 80 {
		g := newGuess(i)
		p := g.point()
		l := make([]api.P, 1+g.r.Intn(api.MaxPoints))
		w := make([]api.Q, len(l))
		total := new(big.Rat)
		for j := range l {
			l[j], w[j] = g.point(), g.fraction()
			total.Add(total, rat(w[j]))
		}
		m, e := Mean(l, w)
		if total.Sign() == 0 {
			same(t, "together 0", e, api.ErrNone)
			continue
		}
		same(t, "mean", e, api.OK)
		fromP, fromM := new(big.Rat), new(big.Rat)
		for j := range l {
			fromP.Add(fromP, times(rat(w[j]), rat(Far2(p, l[j]))))
			fromM.Add(fromM, times(rat(w[j]), rat(Far2(m, l[j]))))
		}
		sameRat(t, "Leibniz", fromP, plus(fromM, times(total, rat(Far2(p, m)))))
	}
}

func TestVarignon(t *testing.T) {
	for i := range 80 {
		g := newGuess(i)
		c := [4]api.P{g.point(), g.point(), g.point(), g.point()}
		var m [4]api.P
		for j := range c {
			m[j] = At(c[j], c[(j+1)%4], "1/2")
		}
		for j := range 2 {
			a, b, c, d := m[j], m[j+1], m[(j+3)%4], m[j+2]
			sameRat(t, "Varignon, X", less(rat(b.X), rat(a.X)), less(rat(d.X), rat(c.X)))
			sameRat(t, "Varignon, Y", less(rat(b.Y), rat(a.Y)), less(rat(d.Y), rat(c.Y)))
		}
	}
}

func TestHeron(t *testing.T) {
	four := big.NewRat(4, 1)
	for i := range 80 {
		g := newGuess(i)
		a, b, c := g.point(), g.point(), g.point()
		x, y, z := rat(Far2(b, c)), rat(Far2(c, a)), rat(Far2(a, b))
		across := less(plus(x, y), z)
		area := rat(Area2(a, b, c))
		sameRat(t, "Heron", times(four, area, area), less(times(four, x, y), times(across, across)))
		same(t, "turn", Turn(a, b, c), area.Sign())
		sameRat(t, "turned round", rat(Area2(b, c, a)), area)
		sameRat(t, "the other way", rat(Area2(a, c, b)), new(big.Rat).Neg(area))
	}
}
