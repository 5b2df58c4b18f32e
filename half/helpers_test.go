package half

import (
	"math/big"
	"math/rand"
	"regexp"
	"slices"
	"strconv"
	"strings"
	"testing"

	"compass/api"
)

func pt(x, y api.Q) api.P { return api.P{X: x, Y: y} }

func ln(a, b, c api.Q) api.L { return api.L{A: a, B: b, C: c} }

// halvesOf has halves of whole numbers, A, B and C in turn.
func halvesOf(l ...int) []api.L {
	var made []api.L
	told := func(n int) api.Q { return api.Q(strconv.Itoa(n)) }
	for i := 0; i < len(l); i += 3 {
		made = append(made, ln(told(l[i]), told(l[i+1]), told(l[i+2])))
	}
	return made
}

func same[T comparable](t *testing.T, what string, got, want T) {
	t.Helper()
	if got != want {
		t.Errorf("%s: %v, want %v", what, got, want)
	}
}

func sameList[T comparable](t *testing.T, what string, got, want []T) {
	t.Helper()
	if !slices.Equal(got, want) {
		t.Errorf("%s: %v, want %v", what, got, want)
	}
}

// must takes what was answered without an error.
func must[T any](t *testing.T, what string) func(got T, e api.Errno) T {
	return func(got T, e api.Errno) T {
		t.Helper()
		if e != api.OK {
			t.Fatalf("%s: error %d", what, e)
		}
		return got
	}
}

// refused checks that there is nothing beside the error.
func refused[T comparable](t *testing.T, what string, want api.Errno) func(got T, e api.Errno) {
	return func(got T, e api.Errno) {
		t.Helper()
		var nothing T
		same(t, what, got, nothing)
		same(t, what, e, want)
	}
}

// reach is all that Most answers without an error.
type reach struct {
	most    api.Q
	at      api.P
	weights []api.Q
}

func reachOf(t *testing.T, what string, l []api.L, along api.P) reach {
	t.Helper()
	most, at, weights, e := Most(l, along)
	if e != api.OK {
		t.Fatalf("%s: error %d", what, e)
	}
	return reach{most, at, weights}
}

func refusedMost(t *testing.T, what string, l []api.L, along api.P, want api.Errno) {
	t.Helper()
	most, at, weights, e := Most(l, along)
	if most != "" || at != (api.P{}) || len(weights) != 0 || e != want {
		t.Errorf("%s: %v, %v, %v, error %d, want nothing and %d", what, most, at, weights, e, want)
	}
}

// What follows is held against fractions of the library, so that a fault of the program's own can't hide on both sides.

// fractions are the texts that count as such.
var fractions = regexp.MustCompile("^-?[0-9]+(/0*[1-9][0-9]*)?$")

// rat reads in the base ten by hand: of a fraction, the library takes noughts ahead for another base.
func rat(q api.Q) *big.Rat {
	if !fractions.MatchString(string(q)) {
		return new(big.Rat)
	}
	up, low, bar := strings.Cut(string(q), "/")
	x, _ := new(big.Int).SetString(up, 10)
	y := big.NewInt(1)
	if bar {
		y.SetString(low, 10)
	}
	return new(big.Rat).SetFrac(x, y)
}

func text(r *big.Rat) api.Q { return api.Q(r.RatString()) }

func whole(n int64) *big.Rat { return big.NewRat(n, 1) }

func plus(l ...*big.Rat) *big.Rat {
	sum := new(big.Rat)
	for _, r := range l {
		sum.Add(sum, r)
	}
	return sum
}

func less(a, b *big.Rat) *big.Rat { return new(big.Rat).Sub(a, b) }

func minus(a *big.Rat) *big.Rat { return new(big.Rat).Neg(a) }

func times(a, b *big.Rat) *big.Rat { return new(big.Rat).Mul(a, b) }

// row is a half as the library's fractions.
type row [3]*big.Rat

func rowOf(l api.L) row { return row{rat(l.A), rat(l.B), rat(l.C)} }

func rowsOf(l []api.L) []row {
	var made []row
	for _, x := range l {
		made = append(made, rowOf(x))
	}
	return made
}

func (r row) text() api.L { return ln(text(r[0]), text(r[1]), text(r[2])) }

func (r row) plus(s row) row { return row{plus(r[0], s[0]), plus(r[1], s[1]), plus(r[2], s[2])} }

func (r row) times(k *big.Rat) row { return row{times(k, r[0]), times(k, r[1]), times(k, r[2])} }

// value is A x + B y + C.
func (r row) value(p api.P) *big.Rat { return plus(times(r[0], rat(p.X)), times(r[1], rat(p.Y)), r[2]) }

func inAll(l []row, p api.P) bool {
	return !slices.ContainsFunc(l, func(r row) bool { return r.value(p).Sign() < 0 })
}

// without are rows in which number i doesn't stand any more: those that had none, and of each two in which it had both signs the sum that has none (Fourier, Motzkin). They can be met just if those could.
func without(l []row, i int) []row {
	var made []row
	for _, r := range l {
		switch r[i].Sign() {
		case 0:
			made = append(made, r)
		case 1:
			for _, s := range l {
				if s[i].Sign() < 0 {
					made = append(made, r.times(minus(s[i])).plus(s.times(r[i])))
				}
			}
		}
	}
	return made
}

// meetable tells if halves have a point in common, without looking for one. A row may be flat, here.
func meetable(l []row) bool {
	bare := without(without(l, 1), 0)
	return !slices.ContainsFunc(bare, func(r row) bool { return r[2].Sign() < 0 })
}

// hellyOf goes through all threes.
func hellyOf(l []row) ([3]int, api.Errno) {
	for i := range l {
		for j := i; j < len(l); j++ {
			for k := j; k < len(l); k++ {
				if !meetable([]row{l[i], l[j], l[k]}) {
					return [3]int{i, j, k}, api.OK
				}
			}
		}
	}
	return [3]int{}, api.ErrNone
}

// errorOf is what Most answers. What grows without end does so along a way that leaves no half, wherever it starts.
func errorOf(l []row, along api.P) api.Errno {
	x, y := rat(along.X), rat(along.Y)
	ways := []row{{x, y, whole(-1)}}
	for _, r := range l {
		ways = append(ways, row{r[0], r[1], whole(0)})
	}
	switch {
	case !meetable(l):
		return api.ErrNone
	case meetable(ways):
		return api.ErrFree
	default:
		return api.OK
	}
}

// tells checks the point and the weights of an answer: together they show that there is no greater one.
func tells(t *testing.T, what string, l []row, along api.P, got reach) {
	t.Helper()
	same(t, what+": in all", inAll(l, got.at), true)
	goal := row{rat(along.X), rat(along.Y), whole(0)}
	same(t, what+": met", text(goal.value(got.at)), got.most)
	same(t, what+": a weight each", len(got.weights), len(l))
	for i, w := range got.weights[:min(len(l), len(got.weights))] {
		same(t, what+": none below 0", rat(w).Sign() >= 0, true)
		same(t, what+": lowest terms", w, text(rat(w)))
		goal = goal.plus(l[i].times(rat(w)))
	}
	same(t, what+": nothing is left of the way", goal[0].Sign() == 0 && goal[1].Sign() == 0, true)
	same(t, what+": the weights tell it", text(goal[2]), got.most)
}

// guess makes halves, the same ones each time: small ones, which often are special to each other, and long ones.
type guess struct {
	r    *rand.Rand
	size int
}

func newGuess(round int) guess {
	return guess{rand.New(rand.NewSource(int64(round))), []int{1, 1, 2, 30}[round%4]}
}

func (g guess) digits() string {
	var b strings.Builder
	for range 1 + g.r.Intn(g.size) {
		b.WriteString(strconv.Itoa(g.r.Intn(10)))
	}
	return b.String()
}

func (g guess) fraction() api.Q {
	if g.size == 1 {
		return api.Q(strconv.Itoa(g.r.Intn(7) - 3))
	}
	t := []string{"", "-"}[g.r.Intn(2)] + g.digits()
	if g.r.Intn(2) == 0 {
		t += "/" + g.digits() + strconv.Itoa(1+g.r.Intn(9))
	}
	return api.Q(t)
}

func (g guess) point() api.P { return pt(g.fraction(), g.fraction()) }

// weight is 0 at times, and never below it.
func (g guess) weight() *big.Rat { return big.NewRat(int64(g.r.Intn(4)), int64(1+g.r.Intn(3))) }

// half is one at random.
func (g guess) half() row {
	for {
		if r := rowOf(ln(g.fraction(), g.fraction(), g.fraction())); r[0].Sign() != 0 || r[1].Sign() != 0 {
			return r
		}
	}
}

// halves at random; most of them, at times, with a point in common, through it, or beside each other; at times one of them again, or its other side.
func (g guess) halves() []api.L {
	kind, p, first := g.r.Intn(5), g.point(), g.half()
	var l []api.L
	for i := range g.r.Intn(api.MaxHalves + 1) {
		r := g.half()
		switch {
		case kind == 0 && g.r.Intn(8) > 0:
			r[0], r[1] = times(first[0], r[0]), times(first[1], r[0])
			if r[0].Sign() == 0 && r[1].Sign() == 0 {
				r[0], r[1] = first[0], first[1]
			}
		case i > 0 && g.r.Intn(6) == 0:
			r = rowOf(l[g.r.Intn(i)]).times(big.NewRat(int64(1+g.r.Intn(3)), 2))
			if g.r.Intn(2) == 0 {
				r = r.times(whole(-1))
			}
		}
		switch {
		case kind == 1 && g.r.Intn(12) > 0, kind == 0 && g.r.Intn(4) > 0, kind == 2 && g.r.Intn(2) == 0:
			// It has p at its line, or as far within as may be.
			r[2] = plus(less(r[2], r.value(p)), g.weight())
		case kind == 3:
			r[2] = less(r[2], r.value(p))
		}
		l = append(l, r.text())
	}
	return l
}

// along is a way at random, at times nowhere, at times one that weights of the halves take back to 0.
func (g guess) along(l []row) api.P {
	sum := row{whole(0), whole(0), whole(0)}
	switch g.r.Intn(8) {
	case 0:
		return pt("0", "0")
	case 1, 2:
		return g.point()
	}
	for _, r := range l {
		if g.r.Intn(3) == 0 {
			sum = sum.plus(r.times(minus(g.weight())))
		}
	}
	return pt(text(sum[0]), text(sum[1]))
}
