package grid

import (
	"math/big"
	"math/rand"
	"regexp"
	"slices"
	"strconv"
	"strings"
	"testing"

	"compass/api"
)

func pt(x, y api.Q) api.P { return api.P{X: x, Y: y} }

func same[T comparable](t *testing.T, what string, got, want T) {
	t.Helper()
	if got != want {
		t.Errorf("%s: %v, want %v", what, got, want)
	}
}

func sameList[T comparable](t *testing.T, what string, got, want []T) {
	t.Helper()
	if !slices.Equal(got, want) {
		t.Errorf("%s: %v, want %v", what, got, want)
	}
}

// must takes what was answered without an error.
func must[T any](t *testing.T, what string) func(got T, e api.Errno) T {
	return func(got T, e api.Errno) T {
		t.Helper()
		if e != api.OK {
			t.Fatalf("%s: error %d", what, e)
		}
		return got
	}
}

// refused checks that there is nothing beside the error.
func refused[T any](t *testing.T, what string, want api.Errno) func(got []T, e api.Errno) {
	return func(got []T, e api.Errno) {
		t.Helper()
		if len(got) != 0 || e != want {
			t.Errorf("%s: %v, error %d, want none and %d", what, got, e, want)
		}
	}
}

func refusedStand(t *testing.T, what string, want api.Errno, runs []int) {
	t.Helper()
	got, e := Stand(runs)
	same(t, what, got, "")
	same(t, what, e, want)
}

func refusedShort(t *testing.T, what string, want api.Errno, a, b api.P) {
	t.Helper()
	u, v, e := Short(a, b)
	same(t, what, u, api.P{})
	same(t, what, v, api.P{})
	same(t, what, e, want)
}

func fareyOf(t *testing.T, n int) []api.Q {
	t.Helper()
	return must[[]api.Q](t, "farey")(Farey(n))
}

func pathOf(t *testing.T, q api.Q) []int {
	t.Helper()
	return must[[]int](t, "path of "+string(q))(Path(q))
}

func standOf(t *testing.T, runs []int) api.Q {
	t.Helper()
	return must[api.Q](t, "stand")(Stand(runs))
}

func nearOf(t *testing.T, q api.Q) []api.Q {
	t.Helper()
	return must[[]api.Q](t, "near "+string(q))(Near(q))
}

func shortOf(t *testing.T, a, b api.P) (u, v api.P) {
	t.Helper()
	u, v, e := Short(a, b)
	if e != api.OK {
		t.Fatalf("short of %v, %v: error %d", a, b, e)
	}
	return u, v
}

// What follows is held against fractions of the library, so that a fault of the program's own can't hide on both sides.

// fractions are the texts that count as such.
var fractions = regexp.MustCompile("^-?[0-9]+(/0*[1-9][0-9]*)?$")

// rat reads in the base ten by hand: of a fraction, the library takes noughts ahead for another base.
func rat(q api.Q) *big.Rat {
	if !fractions.MatchString(string(q)) {
		return new(big.Rat)
	}
	up, low, bar := strings.Cut(string(q), "/")
	x, _ := new(big.Int).SetString(up, 10)
	y := big.NewInt(1)
	if bar {
		y.SetString(low, 10)
	}
	return new(big.Rat).SetFrac(x, y)
}

func text(r *big.Rat) api.Q { return api.Q(r.RatString()) }

func whole64(n int64) *big.Rat { return big.NewRat(n, 1) }

func plus(a, b *big.Rat) *big.Rat { return new(big.Rat).Add(a, b) }

func less(a, b *big.Rat) *big.Rat { return new(big.Rat).Sub(a, b) }

func times(a, b *big.Rat) *big.Rat { return new(big.Rat).Mul(a, b) }

func over(a, b *big.Rat) *big.Rat { return new(big.Rat).Quo(a, b) }

func upside(a *big.Rat) *big.Rat { return new(big.Rat).Inv(a) }

// down is the greatest whole number that isn't greater.
func down(a *big.Rat) *big.Rat {
	return new(big.Rat).SetInt(new(big.Int).Div(a.Num(), a.Denom()))
}

// lower is the lower number in lowest terms.
func lower(q api.Q) *big.Rat { return new(big.Rat).SetInt(rat(q).Denom()) }

func upper(q api.Q) *big.Rat { return new(big.Rat).SetInt(rat(q).Num()) }

// across is upper times lower number less lower times upper one: of neighbours it is 1 or - 1.
func across(a, b api.Q) *big.Rat { return less(times(upper(b), lower(a)), times(upper(a), lower(b))) }

// fareyIn is all fractions, each lower number with each upper one, sorted, each once.
func fareyIn(n int) []api.Q {
	var all []*big.Rat
	for low := 1; low <= n; low++ {
		for up := 0; up <= low; up++ {
			all = append(all, big.NewRat(int64(up), int64(low)))
		}
	}
	slices.SortFunc(all, (*big.Rat).Cmp)
	var told []api.Q
	for _, r := range all {
		told = append(told, text(r))
	}
	return slices.Compact(told)
}

// pathIn goes step by step, from one that stands between two to the next.
func pathIn(q *big.Rat) []int {
	low, high := [2]*big.Int{big.NewInt(0), big.NewInt(1)}, [2]*big.Int{big.NewInt(1), big.NewInt(0)}
	runs := []int{0}
	for {
		at := [2]*big.Int{new(big.Int).Add(low[0], high[0]), new(big.Int).Add(low[1], high[1])}
		order := q.Cmp(new(big.Rat).SetFrac(at[0], at[1]))
		if order == 0 {
			return runs
		}
		// Runs at even places go to more, those at odd ones to less.
		if (len(runs)%2 == 1) != (order > 0) {
			runs = append(runs, 0)
		}
		runs[len(runs)-1]++
		if order > 0 {
			low = at
		} else {
			high = at
		}
	}
}

// standIn goes from the last run to the first: all that stands beyond so many steps to more is more by that, and what is below 1 is upside down.
func standIn(runs []int) api.Q {
	at := whole64(1)
	for i := len(runs) - 1; i >= 0; i-- {
		run := whole64(int64(runs[i]))
		if i%2 == 0 {
			at = plus(at, run)
		} else {
			at = upside(plus(upside(at), run))
		}
	}
	return text(at)
}

// numbersIn is q's continued fraction.
func numbersIn(q *big.Rat) []*big.Rat {
	numbers := []*big.Rat{down(q)}
	for rest := less(q, down(q)); rest.Sign() != 0; rest = less(upside(rest), down(upside(rest))) {
		numbers = append(numbers, down(upside(rest)))
	}
	return numbers
}

// nearIn folds each cut of the continued fraction from its end on.
func nearIn(q *big.Rat) []api.Q {
	numbers := numbersIn(q)
	var told []api.Q
	for i := range numbers {
		at := numbers[i]
		for j := i - 1; j >= 0; j-- {
			at = plus(numbers[j], upside(at))
		}
		told = append(told, text(at))
	}
	return told
}

// spotAs is a point as the library's fractions.
type spotAs struct{ x, y *big.Rat }

func spotAt(p api.P) spotAs { return spotAs{rat(p.X), rat(p.Y)} }

func (p spotAs) text() api.P { return pt(text(p.x), text(p.y)) }

func (p spotAs) plus(q spotAs) spotAs { return spotAs{plus(p.x, q.x), plus(p.y, q.y)} }

func (p spotAs) less(q spotAs) spotAs { return spotAs{less(p.x, q.x), less(p.y, q.y)} }

func (p spotAs) times(k *big.Rat) spotAs { return spotAs{times(k, p.x), times(k, p.y)} }

func (p spotAs) dot(q spotAs) *big.Rat { return plus(times(p.x, q.x), times(p.y, q.y)) }

func (p spotAs) cross(q spotAs) *big.Rat { return less(times(p.x, q.y), times(p.y, q.x)) }

// nearestIn tries the whole number down and the next one.
func nearestIn(r *big.Rat) *big.Rat {
	low := down(r)
	high := plus(low, whole64(1))
	if less(high, r).Cmp(less(r, low)) < 0 {
		return high
	}
	return low
}

// shortIn does what the document's words say.
func shortIn(u, v spotAs) (spotAs, spotAs) {
	for {
		if u.dot(u).Cmp(v.dot(v)) > 0 {
			u, v = v, u
		}
		often := nearestIn(over(u.dot(v), u.dot(u)))
		if often.Sign() == 0 {
			return u, v
		}
		v = v.less(u.times(often))
	}
}

// guess makes numbers, the same ones each time: small ones, which often are special to each other, and long ones.
type guess struct {
	r    *rand.Rand
	size int
}

func newGuess(round int) guess {
	return guess{rand.New(rand.NewSource(int64(round))), []int{1, 2, 5, 25}[round%4]}
}

func (g guess) digits() string {
	var b strings.Builder
	for range 1 + g.r.Intn(g.size) {
		b.WriteString(strconv.Itoa(g.r.Intn(10)))
	}
	return b.String()
}

// above is above 0, and its text isn't too long.
func (g guess) above() api.Q {
	t := g.digits() + strconv.Itoa(1+g.r.Intn(9))
	if g.r.Intn(4) > 0 {
		t += "/" + g.digits() + strconv.Itoa(1+g.r.Intn(9))
	}
	return api.Q(t)
}

func (g guess) fraction() api.Q {
	switch g.r.Intn(5) {
	case 0:
		return api.Q(g.digits())
	case 1, 2:
		return "-" + g.above()
	default:
		return g.above()
	}
}

func (g guess) wholeNumber() api.Q { return api.Q([]string{"", "-"}[g.r.Intn(2)] + g.digits()) }

func (g guess) spot() api.P { return pt(g.wholeNumber(), g.wholeNumber()) }

// runs, many of them 0, some great.
func (g guess) runs() []int {
	runs := make([]int, g.r.Intn(api.MaxTimes+1))
	for i := range runs {
		runs[i] = []int{0, 1, g.r.Intn(10), g.r.Int()}[g.r.Intn(4)]
	}
	return runs
}
