package poly

import (
	"math/big"
	"math/rand"
	"slices"
	"strconv"
	"strings"
	"testing"

	"compass/api"
)

func pt(x, y api.Q) api.P { return api.P{X: x, Y: y} }

func ln(a, b, c api.Q) api.L { return api.L{A: a, B: b, C: c} }

// at is a point of whole numbers.
func at(x, y int) api.P { return pt(api.Q(strconv.Itoa(x)), api.Q(strconv.Itoa(y))) }

// ringOf has its corners as whole numbers, X and Y in turn.
func ringOf(l ...int) []api.P {
	var made []api.P
	for i := 0; i < len(l); i += 2 {
		made = append(made, at(l[i], l[i+1]))
	}
	return made
}

func same[T comparable](t *testing.T, what string, got, want T) {
	t.Helper()
	if got != want {
		t.Errorf("%s: %v, want %v", what, got, want)
	}
}

func sameList[T comparable](t *testing.T, what string, got, want []T) {
	t.Helper()
	if !slices.Equal(got, want) {
		t.Errorf("%s: %v, want %v", what, got, want)
	}
}

// must takes what was answered without an error.
func must[T any](t *testing.T, what string) func(got T, e api.Errno) T {
	return func(got T, e api.Errno) T {
		t.Helper()
		if e != api.OK {
			t.Fatalf("%s: error %d", what, e)
		}
		return got
	}
}

// refused checks that there is nothing beside the error.
func refused[T comparable](t *testing.T, what string, want api.Errno) func(got T, e api.Errno) {
	return func(got T, e api.Errno) {
		t.Helper()
		var nothing T
		same(t, what, got, nothing)
		same(t, what, e, want)
	}
}

func refusedList[T any](t *testing.T, what string, want api.Errno) func(got []T, e api.Errno) {
	return func(got []T, e api.Errno) {
		t.Helper()
		if len(got) != 0 || e != want {
			t.Errorf("%s: %v, error %d, want none and %d", what, got, e, want)
		}
	}
}

// counted is all that Grid answers.
type counted struct {
	within, on int
	e          api.Errno
}

func countedOf(l []api.P) counted {
	within, on, e := Grid(l)
	return counted{within, on, e}
}

// What follows is held against fractions of the library, so that a fault of the program's own can't hide on both sides.

// rat reads in the base ten by hand: of a fraction, the library takes noughts ahead for another base.
func rat(q api.Q) *big.Rat {
	up, low, bar := strings.Cut(string(q), "/")
	x, _ := new(big.Int).SetString(up, 10)
	y := big.NewInt(1)
	if bar {
		y.SetString(low, 10)
	}
	return new(big.Rat).SetFrac(x, y)
}

func text(r *big.Rat) api.Q { return api.Q(r.RatString()) }

func whole(n int64) *big.Rat { return big.NewRat(n, 1) }

func plus(l ...*big.Rat) *big.Rat {
	sum := new(big.Rat)
	for _, r := range l {
		sum.Add(sum, r)
	}
	return sum
}

func less(a, b *big.Rat) *big.Rat { return new(big.Rat).Sub(a, b) }

func times(a, b *big.Rat) *big.Rat { return new(big.Rat).Mul(a, b) }

func over(a, b *big.Rat) *big.Rat { return new(big.Rat).Quo(a, b) }

// spot is a point as the library's fractions.
type spot struct{ x, y *big.Rat }

func spotOf(p api.P) spot { return spot{rat(p.X), rat(p.Y)} }

func spotsOf(l []api.P) []spot {
	made := make([]spot, len(l))
	for i, p := range l {
		made[i] = spotOf(p)
	}
	return made
}

func (p spot) text() api.P { return pt(text(p.x), text(p.y)) }

func (p spot) plus(q spot) spot { return spot{plus(p.x, q.x), plus(p.y, q.y)} }

func (p spot) less(q spot) spot { return spot{less(p.x, q.x), less(p.y, q.y)} }

func (p spot) times(k *big.Rat) spot { return spot{times(k, p.x), times(k, p.y)} }

func (p spot) cross(q spot) *big.Rat { return less(times(p.x, q.y), times(p.y, q.x)) }

// on is p and k times the way from p to q.
func (p spot) on(q spot, k *big.Rat) spot { return p.plus(q.less(p).times(k)) }

func (p spot) is(q spot) bool { return p.x.Cmp(q.x) == 0 && p.y.Cmp(q.y) == 0 }

// turning is by how much three points turn.
func turning(a, b, c spot) *big.Rat { return b.less(a).cross(c.less(a)) }

// value is A x + B y + C.
func value(l api.L, p spot) *big.Rat {
	return plus(times(rat(l.A), p.x), times(rat(l.B), p.y), rat(l.C))
}

// fan is twice the area, by triangles with the first corner.
func fan(l []spot) *big.Rat {
	sum := whole(0)
	for i := 1; i+1 < len(l); i++ {
		sum = plus(sum, turning(l[0], l[i], l[i+1]))
	}
	return sum
}

// part is which part of the way from a to b, which aren't one, leads to p of their line.
func part(a, b, p spot) *big.Rat {
	if a.x.Cmp(b.x) != 0 {
		return over(less(p.x, a.x), less(b.x, a.x))
	}
	return over(less(p.y, a.y), less(b.y, a.y))
}

// inUnit tells if k is 0 to 1.
func inUnit(k *big.Rat) bool { return k.Sign() >= 0 && k.Cmp(whole(1)) <= 0 }

// onEdge tells if p is a point of the edge from a to b, which aren't one.
func onEdge(a, b, p spot) bool { return turning(a, b, p).Sign() == 0 && inUnit(part(a, b, p)) }

// common is how many points two edges have in common, neither of which is a point: 0, 1, or 2 for more.
func common(a, b, c, d spot) int {
	whole, first, second := b.less(a).cross(d.less(c)), c.less(a).cross(d.less(c)), c.less(a).cross(b.less(a))
	if whole.Sign() != 0 {
		return count2(inUnit(over(first, whole)) && inUnit(over(second, whole)))
	}
	if second.Sign() != 0 {
		return 0
	}
	from, to := part(a, b, c), part(a, b, d)
	if from.Cmp(to) > 0 {
		from, to = to, from
	}
	switch low, high := to.Sign(), from.Cmp(big.NewRat(1, 1)); {
	case low < 0 || high > 0:
		return 0
	case low == 0 || high == 0:
		return 1
	default:
		return 2
	}
}

// count2 is where a thing is counted: in the second place, if it holds.
func count2(holds bool) int {
	if holds {
		return 1
	}
	return 0
}

// isSimple is in the words of the document.
func isSimple(l []spot) bool {
	n := len(l)
	for i, p := range l {
		if p.is(l[(i+1)%n]) {
			return false
		}
	}
	for i := range l {
		for j := range i {
			want := count2(i == j+1 || j == 0 && i == n-1)
			if common(l[i], l[(i+1)%n], l[j], l[(j+1)%n]) != want {
				return false
			}
		}
	}
	return true
}

// sideOf looks from p along a way that meets no corner, and counts the edges that are met.
func sideOf(l []spot, p spot) int {
	n := len(l)
	for i, a := range l {
		if onEdge(a, l[(i+1)%n], p) {
			return 0
		}
	}
	far := p.plus(spot{whole(3), whole(1)})
	for slices.ContainsFunc(l, func(a spot) bool { return turning(p, far, a).Sign() == 0 }) {
		far = far.plus(spot{whole(0), whole(1)})
	}
	side := -1
	for i, a := range l {
		b := l[(i+1)%n]
		here, there := turning(p, far, a), turning(p, far, b)
		if here.Sign() != there.Sign() && a.on(b, over(here, less(here, there))).x.Cmp(p.x) > 0 {
			side = -side
		}
	}
	return side
}

// isConvex: all other corners lie on one side of each edge.
func isConvex(l []spot) bool {
	n, way := len(l), turning(l[0], l[1], l[2]).Sign()
	for i, a := range l {
		for j := 2; j < n; j++ {
			if turning(a, l[(i+1)%n], l[(i+j)%n]).Sign() != way {
				return false
			}
		}
	}
	return way != 0
}

// inTriangle tells if p lies in it, or on its edges: none of its three weights is below 0.
func inTriangle(a, b, c, p spot) bool {
	all := turning(a, b, c)
	for _, part := range []*big.Rat{turning(p, b, c), turning(a, p, c), turning(a, b, p)} {
		if over(part, all).Sign() < 0 {
			return false
		}
	}
	return true
}

// isEarOf is asked of the corners that are left.
func isEarOf(l []spot, left []int, i int) bool {
	n := len(left)
	before, behind := (i+n-1)%n, (i+1)%n
	a, b, c := l[left[before]], l[left[i]], l[left[behind]]
	var now []spot
	for _, k := range left {
		now = append(now, l[k])
	}
	if turning(a, b, c).Sign() != fan(now).Sign() {
		return false
	}
	for k, p := range now {
		if k != before && k != i && k != behind && inTriangle(a, b, c, p) {
			return false
		}
	}
	return true
}

// earsOf is in the words of the document.
func earsOf(l []spot) [][3]int {
	var left []int
	for i := range l {
		left = append(left, i)
	}
	var ears [][3]int
	for len(left) > 3 {
		n := len(left)
		for i := range left {
			if isEarOf(l, left, i) {
				ears = append(ears, [3]int{left[(i+n-1)%n], left[i], left[(i+1)%n]})
				left = slices.Concat(left[:i], left[i+1:])
				break
			}
		}
		if len(left) == n {
			return nil
		}
	}
	return append(ears, [3]int{left[0], left[1], left[2]})
}

// counts goes through all points of whole numbers.
func counts(l [][2]int) (within, on int) {
	for x := -api.MaxGrid; x <= api.MaxGrid; x++ {
		for y := -api.MaxGrid; y <= api.MaxGrid; y++ {
			switch sideOfWhole(l, x, y) {
			case 0:
				on++
			case 1:
				within++
			}
		}
	}
	return within, on
}

// sideOfWhole looks straight up from a point.
func sideOfWhole(l [][2]int, x, y int) int {
	side := -1
	for i, a := range l {
		b := l[(i+1)%len(l)]
		if a[0] > b[0] {
			a, b = b, a
		}
		turn := (b[0]-a[0])*(y-a[1]) - (b[1]-a[1])*(x-a[0])
		if turn == 0 && a[0] <= x && x <= b[0] && min(a[1], b[1]) <= y && y <= max(a[1], b[1]) {
			return 0
		}
		if a[0] <= x && x < b[0] && turn < 0 {
			side = -side
		}
	}
	return side
}

// guess makes rings, points and lines, the same ones each time: small ones, which often are special to each other, and long ones.
type guess struct {
	r    *rand.Rand
	size int
}

func newGuess(round int) guess {
	return guess{rand.New(rand.NewSource(int64(round))), []int{1, 1, 2, 30}[round%4]}
}

func (g guess) digits() string {
	var b strings.Builder
	for range 1 + g.r.Intn(g.size) {
		b.WriteString(strconv.Itoa(g.r.Intn(10)))
	}
	return b.String()
}

func (g guess) fraction() api.Q {
	if g.size == 1 {
		return api.Q(strconv.Itoa(g.r.Intn(7) - 3))
	}
	t := []string{"", "-"}[g.r.Intn(2)] + g.digits()
	if g.r.Intn(2) == 0 {
		t += "/" + g.digits() + strconv.Itoa(1+g.r.Intn(9))
	}
	return api.Q(t)
}

func (g guess) point() api.P { return pt(g.fraction(), g.fraction()) }

func (g guess) points(n int) []api.P {
	l := make([]api.P, n)
	for i := range l {
		l[i] = g.point()
	}
	return l
}

func (g guess) line() api.L {
	for {
		if l := ln(g.fraction(), g.fraction(), g.fraction()); rat(l.A).Sign() != 0 || rat(l.B).Sign() != 0 {
			return l
		}
	}
}

// simple ring: it grows by corners between two others, as long as it stays simple.
func (g guess) simple() []api.P {
	l := g.points(3)
	for turning(spotOf(l[0]), spotOf(l[1]), spotOf(l[2])).Sign() == 0 {
		l = g.points(3)
	}
	n := 3 + g.r.Intn(api.MaxCorners-2)
	for range 60 {
		if len(l) == n {
			break
		}
		if grown := slices.Insert(slices.Clone(l), g.r.Intn(len(l)+1), g.point()); isSimple(spotsOf(grown)) {
			l = grown
		}
	}
	return l
}

// convex ring against the clock: it grows likewise.
func (g guess) convex() []api.P {
	l := g.points(3)
	for turning(spotOf(l[0]), spotOf(l[1]), spotOf(l[2])).Sign() <= 0 {
		l = g.points(3)
	}
	n := 3 + g.r.Intn(api.MaxCorners-2)
	for range 40 {
		if len(l) == n {
			break
		}
		grown := slices.Insert(slices.Clone(l), g.r.Intn(len(l)+1), g.point())
		if s := spotsOf(grown); isConvex(s) && isSimple(s) {
			l = grown
		}
	}
	return l
}
