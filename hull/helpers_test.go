package hull

import (
	"math/big"
	"math/rand"
	"slices"
	"strconv"
	"strings"
	"testing"

	"compass/api"
)

func pt(x, y api.Q) api.P { return api.P{X: x, Y: y} }

// pointsOf has points of whole numbers, X and Y in turn.
func pointsOf(l ...int) []api.P {
	var made []api.P
	for i := 0; i < len(l); i += 2 {
		made = append(made, pt(api.Q(strconv.Itoa(l[i])), api.Q(strconv.Itoa(l[i+1]))))
	}
	return made
}

func same[T comparable](t *testing.T, what string, got, want T) {
	t.Helper()
	if got != want {
		t.Errorf("%s: %v, want %v", what, got, want)
	}
}

func sameList[T comparable](t *testing.T, what string, got, want []T) {
	t.Helper()
	if !slices.Equal(got, want) {
		t.Errorf("%s: %v, want %v", what, got, want)
	}
}

// must takes what was answered without an error.
func must[T any](t *testing.T, what string) func(got T, e api.Errno) T {
	return func(got T, e api.Errno) T {
		t.Helper()
		if e != api.OK {
			t.Fatalf("%s: error %d", what, e)
		}
		return got
	}
}

// refused checks that there is nothing beside the error.
func refused[T comparable](t *testing.T, what string, want api.Errno) func(got T, e api.Errno) {
	return func(got T, e api.Errno) {
		t.Helper()
		var nothing T
		same(t, what, got, nothing)
		same(t, what, e, want)
	}
}

func refusedList[T any](t *testing.T, what string, want api.Errno) func(got []T, e api.Errno) {
	return func(got []T, e api.Errno) {
		t.Helper()
		if len(got) != 0 || e != want {
			t.Errorf("%s: %v, error %d, want none and %d", what, got, e, want)
		}
	}
}

// width is all that Wide answers.
type width struct {
	far2 api.Q
	a, b int
	e    api.Errno
}

func widthOf(l []api.P) width {
	far2, a, b, e := Wide(l)
	return width{far2, a, b, e}
}

// parted is all that Part answers.
type parted struct {
	l     api.L
	both  api.P
	apart bool
	e     api.Errno
}

func partedOf(a, b []api.P) parted {
	l, both, apart, e := Part(a, b)
	return parted{l, both, apart, e}
}

// What follows is held against fractions of the library, so that a fault of the program's own can't hide on both sides.

// rat reads in the base ten by hand: of a fraction, the library takes noughts ahead for another base.
func rat(q api.Q) *big.Rat {
	up, low, bar := strings.Cut(string(q), "/")
	x, _ := new(big.Int).SetString(up, 10)
	y := big.NewInt(1)
	if bar {
		y.SetString(low, 10)
	}
	return new(big.Rat).SetFrac(x, y)
}

func text(r *big.Rat) api.Q { return api.Q(r.RatString()) }

func whole(n int64) *big.Rat { return big.NewRat(n, 1) }

func plus(l ...*big.Rat) *big.Rat {
	sum := new(big.Rat)
	for _, r := range l {
		sum.Add(sum, r)
	}
	return sum
}

func less(a, b *big.Rat) *big.Rat { return new(big.Rat).Sub(a, b) }

func times(a, b *big.Rat) *big.Rat { return new(big.Rat).Mul(a, b) }

func over(a, b *big.Rat) *big.Rat { return new(big.Rat).Quo(a, b) }

// spot is a point as the library's fractions.
type spot struct{ x, y *big.Rat }

func spotAt(p api.P) spot { return spot{rat(p.X), rat(p.Y)} }

func spotsAt(l []api.P) []spot {
	made := make([]spot, len(l))
	for i, p := range l {
		made[i] = spotAt(p)
	}
	return made
}

func (p spot) text() api.P { return pt(text(p.x), text(p.y)) }

func (p spot) plus(q spot) spot { return spot{plus(p.x, q.x), plus(p.y, q.y)} }

func (p spot) less(q spot) spot { return spot{less(p.x, q.x), less(p.y, q.y)} }

func (p spot) times(k *big.Rat) spot { return spot{times(k, p.x), times(k, p.y)} }

func (p spot) dot(q spot) *big.Rat { return plus(times(p.x, q.x), times(p.y, q.y)) }

func (p spot) cross(q spot) *big.Rat { return less(times(p.x, q.y), times(p.y, q.x)) }

// on is p and k times the way from p to q.
func (p spot) on(q spot, k *big.Rat) spot { return p.plus(q.less(p).times(k)) }

func (p spot) is(q spot) bool { return p.x.Cmp(q.x) == 0 && p.y.Cmp(q.y) == 0 }

// ahead is below 0, if p has the lesser X, or the lesser Y of one X.
func ahead(p, q spot) int {
	if order := p.x.Cmp(q.x); order != 0 {
		return order
	}
	return p.y.Cmp(q.y)
}

// turning is by how much three points turn.
func turning(a, b, c spot) *big.Rat { return b.less(a).cross(c.less(a)) }

// value is A x + B y + C.
func value(l api.L, p spot) *big.Rat {
	return plus(times(rat(l.A), p.x), times(rat(l.B), p.y), rat(l.C))
}

// onEdge tells if p is a point between a and b, or one of them.
func onEdge(a, b, p spot) bool {
	return turning(a, b, p).Sign() == 0 && a.less(p).dot(b.less(p)).Sign() <= 0
}

// inThree tells if p lies in the hull of three, which may lie on a line or be one: by its weights, if they don't.
func inThree(a, b, c, p spot) bool {
	all := turning(a, b, c)
	if all.Sign() == 0 {
		return onEdge(a, b, p) || onEdge(b, c, p) || onEdge(c, a, p)
	}
	for _, part := range []*big.Rat{turning(p, b, c), turning(a, p, c), turning(a, b, p)} {
		if over(part, all).Sign() < 0 {
			return false
		}
	}
	return true
}

// firstThree are the first in whose hull p lies.
func firstThree(l []spot, p spot) ([3]int, bool) {
	for i := range l {
		for j := i; j < len(l); j++ {
			for k := j; k < len(l); k++ {
				if inThree(l[i], l[j], l[k], p) {
					return [3]int{i, j, k}, true
				}
			}
		}
	}
	return [3]int{}, false
}

// inHull goes through all threes.
func inHull(l []spot, p spot) bool {
	_, ok := firstThree(l, p)
	return ok
}

// deepWithin tells if each line through p, and one of the points that isn't p, has points on both sides: so each line through p has.
func deepWithin(l []spot, p spot) bool {
	lines := 0
	for _, q := range l {
		if q.is(p) {
			continue
		}
		lines++
		left := slices.ContainsFunc(l, func(r spot) bool { return turning(p, q, r).Sign() > 0 })
		right := slices.ContainsFunc(l, func(r spot) bool { return turning(p, q, r).Sign() < 0 })
		if !left || !right {
			return false
		}
	}
	return lines > 0
}

// sideIn needs no corners.
func sideIn(l []spot, p spot) int {
	switch {
	case deepWithin(l, p):
		return 1
	case inHull(l, p):
		return 0
	default:
		return -1
	}
}

// without are all points that aren't p.
func without(l []spot, p spot) []spot {
	return slices.DeleteFunc(slices.Clone(l), func(q spot) bool { return q.is(p) })
}

// cornersOf are the points that don't lie in the hull of all others, told once each; the first one sees the others in their order.
func cornersOf(l []spot) []api.P {
	var corners []spot
	for _, p := range l {
		told := slices.ContainsFunc(corners, p.is)
		if !told && !inHull(without(l, p), p) {
			corners = append(corners, p)
		}
	}
	slices.SortFunc(corners, ahead)
	first := corners[0]
	slices.SortFunc(corners[1:], func(p, q spot) int { return -turning(first, p, q).Sign() })
	var made []api.P
	for _, p := range corners {
		made = append(made, p.text())
	}
	return made
}

// widthIn is in the words of the document.
func widthIn(l []spot) width {
	far2, made := whole(0), width{}
	for i, p := range l {
		for j, q := range l[:i] {
			way := p.less(q)
			order := way.dot(way).Cmp(far2)
			earlier := j < made.a || j == made.a && i < made.b
			if order > 0 || order == 0 && far2.Sign() > 0 && earlier {
				far2, made.a, made.b = way.dot(way), j, i
			}
		}
	}
	made.far2 = text(far2)
	return made
}

// strip is the square of the distance of the lines along a way that isn't nowhere, between which all lie.
func strip(l []spot, along spot) *big.Rat {
	low, high := along.cross(l[0]), along.cross(l[0])
	for _, p := range l {
		if v := along.cross(p); v.Cmp(low) < 0 {
			low = v
		} else if v.Cmp(high) > 0 {
			high = v
		}
	}
	far := less(high, low)
	return over(times(far, far), along.dot(along))
}

// narrowOf goes through the ways from each point to each other: those along the edges are among them.
func narrowOf(l []spot) *big.Rat {
	var least *big.Rat
	for i, p := range l {
		for _, q := range l[:i] {
			if p.is(q) {
				continue
			}
			if now := strip(l, p.less(q)); least == nil || now.Cmp(least) < 0 {
				least = now
			}
		}
	}
	if least == nil {
		return whole(0)
	}
	return least
}

// layersOf is in the words of the document.
func layersOf(l []spot) []int {
	layers := make([]int, len(l))
	for layer := 1; slices.Contains(layers, 0); layer++ {
		var left []spot
		for i, p := range l {
			if layers[i] == 0 {
				left = append(left, p)
			}
		}
		for i, p := range l {
			if layers[i] == 0 && !deepWithin(left, p) {
				layers[i] = layer
			}
		}
	}
	return layers
}

// crossing tells if two edges have a point in common.
func crossing(a, b, c, d spot) bool {
	if onEdge(a, b, c) || onEdge(a, b, d) || onEdge(c, d, a) || onEdge(c, d, b) {
		return true
	}
	return turning(a, b, c).Sign()*turning(a, b, d).Sign() < 0 && turning(c, d, a).Sign()*turning(c, d, b).Sign() < 0
}

// touching tells if the hulls of two parts of four have a point in common.
func touching(one, other []spot) bool {
	switch len(one) {
	case 1:
		return inHull(other, one[0])
	case 2:
		return crossing(one[0], one[1], other[0], other[1])
	default:
		return inHull(one, other[0])
	}
}

// radonOf goes through all parts, from the least number on.
func radonOf(l [4]spot) [4]bool {
	for _, part := range [][4]bool{
		{true}, {true, true}, {true, false, true}, {true, true, true}, {true, false, false, true}, {true, true, false, true}, {true, false, true, true},
	} {
		if one, other := partsOf(l, part); touching(one, other) {
			return part
		}
	}
	return [4]bool{}
}

func partsOf(l [4]spot, part [4]bool) (one, other []spot) {
	for i, p := range l {
		if part[i] {
			one = append(one, p)
		} else {
			other = append(other, p)
		}
	}
	return one, other
}

// guess makes points, the same ones each time: small ones, which often are special to each other, and long ones.
type guess struct {
	r    *rand.Rand
	size int
}

func newGuess(round int) guess {
	return guess{rand.New(rand.NewSource(int64(round))), []int{1, 1, 2, 30}[round%4]}
}

func (g guess) digits() string {
	var b strings.Builder
	for range 1 + g.r.Intn(g.size) {
		b.WriteString(strconv.Itoa(g.r.Intn(10)))
	}
	return b.String()
}

func (g guess) fraction() api.Q {
	if g.size == 1 {
		return api.Q(strconv.Itoa(g.r.Intn(7) - 3))
	}
	t := []string{"", "-"}[g.r.Intn(2)] + g.digits()
	if g.r.Intn(2) == 0 {
		t += "/" + g.digits() + strconv.Itoa(1+g.r.Intn(9))
	}
	return api.Q(t)
}

func (g guess) point() api.P { return pt(g.fraction(), g.fraction()) }

// points at random; at times on a line, at times one of them again and again.
func (g guess) points(most int) []api.P {
	l := make([]api.P, 1+g.r.Intn(most))
	kind := g.r.Intn(8)
	p, q := spotAt(g.point()), spotAt(g.point())
	for i := range l {
		switch {
		case kind == 0:
			l[i] = p.on(q, rat(g.fraction())).text()
		case i > 0 && g.r.Intn(8) == 0:
			l[i] = l[g.r.Intn(i)]
		default:
			l[i] = g.point()
		}
	}
	return l
}

// nearby is a point at random, one of those, one on the line of two of them, or a mean of three.
func (g guess) nearby(l []api.P) spot {
	any := func() spot { return spotAt(l[g.r.Intn(len(l))]) }
	a, b := any(), any()
	switch g.r.Intn(6) {
	case 0:
		return a
	case 1:
		return a.on(b, big.NewRat(int64(g.r.Intn(5)), 4))
	case 2:
		return a.on(b, rat(g.fraction()))
	case 3:
		return a.plus(b).plus(any()).times(big.NewRat(1, 3))
	default:
		return spotAt(g.point())
	}
}

// mixed has the points in another order.
func (g guess) mixed(l []api.P) []api.P {
	l = slices.Clone(l)
	g.r.Shuffle(len(l), func(i, j int) { l[i], l[j] = l[j], l[i] })
	return l
}
