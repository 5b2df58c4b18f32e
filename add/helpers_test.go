package add

import (
	"math/big"
	"math/rand"
	"regexp"
	"slices"
	"strconv"
	"strings"
	"testing"

	"compass/api"
)

func pt(x, y api.Q) api.P { return api.P{X: x, Y: y} }

// pointsOf has points of whole numbers, X and Y in turn.
func pointsOf(l ...int) []api.P {
	var made []api.P
	for i := 0; i < len(l); i += 2 {
		made = append(made, pt(api.Q(strconv.Itoa(l[i])), api.Q(strconv.Itoa(l[i+1]))))
	}
	return made
}

func same[T comparable](t *testing.T, what string, got, want T) {
	t.Helper()
	if got != want {
		t.Errorf("%s: %v, want %v", what, got, want)
	}
}

func sameList[T comparable](t *testing.T, what string, got, want []T) {
	t.Helper()
	if !slices.Equal(got, want) {
		t.Errorf("%s: %v, want %v", what, got, want)
	}
}

// must takes what was answered without an error.
func must[T any](t *testing.T, what string) func(got T, e api.Errno) T {
	return func(got T, e api.Errno) T {
		t.Helper()
		if e != api.OK {
			t.Fatalf("%s: error %d", what, e)
		}
		return got
	}
}

// refused checks that there is nothing beside the error.
func refused[T comparable](t *testing.T, what string, want api.Errno) func(got T, e api.Errno) {
	return func(got T, e api.Errno) {
		t.Helper()
		var nothing T
		same(t, what, got, nothing)
		same(t, what, e, want)
	}
}

func sumOf(t *testing.T, a, b []api.P) []api.P {
	t.Helper()
	return must[[]api.P](t, "sum")(Sum(a, b))
}

func area2Of(t *testing.T, a []api.P) *big.Rat {
	t.Helper()
	return rat(must[api.Q](t, "area")(Area2(a)))
}

func mixedOf(t *testing.T, a, b []api.P) *big.Rat {
	t.Helper()
	return rat(must[api.Q](t, "mixed")(Mixed(a, b)))
}

func reachOf(t *testing.T, a []api.P, along spot) *big.Rat {
	t.Helper()
	return rat(must[api.Q](t, "reach")(Reach(a, along.text())))
}

func meetOf(t *testing.T, a, b []api.P) bool {
	t.Helper()
	return must[bool](t, "meet")(Meet(a, b))
}

// What follows is held against fractions of the library, so that a fault of the program's own can't hide on both sides.

// fractions are the texts that count as such.
var fractions = regexp.MustCompile("^-?[0-9]+(/0*[1-9][0-9]*)?$")

// rat reads in the base ten by hand: of a fraction, the library takes noughts ahead for another base.
func rat(q api.Q) *big.Rat {
	if !fractions.MatchString(string(q)) {
		return new(big.Rat)
	}
	up, low, bar := strings.Cut(string(q), "/")
	x, _ := new(big.Int).SetString(up, 10)
	y := big.NewInt(1)
	if bar {
		y.SetString(low, 10)
	}
	return new(big.Rat).SetFrac(x, y)
}

func text(r *big.Rat) api.Q { return api.Q(r.RatString()) }

func whole(n int64) *big.Rat { return big.NewRat(n, 1) }

func plus(l ...*big.Rat) *big.Rat {
	sum := new(big.Rat)
	for _, r := range l {
		sum.Add(sum, r)
	}
	return sum
}

func less(a, b *big.Rat) *big.Rat { return new(big.Rat).Sub(a, b) }

func times(l ...*big.Rat) *big.Rat {
	product := whole(1)
	for _, r := range l {
		product.Mul(product, r)
	}
	return product
}

func over(a, b *big.Rat) *big.Rat { return new(big.Rat).Quo(a, b) }

// spot is a point as the library's fractions.
type spot struct{ x, y *big.Rat }

func spotAt(p api.P) spot { return spot{rat(p.X), rat(p.Y)} }

func spotsAt(l []api.P) []spot {
	made := make([]spot, len(l))
	for i, p := range l {
		made[i] = spotAt(p)
	}
	return made
}

func textsOf(l []spot) []api.P {
	made := make([]api.P, len(l))
	for i, p := range l {
		made[i] = p.text()
	}
	return made
}

// each has what is made of each point.
func each(l []api.P, make func(spot) spot) []api.P {
	s := spotsAt(l)
	for i, p := range s {
		s[i] = make(p)
	}
	return textsOf(s)
}

// longer has each point k times as far from the origin.
func longer(l []api.P, k *big.Rat) []api.P {
	return each(l, func(p spot) spot { return p.times(k) })
}

// shifted has each point shifted by the same.
func shifted(l []api.P, by spot) []api.P { return each(l, by.plus) }

func (p spot) text() api.P { return pt(text(p.x), text(p.y)) }

func (p spot) plus(q spot) spot { return spot{plus(p.x, q.x), plus(p.y, q.y)} }

func (p spot) less(q spot) spot { return spot{less(p.x, q.x), less(p.y, q.y)} }

func (p spot) times(k *big.Rat) spot { return spot{times(k, p.x), times(k, p.y)} }

func (p spot) dot(q spot) *big.Rat { return plus(times(p.x, q.x), times(p.y, q.y)) }

func (p spot) cross(q spot) *big.Rat { return less(times(p.x, q.y), times(p.y, q.x)) }

// on is p and k times the way from p to q.
func (p spot) on(q spot, k *big.Rat) spot { return p.plus(q.less(p).times(k)) }

func (p spot) is(q spot) bool { return p.x.Cmp(q.x) == 0 && p.y.Cmp(q.y) == 0 }

// ahead is below 0, if p has the lesser X, or the lesser Y of one X.
func ahead(p, q spot) int {
	if order := p.x.Cmp(q.x); order != 0 {
		return order
	}
	return p.y.Cmp(q.y)
}

// turning is by how much three points turn.
func turning(a, b, c spot) *big.Rat { return b.less(a).cross(c.less(a)) }

// wrapped are the corners of the hull: from each one on to the one to whose right none lies, and of those on that line the farthest (Jarvis).
func wrapped(l []spot) []spot {
	at := slices.MinFunc(l, ahead)
	corners := []spot{at}
	for {
		to := at
		for _, p := range l {
			far := less(p.less(at).dot(p.less(at)), to.less(at).dot(to.less(at))).Sign()
			if turn := turning(at, to, p).Sign(); turn < 0 || turn == 0 && far > 0 {
				to = p
			}
		}
		if to.is(corners[0]) {
			return corners
		}
		corners, at = append(corners, to), to
	}
}

// allSums are the sums of each of one and each of the other.
func allSums(a, b []spot) []spot {
	var made []spot
	for _, p := range a {
		for _, q := range b {
			made = append(made, p.plus(q))
		}
	}
	return made
}

// areaIn adds up the triangles with the first corner.
func areaIn(l []spot) *big.Rat {
	corners, area := wrapped(l), whole(0)
	for i := 1; i < len(corners); i++ {
		area = plus(area, turning(corners[0], corners[i-1], corners[i]))
	}
	return area
}

// mixedIn is in the words of the document.
func mixedIn(a, b []spot) *big.Rat {
	return less(areaIn(allSums(a, b)), plus(areaIn(a), areaIn(b)))
}

// reachIn is in the words of the document.
func reachIn(l []spot, along spot) *big.Rat {
	most := along.dot(l[0])
	for _, p := range l {
		if far := along.dot(p); far.Cmp(most) > 0 {
			most = far
		}
	}
	return most
}

// onEdge tells if p is a point between a and b, or one of them.
func onEdge(a, b, p spot) bool {
	return turning(a, b, p).Sign() == 0 && a.less(p).dot(b.less(p)).Sign() <= 0
}

// inThree tells if p lies in the hull of three, which may lie on a line or be one: by its weights, if they don't.
func inThree(a, b, c, p spot) bool {
	all := turning(a, b, c)
	if all.Sign() == 0 {
		return onEdge(a, b, p) || onEdge(b, c, p) || onEdge(c, a, p)
	}
	for _, part := range []*big.Rat{turning(p, b, c), turning(a, p, c), turning(a, b, p)} {
		if over(part, all).Sign() < 0 {
			return false
		}
	}
	return true
}

// inHull goes through all threes.
func inHull(l []spot, p spot) bool {
	for i := range l {
		for j := range i + 1 {
			for k := range j + 1 {
				if inThree(l[i], l[j], l[k], p) {
					return true
				}
			}
		}
	}
	return false
}

// crossing tells if the ways from a to b and from c to d cross within both.
func crossing(a, b, c, d spot) bool {
	return turning(a, b, c).Sign()*turning(a, b, d).Sign() < 0 && turning(c, d, a).Sign()*turning(c, d, b).Sign() < 0
}

// sharing tells if two hulls have a point in common, without their corners: a point of one lies in the other, or ways between points cross.
func sharing(a, b []spot) bool {
	in := func(l []spot) func(spot) bool { return func(p spot) bool { return inHull(l, p) } }
	if slices.ContainsFunc(a, in(b)) || slices.ContainsFunc(b, in(a)) {
		return true
	}
	for i := range a {
		for j := range i {
			for k := range b {
				for m := range k {
					if crossing(a[i], a[j], b[k], b[m]) {
						return true
					}
				}
			}
		}
	}
	return false
}

// guess makes points, the same ones each time: small ones, which often are special to each other, and long ones.
type guess struct {
	r    *rand.Rand
	size int
}

func newGuess(round int) guess {
	return guess{rand.New(rand.NewSource(int64(round))), []int{1, 1, 2, 30}[round%4]}
}

func (g guess) digits() string {
	var b strings.Builder
	for range 1 + g.r.Intn(g.size) {
		b.WriteString(strconv.Itoa(g.r.Intn(10)))
	}
	return b.String()
}

func (g guess) fraction() api.Q {
	if g.size == 1 {
		return api.Q(strconv.Itoa(g.r.Intn(7) - 3))
	}
	t := []string{"", "-"}[g.r.Intn(2)] + g.digits()
	if g.r.Intn(2) == 0 {
		t += "/" + g.digits() + strconv.Itoa(1+g.r.Intn(9))
	}
	return api.Q(t)
}

func (g guess) point() api.P { return pt(g.fraction(), g.fraction()) }

func (g guess) spot() spot { return spotAt(g.point()) }

// factor is 0 at times, and never below it.
func (g guess) factor() *big.Rat { return big.NewRat(int64(g.r.Intn(6)), int64(1+g.r.Intn(4))) }

// points at random; at times on a line, at times one of them again and again.
func (g guess) points(most int) []api.P {
	l := make([]api.P, 1+g.r.Intn(most))
	kind := g.r.Intn(8)
	p, q := g.spot(), g.spot()
	for i := range l {
		switch {
		case kind == 0:
			l[i] = p.on(q, rat(g.fraction())).text()
		case i > 0 && g.r.Intn(8) == 0:
			l[i] = l[g.r.Intn(i)]
		default:
			l[i] = g.point()
		}
	}
	return l
}

// pair of lists; at times the second has edges beside those of the first: some of its points, longer or shorter, the same way or the other, or those and others.
func (g guess) pair(most int) (a, b []api.P) {
	a, b = g.points(most), g.points(most)
	if g.r.Intn(2) == 0 {
		return a, b
	}
	k := rat(g.fraction())
	b = shifted(longer(a[:1+g.r.Intn(len(a))], k), g.spot())
	if g.r.Intn(2) == 0 && len(b) < most {
		b = append(b, g.point())
	}
	return a, b
}

// mean has weights from 0 on.
func (g guess) mean(l []spot) spot {
	sum, all := spot{whole(0), whole(0)}, whole(0)
	for all.Sign() == 0 {
		for _, p := range l {
			weight := g.factor()
			sum, all = sum.plus(p.times(weight)), plus(all, weight)
		}
	}
	return sum.times(over(whole(1), all))
}

// mixed has the points in another order.
func (g guess) mixed(l []api.P) []api.P {
	l = slices.Clone(l)
	g.r.Shuffle(len(l), func(i, j int) { l[i], l[j] = l[j], l[i] })
	return l
}
