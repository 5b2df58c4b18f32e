package empty

import (
	"math/big"
	"math/rand"
	"regexp"
	"slices"
	"strconv"
	"strings"
	"testing"

	"compass/api"
)

func pt(x, y api.Q) api.P { return api.P{X: x, Y: y} }

// pointsOf has points of whole numbers, X and Y in turn.
func pointsOf(l ...int) []api.P {
	var made []api.P
	for i := 0; i < len(l); i += 2 {
		made = append(made, pt(api.Q(strconv.Itoa(l[i])), api.Q(strconv.Itoa(l[i+1]))))
	}
	return made
}

func same[T comparable](t *testing.T, what string, got, want T) {
	t.Helper()
	if got != want {
		t.Errorf("%s: %v, want %v", what, got, want)
	}
}

func sameList[T comparable](t *testing.T, what string, got, want []T) {
	t.Helper()
	if !slices.Equal(got, want) {
		t.Errorf("%s: %v, want %v", what, got, want)
	}
}

// must takes what was answered without an error.
func must[T any](t *testing.T, what string) func(got T, e api.Errno) T {
	return func(got T, e api.Errno) T {
		t.Helper()
		if e != api.OK {
			t.Fatalf("%s: error %d", what, e)
		}
		return got
	}
}

// refused checks that there is nothing beside the error.
func refused[T comparable](t *testing.T, what string, want api.Errno) func(got T, e api.Errno) {
	return func(got T, e api.Errno) {
		t.Helper()
		var nothing T
		same(t, what, got, nothing)
		same(t, what, e, want)
	}
}

func refusedList[T any](t *testing.T, what string, want api.Errno) func(got []T, e api.Errno) {
	return func(got []T, e api.Errno) {
		t.Helper()
		if len(got) != 0 || e != want {
			t.Errorf("%s: %v, error %d, want none and %d", what, got, e, want)
		}
	}
}

// refusedAll: each call answers that error, and nothing else.
func refusedAll(t *testing.T, what string, want api.Errno, l []api.P) {
	t.Helper()
	refusedList[[3]int](t, what+": triangles", want)(Triangles(l))
	refusedList[[2]int](t, what+": pairs", want)(Pairs(l))
	refusedList[[2]int](t, what+": net", want)(Net(l))
	refused[int](t, what+": nearest", want)(Nearest(l, pt("1", "1")))
	refused[api.C](t, what+": least", want)(Least(l))
}

func trianglesOf(t *testing.T, l []api.P) [][3]int {
	t.Helper()
	return must[[][3]int](t, "triangles")(Triangles(l))
}

func pairsOf(t *testing.T, l []api.P) [][2]int {
	t.Helper()
	return must[[][2]int](t, "pairs")(Pairs(l))
}

func netOf(t *testing.T, l []api.P) [][2]int {
	t.Helper()
	return must[[][2]int](t, "net")(Net(l))
}

func nearestOf(t *testing.T, l []api.P, p api.P) int {
	t.Helper()
	return must[int](t, "nearest")(Nearest(l, p))
}

func leastOf(t *testing.T, l []api.P) api.C {
	t.Helper()
	return must[api.C](t, "least")(Least(l))
}

// What follows is held against fractions of the library, so that a fault of the program's own can't hide on both sides.

// fractions are the texts that count as such.
var fractions = regexp.MustCompile("^-?[0-9]+(/0*[1-9][0-9]*)?$")

// rat reads in the base ten by hand: of a fraction, the library takes noughts ahead for another base.
func rat(q api.Q) *big.Rat {
	if !fractions.MatchString(string(q)) {
		return new(big.Rat)
	}
	up, low, bar := strings.Cut(string(q), "/")
	x, _ := new(big.Int).SetString(up, 10)
	y := big.NewInt(1)
	if bar {
		y.SetString(low, 10)
	}
	return new(big.Rat).SetFrac(x, y)
}

func text(r *big.Rat) api.Q { return api.Q(r.RatString()) }

func whole(n int64) *big.Rat { return big.NewRat(n, 1) }

func plus(l ...*big.Rat) *big.Rat {
	sum := new(big.Rat)
	for _, r := range l {
		sum.Add(sum, r)
	}
	return sum
}

func less(a, b *big.Rat) *big.Rat { return new(big.Rat).Sub(a, b) }

func times(a, b *big.Rat) *big.Rat { return new(big.Rat).Mul(a, b) }

func over(a, b *big.Rat) *big.Rat { return new(big.Rat).Quo(a, b) }

// spotAs is a point as the library's fractions.
type spotAs struct{ x, y *big.Rat }

func spotAt(p api.P) spotAs { return spotAs{rat(p.X), rat(p.Y)} }

func spotsAt(l []api.P) []spotAs {
	made := make([]spotAs, len(l))
	for i, p := range l {
		made[i] = spotAt(p)
	}
	return made
}

// each has what is made of each point.
func each(l []api.P, make func(spotAs) spotAs) []api.P {
	var made []api.P
	for _, p := range l {
		made = append(made, make(spotAt(p)).text())
	}
	return made
}

func (p spotAs) text() api.P { return pt(text(p.x), text(p.y)) }

func (p spotAs) plus(q spotAs) spotAs { return spotAs{plus(p.x, q.x), plus(p.y, q.y)} }

func (p spotAs) less(q spotAs) spotAs { return spotAs{less(p.x, q.x), less(p.y, q.y)} }

func (p spotAs) times(k *big.Rat) spotAs { return spotAs{times(k, p.x), times(k, p.y)} }

func (p spotAs) dot(q spotAs) *big.Rat { return plus(times(p.x, q.x), times(p.y, q.y)) }

func (p spotAs) cross(q spotAs) *big.Rat { return less(times(p.x, q.y), times(p.y, q.x)) }

// product of both as complex numbers.
func (p spotAs) product(q spotAs) spotAs {
	return spotAs{less(times(p.x, q.x), times(p.y, q.y)), plus(times(p.x, q.y), times(p.y, q.x))}
}

// on is p and k times the way from p to q.
func (p spotAs) on(q spotAs, k *big.Rat) spotAs { return p.plus(q.less(p).times(k)) }

func (p spotAs) is(q spotAs) bool { return p.x.Cmp(q.x) == 0 && p.y.Cmp(q.y) == 0 }

// apart2 is the square of the distance.
func apart2(p, q spotAs) *big.Rat { return p.less(q).dot(p.less(q)) }

// turning is by how much three points turn.
func turning(a, b, c spotAs) *big.Rat { return b.less(a).cross(c.less(a)) }

// ball has a middle, and the square of its radius.
type ball struct {
	middle spotAs
	r2     *big.Rat
}

func ballAt(c api.C) ball { return ball{spotAt(c.M), rat(c.R2)} }

func (b ball) text() api.C { return api.C{M: b.middle.text(), R2: text(b.r2)} }

// off is below 0 within, 0 on the edge, above 0 outside.
func (b ball) off(p spotAs) int { return apart2(p, b.middle).Cmp(b.r2) }

// emptyOf tells if none lies within.
func (b ball) emptyOf(l []spotAs) bool {
	return !slices.ContainsFunc(l, func(p spotAs) bool { return b.off(p) < 0 })
}

// around tells if none lies outside.
func (b ball) around(l []spotAs) bool {
	return !slices.ContainsFunc(l, func(p spotAs) bool { return b.off(p) > 0 })
}

// half way between both.
func ballOfTwo(p, q spotAs) ball {
	return ball{p.on(q, big.NewRat(1, 2)), times(apart2(p, q), big.NewRat(1, 4))}
}

// ballOfThree has a middle that is as far from all, by the two lines on which those as far from two lie; false, if they lie on a line.
func ballOfThree(p, q, r spotAs) (ball, bool) {
	b, c := q.less(p), r.less(p)
	twice := times(whole(2), b.cross(c))
	if twice.Sign() == 0 {
		return ball{}, false
	}
	x := over(less(times(b.dot(b), c.y), times(c.dot(c), b.y)), twice)
	y := over(less(times(c.dot(c), b.x), times(b.dot(b), c.x)), twice)
	way := spotAs{x, y}
	return ball{p.plus(way), way.dot(way)}, true
}

// trianglesIn is in the words of the document.
func trianglesIn(l []spotAs) [][3]int {
	var made [][3]int
	for i := range l {
		for j := i + 1; j < len(l); j++ {
			for k := j + 1; k < len(l); k++ {
				if b, ok := ballOfThree(l[i], l[j], l[k]); ok && b.emptyOf(l) {
					made = append(made, [3]int{i, j, k})
				}
			}
		}
	}
	return made
}

// allPairs are i, j, rising, by i, then by j.
func allPairs(n int) [][2]int {
	var made [][2]int
	for i := range n {
		for j := i + 1; j < n; j++ {
			made = append(made, [2]int{i, j})
		}
	}
	return made
}

// pairsIn is in the words of the document.
func pairsIn(l []spotAs) [][2]int {
	return slices.DeleteFunc(allPairs(len(l)), func(p [2]int) bool { return !ballOfTwo(l[p[0]], l[p[1]]).emptyOf(l) })
}

// joined tells if one gets from i to j along the pairs.
func joined(pairs [][2]int, i, j int) bool {
	seen := []int{i}
	for at := 0; at < len(seen); at++ {
		for _, p := range pairs {
			for end := range p {
				if p[end] == seen[at] && !slices.Contains(seen, p[1-end]) {
					seen = append(seen, p[1-end])
				}
			}
		}
	}
	return slices.Contains(seen, j)
}

// netIn has the pairs that all those ahead don't join: those that were taken join just as much.
func netIn(l []spotAs) [][2]int {
	long := func(p [2]int) *big.Rat { return apart2(l[p[0]], l[p[1]]) }
	pairs := allPairs(len(l))
	slices.SortFunc(pairs, func(p, q [2]int) int {
		if order := long(p).Cmp(long(q)); order != 0 {
			return order
		}
		return slices.Compare(p[:], q[:])
	})
	var made [][2]int
	for i, p := range pairs {
		if !joined(pairs[:i], p[0], p[1]) {
			made = append(made, p)
		}
	}
	return made
}

// nearestIn is the first to which none is nearer.
func nearestIn(l []spotAs, p spotAs) int {
	return slices.IndexFunc(l, func(q spotAs) bool {
		return !slices.ContainsFunc(l, func(r spotAs) bool { return apart2(r, p).Cmp(apart2(q, p)) < 0 })
	})
}

// leastIn goes through all circles of two and of three.
func leastIn(l []spotAs) ball {
	if len(l) == 1 {
		return ball{l[0], whole(0)}
	}
	var balls []ball
	for i, p := range l {
		for j, q := range l[:i] {
			balls = append(balls, ballOfTwo(p, q))
			for _, r := range l[:j] {
				if b, ok := ballOfThree(p, q, r); ok {
					balls = append(balls, b)
				}
			}
		}
	}
	balls = slices.DeleteFunc(balls, func(b ball) bool { return !b.around(l) })
	return slices.MinFunc(balls, func(b, c ball) int { return b.r2.Cmp(c.r2) })
}

// guess makes points, the same ones each time: small ones, which often are special to each other, and long ones.
type guess struct {
	r    *rand.Rand
	size int
}

func newGuess(round int) guess {
	return guess{rand.New(rand.NewSource(int64(round))), []int{1, 1, 2, 20}[round%4]}
}

func (g guess) digits() string {
	var b strings.Builder
	for range 1 + g.r.Intn(g.size) {
		b.WriteString(strconv.Itoa(g.r.Intn(10)))
	}
	return b.String()
}

func (g guess) fraction() api.Q {
	if g.size == 1 {
		return api.Q(strconv.Itoa(g.r.Intn(7) - 3))
	}
	t := []string{"", "-"}[g.r.Intn(2)] + g.digits()
	if g.r.Intn(2) == 0 {
		t += "/" + g.digits() + strconv.Itoa(1+g.r.Intn(9))
	}
	return api.Q(t)
}

func (g guess) spot() spotAs { return spotAs{rat(g.fraction()), rat(g.fraction())} }

// factor is above 0.
func (g guess) factor() *big.Rat { return big.NewRat(int64(1+g.r.Intn(6)), int64(1+g.r.Intn(4))) }

// turned is a complex number of length 1.
func (g guess) turned() spotAs {
	t := spotAs{whole(1), rat(g.fraction())}
	return t.product(t).times(over(whole(1), t.dot(t)))
}

// maker makes points at random, or on a line, or on a circle, or on both.
func (g guess) maker() func() spotAs {
	kind := g.r.Intn(6)
	p, q := g.spot(), g.spot()
	onLine := func() spotAs { return p.on(q, rat(g.fraction())) }
	onCircle := func() spotAs { return p.plus(g.turned().product(q)) }
	switch kind {
	case 0:
		return onLine
	case 1:
		return onCircle
	case 2:
		return func() spotAs { return []func() spotAs{onLine, onCircle, g.spot}[g.r.Intn(3)]() }
	default:
		return g.spot
	}
}

// points, no two one: most of them at the most.
func (g guess) points(most int) []api.P {
	made := g.maker()
	n := 1 + g.r.Intn(most)
	var l []spotAs
	for range 3 * n {
		if p := made(); len(l) < n && !slices.ContainsFunc(l, p.is) {
			l = append(l, p)
		}
	}
	var texts []api.P
	for _, p := range l {
		texts = append(texts, p.text())
	}
	return texts
}

// nearby is a point at random, one of those, or half way between two of them.
func (g guess) nearby(l []api.P) spotAs {
	a, b := spotAt(l[g.r.Intn(len(l))]), spotAt(l[g.r.Intn(len(l))])
	switch g.r.Intn(4) {
	case 0:
		return a
	case 1:
		return a.on(b, big.NewRat(1, 2))
	default:
		return g.spot()
	}
}

// mixed has the points in another order, and tells of each where it was.
func (g guess) mixed(l []api.P) (made []api.P, from []int) {
	from = g.r.Perm(len(l))
	for _, i := range from {
		made = append(made, l[i])
	}
	return made, from
}
