package solid

import (
	"math/big"
	"math/rand"
	"regexp"
	"slices"
	"strconv"
	"strings"
	"testing"

	"compass/api"
)

func pt(x, y, z api.Q) api.P3 { return api.P3{X: x, Y: y, Z: z} }

// pointsOf has points of whole numbers, X, Y and Z in turn.
func pointsOf(l ...int) []api.P3 {
	var made []api.P3
	of := func(n int) api.Q { return api.Q(strconv.Itoa(n)) }
	for i := 0; i < len(l); i += 3 {
		made = append(made, pt(of(l[i]), of(l[i+1]), of(l[i+2])))
	}
	return made
}

func same[T comparable](t *testing.T, what string, got, want T) {
	t.Helper()
	if got != want {
		t.Errorf("%s: %v, want %v", what, got, want)
	}
}

func sameList[T comparable](t *testing.T, what string, got, want []T) {
	t.Helper()
	if !slices.Equal(got, want) {
		t.Errorf("%s: %v, want %v", what, got, want)
	}
}

// must takes what was answered without an error.
func must[T any](t *testing.T, what string) func(got T, e api.Errno) T {
	return func(got T, e api.Errno) T {
		t.Helper()
		if e != api.OK {
			t.Fatalf("%s: error %d", what, e)
		}
		return got
	}
}

// answers checks what was answered.
func answers[T comparable](t *testing.T, what string, want T, wrong api.Errno) func(got T, e api.Errno) {
	return func(got T, e api.Errno) {
		t.Helper()
		same(t, what, got, want)
		same(t, what, e, wrong)
	}
}

func answersList[T comparable](t *testing.T, what string, want []T, wrong api.Errno) func(got []T, e api.Errno) {
	return func(got []T, e api.Errno) {
		t.Helper()
		sameList(t, what, got, want)
		same(t, what, e, wrong)
	}
}

// fault is what Check answers.
type fault struct {
	e  api.Errno
	at int
}

func checked(s api.Solid) fault {
	e, at := Check(s)
	return fault{e, at}
}

// refused checks that all calls tell the fault, and nothing beside it.
func refused(t *testing.T, what string, s api.Solid, want fault) {
	t.Helper()
	same(t, what, checked(s), want)
	answers(t, what+": euler", 0, want.e)(Euler(s))
	answers(t, what+": volume", api.Q(""), want.e)(Volume(s))
	answersList[api.P3](t, what+": areas", nil, want.e)(Areas(s))
	answers(t, what+": convex", false, want.e)(Convex(s))
}

// holds checks what all calls tell of a solid against what the document says of it.
func holds(t *testing.T, what string, s api.Solid) {
	t.Helper()
	want := faultIn(s)
	if want.e != api.OK {
		refused(t, what, s, want)
		return
	}
	same(t, what, checked(s), want)
	answers(t, what+": euler", eulerIn(s), api.OK)(Euler(s))
	answers(t, what+": volume", text(volumeIn(s)), api.OK)(Volume(s))
	answersList(t, what+": areas", areasIn(s), api.OK)(Areas(s))
	answers(t, what+": convex", convexIn(s), api.OK)(Convex(s))
}

// What follows is held against fractions of the library, so that a fault of the program's own can't hide on both sides.

// fractions are the texts that count as such.
var fractions = regexp.MustCompile("^-?[0-9]+(/0*[1-9][0-9]*)?$")

// rat reads in the base ten by hand: of a fraction, the library takes noughts ahead for another base.
func rat(q api.Q) *big.Rat {
	if !fractions.MatchString(string(q)) {
		return new(big.Rat)
	}
	up, low, bar := strings.Cut(string(q), "/")
	x, _ := new(big.Int).SetString(up, 10)
	y := big.NewInt(1)
	if bar {
		y.SetString(low, 10)
	}
	return new(big.Rat).SetFrac(x, y)
}

func text(r *big.Rat) api.Q { return api.Q(r.RatString()) }

func whole(n int64) *big.Rat { return big.NewRat(n, 1) }

func plus(l ...*big.Rat) *big.Rat {
	sum := new(big.Rat)
	for _, r := range l {
		sum.Add(sum, r)
	}
	return sum
}

func less(a, b *big.Rat) *big.Rat { return new(big.Rat).Sub(a, b) }

func times(a, b *big.Rat) *big.Rat { return new(big.Rat).Mul(a, b) }

// vector is a point of space, or a way in it, as the library's fractions.
type vector [3]*big.Rat

func vectorAt(p api.P3) vector { return vector{rat(p.X), rat(p.Y), rat(p.Z)} }

func vectorsAt(l []api.P3) []vector {
	made := make([]vector, len(l))
	for i, p := range l {
		made[i] = vectorAt(p)
	}
	return made
}

func (v vector) text() api.P3 { return pt(text(v[0]), text(v[1]), text(v[2])) }

func (v vector) plus(w vector) vector {
	return vector{plus(v[0], w[0]), plus(v[1], w[1]), plus(v[2], w[2])}
}

func (v vector) less(w vector) vector {
	return vector{less(v[0], w[0]), less(v[1], w[1]), less(v[2], w[2])}
}

func (v vector) times(k *big.Rat) vector {
	return vector{times(k, v[0]), times(k, v[1]), times(k, v[2])}
}

func (v vector) dot(w vector) *big.Rat {
	return plus(times(v[0], w[0]), times(v[1], w[1]), times(v[2], w[2]))
}

func (v vector) cross(w vector) vector {
	return vector{
		less(times(v[1], w[2]), times(v[2], w[1])),
		less(times(v[2], w[0]), times(v[0], w[2])),
		less(times(v[0], w[1]), times(v[1], w[0])),
	}
}

func (v vector) nothing() bool { return v[0].Sign() == 0 && v[1].Sign() == 0 && v[2].Sign() == 0 }

// six is the volume of four points, six times.
func six(a, b, c, d vector) *big.Rat { return b.less(a).dot(c.less(a).cross(d.less(a))) }

// ringOf has the corners of a face.
func ringOf(s api.Solid, i int) []vector {
	var ring []vector
	for _, corner := range s.Faces[i] {
		ring = append(ring, vectorAt(s.Corners[corner]))
	}
	return ring
}

// areaIn is in the words of the document.
func areaIn(ring []vector) vector {
	sum := vector{whole(0), whole(0), whole(0)}
	for i, p := range ring {
		q := ring[(i+1)%len(ring)]
		sum = sum.plus(p.less(ring[0]).cross(q.less(ring[0])))
	}
	return sum
}

func areasIn(s api.Solid) []api.P3 {
	var l []api.P3
	for i := range s.Faces {
		l = append(l, areaIn(ringOf(s, i)).text())
	}
	return l
}

// level tells if each four lie on a plane.
func level(l []vector) bool {
	for i, a := range l {
		for j, b := range l[:i] {
			for k, c := range l[:j] {
				for _, d := range l[:k] {
					if six(a, b, c, d).Sign() != 0 {
						return false
					}
				}
			}
		}
	}
	return true
}

// hasEdge looks for an edge from a to b.
func hasEdge(ring []int, a, b int) bool {
	i := slices.Index(ring, a)
	return i >= 0 && ring[(i+1)%len(ring)] == b
}

// anyEdge tells if the holds of one of a face's edges.
func anyEdge(ring []int, holds func(a, b int) bool) bool {
	for i, a := range ring {
		if holds(a, ring[(i+1)%len(ring)]) {
			return true
		}
	}
	return false
}

// faultIn is in the words of the document.
func faultIn(s api.Solid) fault {
	if len(s.Corners) < 4 || len(s.Corners) > 16 || len(s.Faces) < 4 || len(s.Faces) > 14 {
		return fault{api.ErrMany, 0}
	}
	for i := range s.Faces {
		if e := faceFaultIn(s, i); e != api.OK {
			return fault{e, i}
		}
	}
	some := func(holds func(ring []int) bool) bool { return slices.ContainsFunc(s.Faces, holds) }
	for i, ring := range s.Faces {
		if anyEdge(ring, func(a, b int) bool { return !some(func(ring []int) bool { return hasEdge(ring, b, a) }) }) {
			return fault{api.ErrForm, i}
		}
	}
	for corner := range s.Corners {
		if !some(func(ring []int) bool { return slices.Contains(ring, corner) }) {
			return fault{api.ErrCount, len(s.Faces)}
		}
	}
	return fault{}
}

func faceFaultIn(s api.Solid, at int) api.Errno {
	ring := s.Faces[at]
	if len(ring) < 3 || len(ring) > 12 {
		return api.ErrMany
	}
	for i, corner := range ring {
		if corner < 0 || corner >= len(s.Corners) {
			return api.ErrWho
		}
		for _, before := range ring[:i] {
			if before == corner {
				return api.ErrTwice
			}
		}
	}
	for _, before := range s.Faces[:at] {
		if anyEdge(ring, func(a, b int) bool { return hasEdge(before, a, b) }) {
			return api.ErrForm
		}
	}
	if l := ringOf(s, at); areaIn(l).nothing() || !level(l) {
		return api.ErrFlat
	}
	return api.OK
}

// eulerIn counts two corners as an edge, if a face goes from one of them to the other.
func eulerIn(s api.Solid) int {
	edges := 0
	for i := range s.Corners {
		for j := range i {
			if slices.ContainsFunc(s.Faces, func(ring []int) bool { return hasEdge(ring, i, j) || hasEdge(ring, j, i) }) {
				edges++
			}
		}
	}
	return len(s.Corners) - edges + len(s.Faces)
}

// volumeIn is in the words of the document: an edge that doesn't touch the first corner neither leaves it nor comes back.
func volumeIn(s api.Solid) *big.Rat {
	sum := whole(0)
	for f := range s.Faces {
		ring := ringOf(s, f)
		for i := 1; i+1 < len(ring); i++ {
			sum = plus(sum, ring[0].dot(ring[i].cross(ring[i+1])))
		}
	}
	return sum
}

// convexIn is in the words of the document.
func convexIn(s api.Solid) bool {
	for f := range s.Faces {
		if !aheadIn(s, f) || !roundIn(ringOf(s, f)) {
			return false
		}
	}
	return true
}

func aheadIn(s api.Solid, f int) bool {
	ring := ringOf(s, f)
	others := 0
	for i, p := range s.Corners {
		if slices.Contains(s.Faces[f], i) {
			continue
		}
		others++
		if areaIn(ring).dot(vectorAt(p).less(ring[0])).Sign() >= 0 {
			return false
		}
	}
	return others > 0
}

func roundIn(ring []vector) bool {
	area := areaIn(ring)
	for i := range ring {
		for j := i + 1; j < len(ring); j++ {
			for k := j + 1; k < len(ring); k++ {
				if area.dot(ring[j].less(ring[i]).cross(ring[k].less(ring[i]))).Sign() <= 0 {
					return false
				}
			}
		}
	}
	return true
}

// aroundIn goes through all threes, the least ahead, and looks if all others lie behind them; ErrFlat, if four lie on a plane.
func aroundIn(l []api.P3) ([][3]int, api.Errno) {
	if len(l) < 4 || len(l) > 16 {
		return nil, api.ErrMany
	}
	points := vectorsAt(l)
	var faces [][3]int
	for i, a := range points {
		for j := i + 1; j < len(l); j++ {
			for k := i + 1; k < len(l); k++ {
				if j == k {
					continue
				}
				out := points[j].less(a).cross(points[k].less(a))
				face := true
				for m, p := range points {
					side := out.dot(p.less(a)).Sign()
					if m != i && m != j && m != k && side == 0 {
						return nil, api.ErrFlat
					}
					face = face && side <= 0
				}
				if face {
					faces = append(faces, [3]int{i, j, k})
				}
			}
		}
	}
	return faces, api.OK
}

// guess makes numbers, the same ones each time: small ones, which often are special to each other, and long ones.
type guess struct {
	r    *rand.Rand
	size int
}

func newGuess(round int) guess {
	return guess{rand.New(rand.NewSource(int64(round))), []int{1, 1, 2, 20}[round%4]}
}

func (g guess) digits() string {
	var b strings.Builder
	for range 1 + g.r.Intn(g.size) {
		b.WriteString(strconv.Itoa(g.r.Intn(10)))
	}
	return b.String()
}

func (g guess) fraction() api.Q {
	if g.size == 1 {
		return api.Q(strconv.Itoa(g.r.Intn(7) - 3))
	}
	t := []string{"", "-"}[g.r.Intn(2)] + g.digits()
	if g.r.Intn(2) == 0 {
		t += "/" + g.digits() + strconv.Itoa(1+g.r.Intn(9))
	}
	return api.Q(t)
}

func (g guess) point() api.P3 { return pt(g.fraction(), g.fraction(), g.fraction()) }
