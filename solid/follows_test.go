package solid

import (
	"math/big"
	"slices"
	"testing"

	"compass/api"
)

const rounds = 400

// enough: much of what was made at random must have been in such a place that something could be told.
func enough(t *testing.T, what string, told int) {
	t.Helper()
	if told < rounds/20 {
		t.Errorf("%s: only %d of %d told", what, told, rounds)
	}
}

// bodies are all right.
func bodies() []api.Solid {
	aside := but(tetra(), func(s *api.Solid) { s.Corners = pointsOf(10, 0, 0, 12, 0, 0, 10, 2, 0, 10, 0, 2) })
	above := but(tetra(), func(s *api.Solid) { s.Corners = pointsOf(0, 0, 2, 2, 0, 2, 0, 2, 2, 0, 0, 4) })
	return []api.Solid{
		tetra(), cube(), prism(5, 0, 0, 2, 0, 0, 3), prism(4, octagon()...), pyramid(5, 0, 0, 2, 0, 2, 2, 0, 2), pyramid(3, bowl(12)...),
		double(3, -4, 0, 0, 2, 0, 2, 2, 0, 2), double(3, 1, 0, 0, 3, 0, 0, 3), prism(1, 0, 0, 4, 0, 4, 4, 3, 1), cuboctahedron(), most(), frame(),
		seven(), knot(), disc(), straight(), split(), together(tetra(), aside, 0), together(tetra(), above, 1),
	}
}

// body is one of them, or the hull of some points.
func (g guess) body() api.Solid {
	if g.r.Intn(2) == 0 {
		all := bodies()
		return all[g.r.Intn(len(all))]
	}
	for {
		s, e := hullOf(g.points(4 + g.r.Intn(5)))
		if e == api.OK {
			return s
		}
	}
}

// points at random; at times all, but for the first four, are close together, at times all are on a sphere.
func (g guess) points(n int) []api.P3 {
	l := make([]api.P3, n)
	kind := g.r.Intn(4)
	for i := range l {
		v := vectorAt(g.point())
		switch {
		case kind == 0 && i > 3:
			v = v.times(big.NewRat(1, 97))
		case kind == 1:
			v = onSphere(v[0], v[1])
		}
		l[i] = v.text()
	}
	return l
}

// onSphere is as far from the origin as 1, whatever x and y are.
func onSphere(x, y *big.Rat) vector {
	far2 := plus(times(x, x), times(y, y))
	return vector{plus(x, x), plus(y, y), less(far2, whole(1))}.times(new(big.Rat).Inv(plus(far2, whole(1))))
}

// hullOf has the faces that Around tells, with the corners that these have.
func hullOf(l []api.P3) (api.Solid, api.Errno) {
	faces, e := Around(l)
	if e != api.OK {
		return api.Solid{}, e
	}
	var s api.Solid
	var places []int
	for _, face := range faces {
		var ring []int
		for _, place := range face {
			if !slices.Contains(places, place) {
				places = append(places, place)
				s.Corners = append(s.Corners, l[place])
			}
			ring = append(ring, slices.Index(places, place))
		}
		s.Faces = append(s.Faces, ring)
	}
	return s, api.OK
}

// ways are three that lie on no plane.
func (g guess) ways() [3]vector {
	for {
		l := [3]vector{vectorAt(g.point()), vectorAt(g.point()), vectorAt(g.point())}
		if l[0].dot(l[1].cross(l[2])).Sign() != 0 {
			return l
		}
	}
}

// carried goes by those ways instead of the axes, from another origin.
func carried(s api.Solid, origin vector, ways [3]vector) api.Solid {
	return but(s, func(s *api.Solid) {
		for i, p := range s.Corners {
			v := vectorAt(p)
			s.Corners[i] = origin.plus(ways[0].times(v[0])).plus(ways[1].times(v[1])).plus(ways[2].times(v[2])).text()
		}
	})
}

// mixed has corners and faces in another order, and each face from another corner on.
func (g guess) mixed(s api.Solid) api.Solid {
	return but(s, func(made *api.Solid) {
		to := g.r.Perm(len(s.Corners))
		for i, p := range s.Corners {
			made.Corners[to[i]] = p
		}
		from := g.r.Perm(len(s.Faces))
		for i, f := range from {
			ring := slices.Clone(s.Faces[f])
			turn := g.r.Intn(len(ring))
			ring = append(ring[turn:], ring[:turn]...)
			for j, corner := range ring {
				ring[j] = to[corner]
			}
			made.Faces[i] = ring
		}
	})
}

func TestRightSolidsOfAll(t *testing.T) {
	convex, other := 0, 0
	for i := range rounds {
		g := newGuess(i)
		s := g.body()
		ways := g.ways()
		stretch := ways[0].dot(ways[1].cross(ways[2]))
		want := toldOf(t, "ahead", s)
		want.volume = text(times(stretch, rat(want.volume)))
		want.convex = want.convex && stretch.Sign() > 0
		made := g.mixed(carried(s, vectorAt(g.point()), ways))
		holds(t, "carried", made)
		same(t, "carried", toldOf(t, "carried", made), want)
		turned := insideOut(made)
		holds(t, "inside out", turned)
		same(t, "inside out", rat(toldOf(t, "inside out", turned).volume).Cmp(new(big.Rat).Neg(rat(want.volume))), 0)
		if want.convex {
			convex++
			same(t, "convex, inside out", toldOf(t, "inside out", turned).convex, false)
		} else {
			other++
		}
	}
	enough(t, "convex", convex)
	enough(t, "not convex", other)
}

// damages are what can be done to a solid; most of it isn't right then.
func (g guess) damages() []func(s *api.Solid) {
	corner := func(s *api.Solid) int { return g.r.Intn(len(s.Corners)+2) - 1 }
	ring := func(s *api.Solid) *[]int { return &s.Faces[g.r.Intn(len(s.Faces))] }
	place := func(l []int) int { return g.r.Intn(len(l)) }
	return []func(s *api.Solid){
		func(s *api.Solid) {},
		func(s *api.Solid) { s.Corners = append(s.Corners, g.point()) },
		func(s *api.Solid) { s.Corners[g.r.Intn(len(s.Corners))] = g.point() },
		func(s *api.Solid) {
			s.Corners[g.r.Intn(len(s.Corners))] = s.Corners[g.r.Intn(len(s.Corners))]
		},
		func(s *api.Solid) { i := g.r.Intn(len(s.Faces)); s.Faces = slices.Delete(s.Faces, i, i+1) },
		func(s *api.Solid) { s.Faces = append(s.Faces, slices.Clone(*ring(s))) },
		func(s *api.Solid) { slices.Reverse(*ring(s)) },
		func(s *api.Solid) { r := *ring(s); r[place(r)] = corner(s) },
		func(s *api.Solid) { r := *ring(s); r[place(r)], r[place(r)] = corner(s), corner(s) },
		func(s *api.Solid) { r := ring(s); *r = slices.Insert(*r, place(*r), corner(s)) },
		func(s *api.Solid) { r := ring(s); i := place(*r); *r = slices.Delete(*r, i, i+1) },
		func(s *api.Solid) { r := *ring(s); i, j := place(r), place(r); r[i], r[j] = r[j], r[i] },
		func(s *api.Solid) { r := ring(s); *r = append(*r, 0, 1, 2, 3, 4, 5, 6, 7, 8, 9) },
	}
}

func TestWrongSolidsOfAll(t *testing.T) {
	told := map[api.Errno]int{}
	for i := range 4 * rounds {
		g := newGuess(i)
		s := g.mixed(g.body())
		for range 1 + g.r.Intn(2) {
			all := g.damages()
			do := all[g.r.Intn(len(all))]
			s = but(s, do)
			if slices.ContainsFunc(s.Faces, func(ring []int) bool { return len(ring) == 0 }) || len(s.Faces) == 0 {
				break
			}
		}
		told[faultIn(s).e]++
		holds(t, "damaged", s)
	}
	for _, e := range []api.Errno{api.OK, api.ErrMany, api.ErrWho, api.ErrTwice, api.ErrForm, api.ErrFlat, api.ErrCount} {
		enough(t, "damaged", told[e])
	}
}

func TestAroundOfAll(t *testing.T) {
	told := map[api.Errno]int{}
	for i := range rounds {
		g := newGuess(i)
		l := g.points(4 + g.r.Intn(5))
		if g.size > 1 && i%40 < 4 {
			l = g.points(9 + g.r.Intn(8))
		}
		want, e := aroundIn(l)
		told[e]++
		answersList(t, "around", want, e)(Around(l))
		// The least ahead, and rising, also when the points are told in another order.
		g.r.Shuffle(len(l), func(i, j int) { l[i], l[j] = l[j], l[i] })
		want, e = aroundIn(l)
		answersList(t, "in another order", want, e)(Around(l))
	}
	enough(t, "around", told[api.OK])
	enough(t, "four on a plane", told[api.ErrFlat])
}

func TestMinkowski(t *testing.T) {
	for i := range rounds {
		g := newGuess(i)
		s := g.mixed(carried(g.body(), vectorAt(g.point()), g.ways()))
		sum := vectorAt(pt("0", "0", "0"))
		for _, area := range must[[]api.P3](t, "areas")(Areas(s)) {
			sum = sum.plus(vectorAt(area))
		}
		same(t, "Minkowski", sum.text(), pt("0", "0", "0"))
	}
}

func TestEuler(t *testing.T) {
	told := 0
	for i := range 2 * rounds {
		g := newGuess(i)
		s := g.mixed(g.body())
		if g.r.Intn(2) == 0 {
			all := g.damages()
			s = but(s, all[g.r.Intn(len(all))])
		}
		if convex, e := Convex(s); e == api.OK && convex {
			told++
			answers(t, "Euler", 2, api.OK)(Euler(s))
		}
	}
	enough(t, "Euler", told)
}

func TestWhatAroundTellsIsConvex(t *testing.T) {
	within, great := 0, 0
	for i := range 2 * rounds {
		g := newGuess(i)
		l := g.points(4 + g.r.Intn(10))
		s, e := hullOf(l)
		if e != api.OK {
			continue
		}
		same(t, "all triangles", len(s.Faces), 2*len(s.Corners)-4)
		if len(s.Faces) > api.MaxFaces {
			great++
			same(t, "too many faces", checked(s), fault{api.ErrMany, 0})
			same(t, "convex", convexIn(s), true)
			continue
		}
		got := toldOf(t, "around", s)
		same(t, "convex", got, told{2, got.volume, true})
		same(t, "from outside", rat(got.volume).Sign(), 1)
		// With what lies within as corners that no face has, all still lie behind each face.
		if more := slices.DeleteFunc(slices.Clone(l), func(p api.P3) bool { return slices.Contains(s.Corners, p) }); len(more) > 0 {
			within++
			all := api.Solid{Corners: append(slices.Clone(s.Corners), more...), Faces: s.Faces}
			same(t, "within", convexIn(all), true)
			same(t, "no face has them", checked(all), fault{api.ErrCount, len(s.Faces)})
		}
	}
	enough(t, "with points within", within)
	enough(t, "too many faces", great)
}
