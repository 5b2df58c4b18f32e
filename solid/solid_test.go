package solid

import (
	"math"
	"slices"
	"strings"
	"testing"

	"compass/api"
)

func TestCheckOfAsManyAsMayBe(t *testing.T) {
	nothing := fault{api.ErrMany, 0}
	refused(t, "nothing at all", api.Solid{}, nothing)
	refused(t, "three corners", but(tetra(), func(s *api.Solid) { s.Corners = s.Corners[:3] }), nothing)
	refused(t, "no corners", but(tetra(), func(s *api.Solid) { s.Corners = nil }), nothing)
	refused(t, "three faces", but(tetra(), func(s *api.Solid) { s.Faces = s.Faces[:3] }), nothing)
	refused(t, "no faces", but(tetra(), func(s *api.Solid) { s.Faces = nil }), nothing)
	refused(t, "a corner too many", but(most(), func(s *api.Solid) { s.Corners = append(s.Corners, pointsOf(1, 1, 1)...) }), nothing)
	refused(t, "a face too many", but(most(), func(s *api.Solid) { s.Faces = append(s.Faces, []int{0, 1, 2}) }), nothing)
	refused(t, "very many", api.Solid{Corners: make([]api.P3, 5000), Faces: make([][]int, 5000)}, nothing)
	refused(t, "it is told first", but(tetra(), func(s *api.Solid) { s.Corners, s.Faces[0] = s.Corners[:3], []int{9} }), nothing)
	same(t, "as few as may be", checked(tetra()), fault{})
	same(t, "as many as may be", checked(most()), fault{})
	same(t, "as many faces as may be", checked(cuboctahedron()), fault{})
	same(t, "as many corners of a face as may be", checked(pyramid(3, bowl(12)...)), fault{})
	refused(t, "a corner of a face too many", pyramid(3, bowl(13)...), fault{api.ErrMany, 0})
	refused(t, "no corners of a face", but(cube(), func(s *api.Solid) { s.Faces[4] = nil }), fault{api.ErrMany, 4})
	refused(t, "two corners of a face", but(cube(), func(s *api.Solid) { s.Faces[2] = []int{0, 1} }), fault{api.ErrMany, 2})
	refused(t, "very many of a face, all none", but(cube(), func(s *api.Solid) { s.Faces[5] = slices.Repeat([]int{-1}, 5000) }), fault{api.ErrMany, 5})
}

func TestCheckOfCornersOfAFace(t *testing.T) {
	for _, x := range []struct {
		what string
		ring []int
		want api.Errno
	}{
		{"one behind the last", []int{0, 4, 8}, api.ErrWho},
		{"one ahead of the first", []int{-1, 4, 6}, api.ErrWho},
		{"the greatest number", []int{0, math.MaxInt, 6}, api.ErrWho},
		{"the least number", []int{0, 4, math.MinInt}, api.ErrWho},
		{"twice", []int{0, 4, 6, 0}, api.ErrTwice},
		{"twice, one behind the other", []int{4, 4, 6}, api.ErrTwice},
		{"twice, the last", []int{0, 4, 6, 2, 6}, api.ErrTwice},
		{"twice, but none", []int{0, 4, 9, 9}, api.ErrWho},
		{"none, then twice", []int{0, 9, 4, 4}, api.ErrWho},
		{"twice, then none", []int{0, 4, 4, 9}, api.ErrTwice},
		{"none ahead of the second time", []int{0, 9, 0}, api.ErrWho},
		{"none, on a line", []int{0, 8, 1}, api.ErrWho},
		{"twice, an edge that is there", []int{0, 2, 0}, api.ErrTwice},
		{"an edge that is there", []int{0, 4, 2, 3}, api.ErrForm},
		{"an edge that is there, the last", []int{2, 4, 0}, api.ErrForm},
		{"an edge that is there, and off the plane", []int{0, 2, 7, 5}, api.ErrForm},
		{"a face that is there", []int{2, 3, 1, 0}, api.ErrForm},
		{"off the plane", []int{0, 4, 6, 3}, api.ErrFlat},
		{"off the plane, the first", []int{1, 4, 6, 2}, api.ErrFlat},
		{"off the plane, with edges that none has the other way", []int{0, 7, 4, 2}, api.ErrFlat},
	} {
		refused(t, x.what, but(cube(), func(s *api.Solid) { s.Faces[4] = x.ring }), fault{x.want, 4})
	}
}

func TestCheckOfFlatFaces(t *testing.T) {
	move := func(s api.Solid, corner int, to api.P3) api.Solid {
		return but(s, func(s *api.Solid) { s.Corners[corner] = to })
	}
	refused(t, "on a line", move(tetra(), 1, pt("0", "4", "0")), fault{api.ErrFlat, 0})
	refused(t, "on a line, with fractions", move(tetra(), 3, pt("2/3", "4/3", "0")), fault{api.ErrFlat, 3})
	refused(t, "in one place", move(tetra(), 3, pt("2", "0", "0")), fault{api.ErrFlat, 1})
	refused(t, "hardly off the plane", move(cube(), 6, pt("0", "2", "2000000000000000000000000000001/1000000000000000000000000000000")), fault{api.ErrFlat, 1})
	refused(t, "hardly from the line", move(tetra(), 3, pt("0", "1/1000000000000000000000000000000", "0")), fault{api.ErrFlat, 2})
	same(t, "hardly off the line", checked(move(tetra(), 3, pt("1", "1", "1/1000000000000000000000000000000"))), fault{})
	crossed := but(cube(), func(s *api.Solid) { s.Corners[4], s.Corners[5] = s.Corners[5], s.Corners[4] })
	refused(t, "as much area against the clock as with it", crossed, fault{api.ErrFlat, 1})
	for corner := range 8 {
		refused(t, "on a plane, but for one", move(pyramid(2, octagon()...), corner, pt("7", "5", "1")), fault{api.ErrFlat, 0})
	}
	refused(t, "off the plane, there and back", but(cube(), func(s *api.Solid) {
		s.Corners = append(s.Corners, pointsOf(0, 0, 0, 5, 5, 5)...)
		s.Faces[4] = []int{0, 4, 6, 8, 9}
	}), fault{api.ErrFlat, 4})
	same(t, "more area against the clock than with it", checked(disc()), fault{})
	same(t, "a straight corner", checked(straight()), fault{})
}

func TestCheckOfEdges(t *testing.T) {
	refused(t, "the wrong way round", but(tetra(), func(s *api.Solid) { slices.Reverse(s.Faces[3]) }), fault{api.ErrForm, 3})
	refused(t, "the wrong way round, the first", but(tetra(), func(s *api.Solid) { slices.Reverse(s.Faces[0]) }), fault{api.ErrForm, 1})
	refused(t, "a face twice", but(cube(), func(s *api.Solid) { s.Faces = append(s.Faces, s.Faces[1]) }), fault{api.ErrForm, 6})
	refused(t, "an edge of four faces", together(tetra(), but(tetra(), func(s *api.Solid) {
		// Its edge from 0 to 1 is the one from 2 to 3 of the other.
		s.Corners = pointsOf(0, 2, 0, 0, 0, 2, -9, 0, 0, -9, 1, 5)
	}), 2), fault{api.ErrForm, 4})
	for i := range cube().Faces {
		open := but(cube(), func(s *api.Solid) { s.Faces = slices.Delete(s.Faces, i, i+1) })
		// Of those that are left, the face across has its edges with the others.
		want := []int{1, 1, 0, 0, 0, 0}[i]
		refused(t, "a face too few", open, fault{api.ErrForm, want})
	}
	refused(t, "open, and a flat face behind", but(cube(), func(s *api.Solid) {
		s.Faces = s.Faces[1:]
		s.Corners[7] = pt("3", "2", "2")
	}), fault{api.ErrFlat, 4})
	refused(t, "a face too small", but(cube(), func(s *api.Solid) { s.Faces[4] = []int{0, 4, 2} }), fault{api.ErrForm, 1})
	refused(t, "a hole with a corner", but(straight(), func(s *api.Solid) { s.Faces[2] = []int{0, 1, 5, 4} }), fault{api.ErrForm, 0})
	refused(t, "a hole with a corner, the other way", but(straight(), func(s *api.Solid) { s.Faces[0] = []int{0, 2, 3, 1} }), fault{api.ErrForm, 0})
}

func TestCheckOfCorners(t *testing.T) {
	more := func(s api.Solid, l ...int) api.Solid {
		return but(s, func(s *api.Solid) { s.Corners = append(s.Corners, pointsOf(l...)...) })
	}
	refused(t, "a corner more", more(tetra(), 9, 9, 9), fault{api.ErrCount, 4})
	refused(t, "a corner more, where one is", more(cube(), 0, 0, 0), fault{api.ErrCount, 6})
	refused(t, "corners more, within", more(cube(), 1, 1, 1, 1, 1, 1), fault{api.ErrCount, 6})
	refused(t, "the first", but(tetra(), func(s *api.Solid) {
		s.Corners = append(pointsOf(5, 5, 5), s.Corners...)
		for _, ring := range s.Faces {
			for i := range ring {
				ring[i]++
			}
		}
	}), fault{api.ErrCount, 4})
	refused(t, "open, too", more(but(cube(), func(s *api.Solid) { s.Faces = s.Faces[1:] }), 9, 9, 9), fault{api.ErrForm, 1})
	refused(t, "flat, too", more(but(tetra(), func(s *api.Solid) { s.Corners[3] = s.Corners[0] }), 9, 9, 9), fault{api.ErrFlat, 1})
}

func TestCheckGoesFaceByFace(t *testing.T) {
	// Whatever is told of a face, nothing of a later one is told ahead of it.
	for i, first := range []func(s *api.Solid, f int){
		func(s *api.Solid, f int) { s.Faces[f] = []int{0} },
		func(s *api.Solid, f int) { s.Faces[f] = []int{0, 1, 77} },
		func(s *api.Solid, f int) { s.Faces[f] = []int{0, 1, 1} },
		func(s *api.Solid, f int) { s.Faces[f] = slices.Clone(s.Faces[0]) },
		func(s *api.Solid, f int) { s.Faces[f] = []int{0, 3, 5, 6, 7} },
	} {
		want := []api.Errno{api.ErrMany, api.ErrWho, api.ErrTwice, api.ErrForm, api.ErrFlat}[i]
		for _, then := range []func(s *api.Solid, f int){
			func(s *api.Solid, f int) { s.Faces[f] = nil },
			func(s *api.Solid, f int) { s.Faces[f] = []int{0, 1, 77} },
			func(s *api.Solid, f int) { s.Faces[f] = []int{0, 1, 1} },
			func(s *api.Solid, f int) { s.Faces[f] = slices.Clone(s.Faces[0]) },
		} {
			s := but(cube(), func(s *api.Solid) { first(s, 2); then(s, 3) })
			refused(t, "the first of two faces", s, fault{want, 2})
		}
	}
}

// told is what is told of a solid that is right.
type told struct {
	euler  int
	volume api.Q
	convex bool
}

func toldOf(t *testing.T, what string, s api.Solid) told {
	t.Helper()
	same(t, what, checked(s), fault{})
	return told{must[int](t, what)(Euler(s)), must[api.Q](t, what)(Volume(s)), must[bool](t, what)(Convex(s))}
}

func TestEulerVolumeAndConvex(t *testing.T) {
	far := but(tetra(), func(s *api.Solid) { s.Corners = pointsOf(10, 0, 0, 12, 0, 0, 10, 2, 0, 10, 0, 2) })
	for _, x := range []struct {
		what string
		s    api.Solid
		want told
	}{
		{"a tetrahedron", tetra(), told{2, "8", true}},
		{"away from the origin", far, told{2, "8", true}},
		{"inside out", insideOut(tetra()), told{2, "-8", false}},
		{"written otherwise", odd(), told{2, "8", true}},
		{"a cube", cube(), told{2, "48", true}},
		{"a cube inside out", insideOut(cube()), told{2, "-48", false}},
		{"a corner half way along an edge", straight(), told{2, "48", false}},
		{"a face in two", split(), told{2, "48", false}},
		{"a prism", prism(5, 0, 0, 2, 0, 0, 3), told{2, "90", true}},
		{"a prism of eight", prism(4, octagon()...), told{2, "168", true}},
		{"as many as may be", most(), told{2, "168", false}},
		{"a pyramid", pyramid(5, 0, 0, 2, 0, 2, 2, 0, 2), told{2, "40", true}},
		{"a pyramid on twelve", pyramid(3, bowl(12)...), told{2, "1320", true}},
		{"two pyramids", double(3, -4, 0, 0, 2, 0, 2, 2, 0, 2), told{2, "56", false}},
		{"two pyramids on three", double(3, -4, 0, 0, 3, 0, 0, 3), told{2, "63", false}},
		{"two tips aslant", but(double(3, -4, 0, 0, 3, 0, 0, 3), func(s *api.Solid) { s.Corners[3], s.Corners[4] = pt("1", "1", "3"), pt("1", "1", "-4") }), told{2, "63", true}},
		{"a dent", but(double(3, 1, 0, 0, 3, 0, 0, 3), func(s *api.Solid) { s.Corners[3], s.Corners[4] = pt("1", "1", "3"), pt("1", "1", "1") }), told{2, "18", false}},
		{"hardly an edge", but(split(), func(s *api.Solid) { s.Corners[6].Z = "1999999999999999999999/1000000000000000000000" }), told{2, "11999999999999999999999/250000000000000000000", true}},
		{"hardly a dent", but(split(), func(s *api.Solid) { s.Corners[6].Z = "2000000000000000000001/1000000000000000000000" }), told{2, "12000000000000000000001/250000000000000000000", false}},
		{"a dart's prism", prism(1, 0, 0, 4, 0, 4, 4, 3, 1), told{2, "24", false}},
		{"squares and triangles", cuboctahedron(), told{2, "40", true}},
		{"a frame", frame(), told{0, "240", false}},
		{"an edge from each to each", seven(), told{0, "168", false}},
		{"two apart", together(tetra(), far, 0), told{4, "16", false}},
		{"one within, inside out", together(insideOut(tetra()), but(tetra(), func(s *api.Solid) { s.Corners = pointsOf(-9, -9, -9, 90, 0, 0, 0, 90, 0, 0, 0, 90) }), 0), told{4, "947692", false}},
		{"at one corner", together(tetra(), but(tetra(), func(s *api.Solid) { s.Corners = pointsOf(0, 0, 2, 2, 0, 2, 0, 2, 2, 0, 0, 4) }), 1), told{3, "16", false}},
		{"round twice", knot(), told{0, "11", false}},
		{"no volume", disc(), told{-1, "0", false}},
	} {
		same(t, x.what, toldOf(t, x.what, x.s), x.want)
		holds(t, x.what, x.s)
		holds(t, x.what+", inside out", insideOut(x.s))
	}
}

func TestAreas(t *testing.T) {
	for _, x := range []struct {
		what string
		s    api.Solid
		want []api.P3
	}{
		{"a tetrahedron", tetra(), pointsOf(0, 0, -4, 0, -4, 0, -4, 0, 0, 4, 4, 4)},
		{"inside out", insideOut(tetra()), pointsOf(0, 0, 4, 0, 4, 0, 4, 0, 0, -4, -4, -4)},
		{"written otherwise", odd(), pointsOf(0, 0, -4, 0, -4, 0, -4, 0, 0, 4, 4, 4)},
		{"a cube", cube(), pointsOf(0, 0, -8, 0, 0, 8, 0, -8, 0, 0, 8, 0, -8, 0, 0, 8, 0, 0)},
		{"a corner half way along an edge", straight(), pointsOf(0, 0, -8, 0, 0, 8, 0, -8, 0, 0, 8, 0, -8, 0, 0, 8, 0, 0)},
		{"a dart's prism", prism(1, 0, 0, 4, 0, 4, 4, 3, 1), pointsOf(0, 0, -8, 0, -8, 0, 8, 0, 0, -6, 2, 0, -2, 6, 0, 0, 0, 8)},
		{"a star", disc(), pointsOf(0, 0, 20, 0, 0, -20, 0, 0, 10, 0, 0, -10)},
	} {
		answersList(t, x.what, x.want, api.OK)(Areas(x.s))
	}
	thirds := but(tetra(), func(s *api.Solid) { s.Corners[1].X, s.Corners[2].Y = "2/3", "-1/2" })
	answersList(t, "fractions", []api.P3{pt("0", "0", "1/3"), pt("0", "-4/3", "0"), pt("1", "0", "0"), pt("-1", "4/3", "-1/3")}, api.OK)(Areas(thirds))
}

// curve has points no four of which lie on a plane, and all of which are corners.
func curve(n int) []api.P3 {
	var l []api.P3
	for k := range n {
		l = append(l, pointsOf(k, k*k, k*k*k)...)
	}
	return l
}

// fan are the faces around those points.
func fan(n int) [][3]int {
	var faces [][3]int
	for i := range n - 2 {
		faces = append(faces, [3]int{0, i + 2, i + 1}, [3]int{i, i + 1, n - 1})
	}
	slices.SortFunc(faces, func(a, b [3]int) int { return slices.Compare(a[:], b[:]) })
	return faces
}

func TestAround(t *testing.T) {
	four := tetra().Corners
	for _, x := range []struct {
		what string
		l    []api.P3
		want [][3]int
	}{
		{"four", four, [][3]int{{0, 1, 3}, {0, 2, 1}, {0, 3, 2}, {1, 2, 3}}},
		{"four, the other way round", pointsOf(0, 0, 0, 0, 2, 0, 2, 0, 0, 0, 0, 2), [][3]int{{0, 1, 2}, {0, 2, 3}, {0, 3, 1}, {1, 3, 2}}},
		{"written otherwise", odd().Corners, [][3]int{{0, 1, 3}, {0, 2, 1}, {0, 3, 2}, {1, 2, 3}}},
		{"the last within", append(slices.Clone(four), pt("1/3", "1/4", "1/5")), [][3]int{{0, 1, 3}, {0, 2, 1}, {0, 3, 2}, {1, 2, 3}}},
		{"the first within", append([]api.P3{pt("1/3", "1/4", "1/5")}, four...), [][3]int{{1, 2, 4}, {1, 3, 2}, {1, 4, 3}, {2, 3, 4}}},
		{"a tip above a face", append(slices.Clone(four), pt("1", "1", "2")), [][3]int{{0, 1, 3}, {0, 2, 1}, {0, 3, 2}, {1, 2, 4}, {1, 4, 3}, {2, 3, 4}}},
		{"a tip above an edge", append(slices.Clone(four), pt("2", "3", "-1")), [][3]int{{0, 1, 3}, {0, 2, 4}, {0, 3, 2}, {0, 4, 1}, {1, 4, 3}, {2, 3, 4}}},
		{"a tip beyond three faces", append(slices.Clone(four), pt("-1", "-2", "-3")), [][3]int{{1, 2, 3}, {1, 3, 4}, {1, 4, 2}, {2, 4, 3}}},
		{"hardly outside", append(slices.Clone(four), pt("1/2", "1/2", "1000000000000000000001/1000000000000000000000")), [][3]int{{0, 1, 3}, {0, 2, 1}, {0, 3, 2}, {1, 2, 4}, {1, 4, 3}, {2, 3, 4}}},
		{"hardly within", append(slices.Clone(four), pt("1/2", "1/3", "999999999999999999999/1000000000000000000000")), [][3]int{{0, 1, 3}, {0, 2, 1}, {0, 3, 2}, {1, 2, 3}}},
		{"five", curve(5), [][3]int{{0, 2, 1}, {0, 3, 2}, {0, 1, 4}, {0, 4, 3}, {1, 2, 4}, {2, 3, 4}}},
		{"as many as may be", curve(16), fan(16)},
	} {
		slices.SortFunc(x.want, func(a, b [3]int) int { return slices.Compare(a[:], b[:]) })
		answersList(t, x.what, x.want, api.OK)(Around(x.l))
	}
}

func TestAroundOfTooFewOrTooMany(t *testing.T) {
	for _, l := range [][]api.P3{nil, {}, curve(1), curve(3), curve(17), make([]api.P3, 3), make([]api.P3, 17), make([]api.P3, 5000)} {
		answersList[[3]int](t, "too few, or too many", nil, api.ErrMany)(Around(l))
	}
}

func TestAroundOfFourOnAPlane(t *testing.T) {
	// Whichever four of some points it is.
	for i := range 7 {
		for j := range i {
			for k := range j {
				l := curve(7)
				l = append(l, vectorAt(l[i]).plus(vectorAt(l[j])).less(vectorAt(l[k])).text())
				answersList[[3]int](t, "a parallelogram", nil, api.ErrFlat)(Around(l))
				slices.Reverse(l)
				answersList[[3]int](t, "a parallelogram, backwards", nil, api.ErrFlat)(Around(l))
			}
		}
	}
	for what, l := range map[string][]api.P3{
		"four in one place": make([]api.P3, 4),
		"two in one place":  append(curve(4), pt("04/2", "4", "16/2")),
		"three on a line":   append(curve(4), pt("1/2", "1/2", "1/2")),
		"four on a line":    pointsOf(0, 0, 0, 1, 1, 1, 2, 2, 2, 3, 3, 3),
		"a square":          pointsOf(0, 0, 0, 1, 0, 0, 0, 1, 0, 1, 1, 0),
		"three and within":  pointsOf(0, 0, 5, 9, 0, 5, 0, 9, 5, 1, 1, 5),
		"a cube":            cube().Corners,
		"within the others": append(pointsOf(-99, -99, -99, 200, 1, 3, 7, 300, 11, 13, 17, 400), pointsOf(1, 1, 2, 2, 1, 2, 1, 2, 2, 2, 2, 2)...),
		"sixteen":           append(curve(15), pt("3", "8", "25")),
	} {
		answersList[[3]int](t, what, nil, api.ErrFlat)(Around(l))
	}
	answersList(t, "hardly on no plane", [][3]int{{0, 1, 3}, {0, 2, 1}, {0, 3, 2}, {1, 2, 3}}, api.OK)(Around([]api.P3{pt("0", "0", "0"), pt("1", "0", "0"), pt("0", "1", "0"), pt("1", "1", "1/1000000000000000000000000000000")}))
}

// solids are right, or wrong in several ways.
func solids() map[string]api.Solid {
	return map[string]api.Solid{
		"right":     cube(),
		"not right": but(cube(), func(s *api.Solid) { s.Faces[3] = []int{0, 99, 0} }),
		"flat":      but(cube(), func(s *api.Solid) { s.Corners[7] = pt("1", "1", "1") }),
		"open":      but(cube(), func(s *api.Solid) { s.Faces = s.Faces[:5] }),
		"too many":  but(cube(), func(s *api.Solid) { s.Corners = append(s.Corners, make([]api.P3, 9)...) }),
		"nothing":   {},
	}
}

// roomy has the same as s, with spare room behind each of its lists.
func roomy(s api.Solid) api.Solid {
	made := api.Solid{Corners: append(slices.Clone(s.Corners), curve(9)...)[:len(s.Corners)]}
	for _, ring := range s.Faces {
		made.Faces = append(made.Faces, append(slices.Clone(ring), 0, 1, 2, 3, 4)[:len(ring)])
	}
	made.Faces = append(made.Faces, []int{7, 8}, []int{9})[:len(made.Faces)]
	return made
}

// TestOnlyRead: neither the lists nor the spare room behind them are changed.
func TestOnlyRead(t *testing.T) {
	calls := []func(s api.Solid){
		func(s api.Solid) { Check(s) }, func(s api.Solid) { Euler(s) }, func(s api.Solid) { Volume(s) },
		func(s api.Solid) { Areas(s) }, func(s api.Solid) { Convex(s) }, func(s api.Solid) { Around(s.Corners) },
	}
	for what, s := range solids() {
		for _, call := range calls {
			got, want := roomy(s), roomy(s)
			call(got)
			sameList(t, what, got.Corners[:cap(got.Corners)], want.Corners[:cap(want.Corners)])
			for i, ring := range want.Faces[:len(s.Faces)+2] {
				left := got.Faces[:len(s.Faces)+2][i]
				sameList(t, what, left[:cap(left)], ring[:cap(ring)])
			}
		}
	}
	for n := range 18 {
		l := curve(18)
		Around(l[:n])
		sameList(t, "around", l, curve(18))
	}
}

// TestAnswersAreNew: what is done to an answer is seen neither in what was handed in nor in the next one.
func TestAnswersAreNew(t *testing.T) {
	s := cube()
	areas := must[[]api.P3](t, "areas")(Areas(s))
	clear(areas[:cap(areas)])
	sameList(t, "areas", must[[]api.P3](t, "areas")(Areas(s)), areasIn(cube()))
	holds(t, "the solid", s)
	l := curve(6)
	faces := must[[][3]int](t, "around")(Around(l))
	clear(faces[:cap(faces)])
	sameList(t, "around", l, curve(6))
	sameList(t, "around", must[[][3]int](t, "around")(Around(l)), fan(6))
}

// TestAnswersHangOnArgumentsAlone: the order in which a map is gone through is seen in none of them.
func TestAnswersHangOnArgumentsAlone(t *testing.T) {
	for range 50 {
		answersList(t, "around", fan(12), api.OK)(Around(curve(12)))
		same(t, "check", checked(but(cube(), func(s *api.Solid) { s.Faces = s.Faces[:4] })), fault{api.ErrForm, 0})
		same(t, "right", checked(cuboctahedron()), fault{})
	}
}

func TestGreatLength(t *testing.T) {
	noughts := api.Q(strings.Repeat("0", 1000))
	great, small := "1"+noughts, "1/1"+noughts
	long := but(tetra(), func(s *api.Solid) {
		s.Corners = []api.P3{{}, pt(great, "0", "0"), pt("0", small, "0"), pt("0", "0", "7")}
	})
	holds(t, "long", long)
	same(t, "long", toldOf(t, "long", long), told{2, "7", true})
	answersList(t, "areas", []api.P3{pt("0", "0", "-1"), pt("0", "-7"+noughts, "0"), pt("-7/1"+noughts, "0", "0"), pt("7/1"+noughts, "7"+noughts, "1")}, api.OK)(Areas(long))
	answersList(t, "around", [][3]int{{0, 1, 3}, {0, 2, 1}, {0, 3, 2}, {1, 2, 3}}, api.OK)(Around(append(slices.Clone(long.Corners), pt("1", small[:len(small)-1]+"0000", "1"))))
	for nines, want := range map[api.Q]bool{"1" + api.Q(strings.Repeat("9", 1000)): true, "2" + noughts[1:] + "1": false} {
		bent := but(split(), func(s *api.Solid) { s.Corners[6].Z = nines + "/1" + noughts })
		holds(t, "hardly bent", bent)
		answers(t, "hardly bent", want, api.OK)(Convex(bent))
	}
}
