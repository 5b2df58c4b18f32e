package solid

import (
	"slices"

	"compass/api"
)

// tetra has three edges along the axes.
func tetra() api.Solid {
	return api.Solid{Corners: pointsOf(0, 0, 0, 2, 0, 0, 0, 2, 0, 0, 0, 2), Faces: [][]int{{0, 2, 1}, {0, 1, 3}, {0, 3, 2}, {1, 2, 3}}}
}

func cube() api.Solid {
	return api.Solid{
		Corners: pointsOf(0, 0, 0, 2, 0, 0, 0, 2, 0, 2, 2, 0, 0, 0, 2, 2, 0, 2, 0, 2, 2, 2, 2, 2),
		Faces:   [][]int{{0, 2, 3, 1}, {4, 5, 7, 6}, {0, 1, 5, 4}, {2, 6, 7, 3}, {0, 4, 6, 2}, {1, 3, 7, 5}},
	}
}

// copied shares nothing with s.
func copied(s api.Solid) api.Solid {
	made := api.Solid{Corners: slices.Clone(s.Corners)}
	for _, ring := range s.Faces {
		made.Faces = append(made.Faces, slices.Clone(ring))
	}
	return made
}

// but is s with something done to it.
func but(s api.Solid, do func(s *api.Solid)) api.Solid {
	made := copied(s)
	do(&made)
	return made
}

// insideOut has each face turned round.
func insideOut(s api.Solid) api.Solid {
	return but(s, func(s *api.Solid) {
		for _, ring := range s.Faces {
			slices.Reverse(ring)
		}
	})
}

// together has both, the last corners of the first being the first ones of the second: as many as are shared.
func together(a, b api.Solid, shared int) api.Solid {
	made := copied(a)
	from := len(a.Corners) - shared
	made.Corners = append(made.Corners, b.Corners[shared:]...)
	for _, ring := range b.Faces {
		var moved []int
		for _, corner := range ring {
			moved = append(moved, corner+from)
		}
		made.Faces = append(made.Faces, moved)
	}
	return made
}

// levelAt has corners of one height, X and Y in turn.
func levelAt(height int, l []int) []api.P3 {
	var made []int
	for i := 0; i < len(l); i += 2 {
		made = append(made, l[i], l[i+1], height)
	}
	return pointsOf(made...)
}

// down is n corners, the last ahead.
func down(n int) []int {
	var ring []int
	for i := range n {
		ring = append(ring, n-1-i)
	}
	return ring
}

// prism stands on a ring of level corners, X and Y in turn, which run against the clock.
func prism(height int, l ...int) api.Solid {
	n := len(l) / 2
	s := api.Solid{Corners: append(levelAt(0, l), levelAt(height, l)...), Faces: [][]int{down(n)}}
	var top []int
	for i := range n {
		top = append(top, n+i)
		s.Faces = append(s.Faces, []int{i, (i + 1) % n, n + (i+1)%n, n + i})
	}
	s.Faces = append(s.Faces, top)
	return s
}

// pyramid stands on such a ring, with its tip as high above the first corner.
func pyramid(height int, l ...int) api.Solid {
	n := len(l) / 2
	s := api.Solid{Corners: append(levelAt(0, l), levelAt(height, l[:2])...), Faces: [][]int{down(n)}}
	for i := range n {
		s.Faces = append(s.Faces, []int{i, (i + 1) % n, n})
	}
	return s
}

// double has a tip above such a ring, and one below, or above, too.
func double(over, under int, l ...int) api.Solid {
	s := pyramid(over, l...)
	n := len(l) / 2
	s.Corners = append(s.Corners, levelAt(under, l[:2])...)
	s.Faces = s.Faces[1:]
	for i := range n {
		s.Faces = append(s.Faces, []int{(i + 1) % n, i, n + 1})
	}
	return s
}

// bowl has n corners of a convex ring.
func bowl(n int) []int {
	var l []int
	for k := range n {
		l = append(l, k, k*k)
	}
	return l
}

func octagon() []int { return []int{1, 0, 2, 0, 3, 1, 3, 2, 2, 3, 1, 3, 0, 2, 0, 1} }

// cuboctahedron has squares and triangles: as many faces as may be.
func cuboctahedron() api.Solid {
	return api.Solid{
		Corners: pointsOf(1, 1, 0, 1, -1, 0, -1, 1, 0, -1, -1, 0, 1, 0, 1, 1, 0, -1, -1, 0, 1, -1, 0, -1, 0, 1, 1, 0, 1, -1, 0, -1, 1, 0, -1, -1),
		Faces: [][]int{
			{0, 4, 1, 5}, {2, 7, 3, 6}, {8, 0, 9, 2}, {10, 3, 11, 1}, {4, 8, 6, 10}, {5, 11, 7, 9},
			{0, 8, 4}, {0, 5, 9}, {1, 4, 10}, {1, 11, 5}, {2, 6, 8}, {2, 9, 7}, {3, 10, 6}, {3, 7, 11},
		},
	}
}

// most has as many corners, and as many faces, as may be: some sides of a prism consist of two.
func most() api.Solid {
	return but(prism(4, octagon()...), func(s *api.Solid) {
		for i := 1; i < 5; i++ {
			r := s.Faces[i]
			s.Faces[i] = []int{r[0], r[1], r[2]}
			s.Faces = append(s.Faces, []int{r[0], r[2], r[3]})
		}
	})
}

// frame is a ring with a hole through it.
func frame() api.Solid {
	s := api.Solid{Corners: pointsOf(6, 0, 0, 2, 0, 1, 2, 0, -1, 0, 6, 0, 0, 2, 1, 0, 2, -1, -6, -6, 0, -2, -2, 1, -2, -2, -1)}
	for i := 0; i < 9; i += 3 {
		j := (i + 3) % 9
		s.Faces = append(s.Faces, []int{i, j, j + 1, i + 1}, []int{i + 1, j + 1, j + 2, i + 2}, []int{i + 2, j + 2, j, i})
	}
	return s
}

// seven has an edge from each corner to each other one, as there can be on a ring with a hole (Möbius); its faces go through each other.
func seven() api.Solid {
	var s api.Solid
	for i := range 7 {
		s.Corners = append(s.Corners, pointsOf(i, i*i, i*i*i)...)
		s.Faces = append(s.Faces, []int{i, (i + 1) % 7, (i + 3) % 7}, []int{i, (i + 3) % 7, (i + 2) % 7})
	}
	return s
}

// knot is a pyramid below a hexagon of which two faces have all corners: each of them turns left at each corner, but goes round more than once.
func knot() api.Solid {
	s := api.Solid{Corners: append(levelAt(0, []int{1, 0, 2, 0, 3, 1, 3, 2, 2, 3, 0, 1}), pointsOf(1, 1, -1)...), Faces: [][]int{{0, 1, 4, 5, 2, 3}, {0, 3, 4, 1, 2, 5}}}
	for i := range 6 {
		s.Faces = append(s.Faces, []int{(i + 1) % 6, i, 6})
	}
	return s
}

// disc is a pentagon from above and from below, and the star within it likewise.
func disc() api.Solid {
	return api.Solid{Corners: levelAt(0, bowl(5)), Faces: [][]int{{0, 1, 2, 3, 4}, {4, 3, 2, 1, 0}, {0, 2, 4, 1, 3}, {3, 1, 4, 2, 0}}}
}

// straight is a cube with a corner half way along an edge.
func straight() api.Solid {
	return but(cube(), func(s *api.Solid) {
		s.Corners = append(s.Corners, pointsOf(1, 0, 0)...)
		s.Faces[0] = []int{0, 2, 3, 1, 8}
		s.Faces[2] = []int{0, 8, 1, 5, 4}
	})
}

// split is a cube, one face of which is parted in two.
func split() api.Solid {
	return but(cube(), func(s *api.Solid) {
		s.Faces[1] = []int{4, 5, 7}
		s.Faces = append(s.Faces, []int{4, 7, 6})
	})
}

// odd is tetra, with what is no fraction, and so is 0, and what is written otherwise than it is answered.
func odd() api.Solid {
	return but(tetra(), func(s *api.Solid) {
		s.Corners = []api.P3{pt("x", "1/0", ""), pt("04/2", "-0", "1."), pt("-", "2/01", "+1"), pt("0/3", "--1", "002")}
	})
}
