package solid

import (
	"slices"

	"compass/api"
)

// body is what was read of a solid.
type body struct {
	corners []spot
	faces   []face
	edges   map[[2]int]struct{} // of all faces, by the numbers of the corners from which and to which they run
}

// read is what the texts of a solid tell; else what is wrong, and of which face it is told.
func read(s api.Solid) (b body, e api.Errno, at int) {
	if !among(len(s.Corners), 4, api.MaxPoints) || !among(len(s.Faces), 4, api.MaxFaces) {
		return body{}, api.ErrMany, 0
	}
	b = body{corners: readSpots(s.Corners), edges: map[[2]int]struct{}{}}
	for i, ring := range s.Faces {
		if e := b.add(ring); e != api.OK {
			return body{}, e, i
		}
	}
	if i := slices.IndexFunc(b.faces, b.open); i >= 0 {
		return body{}, api.ErrForm, i
	}
	if b.bare() {
		return body{}, api.ErrCount, len(b.faces)
	}
	return b, api.OK, 0
}

// among tells if n is neither less than least nor more than most.
func among(n, least, most int) bool { return least <= n && n <= most }

// add puts a face behind those that are there; an Errno, if it is none, or can't go with them.
func (b *body) add(ring []int) api.Errno {
	if e := b.check(ring); e != api.OK {
		return e
	}
	for _, edge := range edgesOf(ring) {
		if _, had := b.edges[edge]; had {
			return api.ErrForm
		}
		b.edges[edge] = struct{}{}
	}
	f := faceOf(ring, b.corners)
	if !f.flat() {
		return api.ErrFlat
	}
	b.faces = append(b.faces, f)
	return api.OK
}

// check tells of the first corner of a ring that can't be one.
func (b *body) check(ring []int) api.Errno {
	if !among(len(ring), 3, api.MaxCorners) {
		return api.ErrMany
	}
	for i, corner := range ring {
		if !among(corner, 0, len(b.corners)-1) {
			return api.ErrWho
		}
		if slices.Contains(ring[:i], corner) {
			return api.ErrTwice
		}
	}
	return api.OK
}

// open tells if f has an edge that no face has the other way.
func (b *body) open(f face) bool {
	return slices.ContainsFunc(edgesOf(f.ring), func(edge [2]int) bool {
		_, had := b.edges[[2]int{edge[1], edge[0]}]
		return !had
	})
}

// bare tells if there is a corner that no face has: then no edge runs from it.
func (b *body) bare() bool {
	var had [api.MaxPoints]bool
	for edge := range b.edges {
		had[edge[0]] = true
	}
	return slices.Contains(had[:len(b.corners)], false)
}
