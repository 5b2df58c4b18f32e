package solid

import (
	"slices"

	"compass/num"
	"compass/triple"
)

// face has a ring of corners: by their numbers, and as spots.
type face struct {
	ring  []int
	spots []spot
	area  triple.Triple
	out   triple.Triple // area more than 0 times: so many that it is whole
}

func faceOf(ring []int, corners []spot) face {
	f := face{ring: ring, spots: make([]spot, len(ring))}
	for i, corner := range ring {
		f.spots[i] = corners[corner]
	}
	f.area = areaOf(f.spots)
	f.out = spotAt(f.area).whole
	return f
}

// edgesOf a ring run from each corner to the next, from the last to the first.
func edgesOf(ring []int) [][2]int {
	edges := make([][2]int, len(ring))
	for i, corner := range ring {
		edges[i] = [2]int{corner, ring[(i+1)%len(ring)]}
	}
	return edges
}

// areaOf a ring needn't look at it from its first corner: as the ring is closed, it comes to the same from wherever one looks.
func areaOf(ring []spot) triple.Triple {
	var area triple.Triple
	for i, p := range ring {
		area = area.Plus(p.Cross(ring[(i+1)%len(ring)].Triple))
	}
	return area
}

// side is 1 of what lies on the side to which the area points, 0 of what lies on the plane, -1 of what lies on the other side.
func (f face) side(p spot) int { return f.out.Dot(f.spots[0].to(p)).Sign() }

// flat tells if all corners lie on a plane, and make an area.
func (f face) flat() bool {
	return !f.area.Nothing() && !slices.ContainsFunc(f.spots, func(p spot) bool { return f.side(p) != 0 })
}

// volume is that of what lies between the face and the origin, six times. On a flat face each point, times the area, is as much.
func (f face) volume() num.Q { return f.spots[0].Dot(f.area) }

// ahead tells if there are other corners, and all of them lie on the other side.
func (f face) ahead(corners []spot) bool {
	for i, p := range corners {
		if !slices.Contains(f.ring, i) && f.side(p) >= 0 {
			return false
		}
	}
	return len(f.ring) < len(corners)
}

// round tells if each three corners, in their order, turn as the area says. To ask it of those that follow each other is not enough: a ring that goes round twice turns so, too.
func (f face) round() bool {
	for k, c := range f.spots {
		for j, b := range f.spots[:k] {
			for _, a := range f.spots[:j] {
				if f.out.Dot(a.to(b).Cross(a.to(c))).Sign() <= 0 {
					return false
				}
			}
		}
	}
	return true
}
