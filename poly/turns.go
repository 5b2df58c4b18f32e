package poly

import (
	"slices"

	"compass/api"
	"compass/triple"
)

// turns has of each three corners of a ring the sign by which they turn: they are asked for again and again.
type turns [api.MaxCorners][api.MaxCorners][api.MaxCorners]int

// turnsOf reckons with whole numbers, as only signs are asked for.
func turnsOf(r ring) *turns {
	var points [api.MaxCorners]triple.Triple
	for i, p := range r {
		points[i] = triple.Whole(p)
	}
	t := &turns{}
	for k := range r {
		for j := range k {
			line := points[j].Cross(points[k])
			for i := range j {
				t.tell([3]int{i, j, k}, line.Dot(points[i]).Sign())
			}
		}
	}
	return t
}

// tell writes down by which sign three corners turn, whichever of them is asked for first, and which way around.
func (t *turns) tell(at [3]int, sign int) {
	for range at {
		t[at[0]][at[1]][at[2]], t[at[2]][at[1]][at[0]] = sign, -sign
		at = [3]int{at[1], at[2], at[0]}
	}
}

// simple: no corner lies on an edge that it doesn't end, and no two edges cross. No more need be asked: if corners are one, or edges touch, or fold back on the one ahead, a corner lies so.
func (r ring) simple(t *turns) bool {
	for i := range r {
		for j := range r {
			if r.rests(t, i, j) || r.cross(t, i, j) {
				return false
			}
		}
	}
	return true
}

// rests tells if corner k lies on the edge from corner i, without ending it.
func (r ring) rests(t *turns, i, k int) bool {
	next := r.next(i)
	return k != i && k != next && t[i][next][k] == 0 && between(r[i], r[next], r[k])
}

// cross tells if the edges from corners i and j have a point in common that is an end of neither.
func (r ring) cross(t *turns, i, j int) bool {
	iNext, jNext := r.next(i), r.next(j)
	return t[i][iNext][j]*t[i][iNext][jNext] < 0 && t[j][jNext][i]*t[j][jNext][iNext] < 0
}

// convex is asked of a simple ring.
func (r ring) convex(t *turns) bool {
	whole := r.area2().Sign()
	for i := range r {
		if next := r.next(i); t[i][next][r.next(next)] != whole {
			return false
		}
	}
	return true
}

// ears are cut off a simple ring, one by one; what is left is simple again.
func (r ring) ears(t *turns) [][3]int {
	var left []int
	for i := range r {
		left = append(left, i)
	}
	whole := r.area2().Sign()
	var ears [][3]int
	for len(left) > 3 {
		at := t.firstEar(left, whole)
		ears = append(ears, around(left, at))
		left = slices.Delete(left, at, at+1)
	}
	return append(ears, [3]int(left))
}

// firstEar is where it lies among the corners that are left. If it is none of those ahead, it is the last one: every simple ring has an ear (Meisters), so that this ends.
func (t *turns) firstEar(left []int, whole int) int {
	last := len(left) - 1
	for at := range last {
		if t.isEar(around(left, at), left, whole) {
			return at
		}
	}
	return last
}

// around is a corner of those that are left, between its neighbours.
func around(left []int, at int) [3]int {
	n := len(left)
	return [3]int{left[(at+n-1)%n], left[at], left[(at+1)%n]}
}

// isEar tells if the ring turns at the middle one of three neighbours as it does on the whole, and no other corner of those that are left lies in their triangle or on its edges.
func (t *turns) isEar(ear [3]int, left []int, whole int) bool {
	a, b, c := ear[0], ear[1], ear[2]
	if t[a][b][c] != whole {
		return false
	}
	return !slices.ContainsFunc(left, func(p int) bool {
		return !slices.Contains(ear[:], p) && t[a][b][p] != -whole && t[b][c][p] != -whole && t[c][a][p] != -whole
	})
}
