package poly

import (
	"compass/api"
	"compass/num"
)

// whole is each corner as machine numbers; ErrValue, unless all are whole numbers within the bounds.
func (r ring) whole() ([][2]int, api.Errno) {
	corners := make([][2]int, len(r))
	for i, p := range r {
		for j, q := range [2]num.Q{p.X, p.Y} {
			n, ok := q.Whole()
			if !ok || n < -api.MaxGrid || n > api.MaxGrid {
				return nil, api.ErrValue
			}
			corners[i][j] = n
		}
	}
	return corners, api.OK
}

// count is how many points of whole numbers lie within a simple ring, and on its edges. Those within need not be gone through: twice the area tells them (Pick).
func count(corners [][2]int) (within, on int) {
	area := 0
	for i, p := range corners {
		q := corners[(i+1)%len(corners)]
		area += p[0]*q[1] - p[1]*q[0]
		// An edge without its end has as many as there are equal steps of whole numbers along it.
		on += divisor(q[0]-p[0], q[1]-p[1])
	}
	return (max(area, -area) - on + 2) / 2, on
}

// divisor is the greatest common one.
func divisor(a, b int) int {
	for b != 0 {
		a, b = b, a%b
	}
	return max(a, -a)
}
