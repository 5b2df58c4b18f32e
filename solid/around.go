package solid

import (
	"slices"

	"compass/api"
	"compass/triple"
)

// sums has of each three places, rising, on which sides of their plane the other points lie, added up: 1 of each from which the three are seen against the clock, -1 of each from which they are seen with it.
type sums map[[3]int]int

// sumsOf points asks of each four but once; ErrFlat, if they lie on a plane.
func sumsOf(l []spot) (sums, api.Errno) {
	s := sums{}
	for last, from := range l {
		ways := make([]triple.Triple, last)
		for i, p := range l[:last] {
			ways[i] = from.to(p)
		}
		for k := range ways {
			for j := range k {
				across := ways[j].Cross(ways[k])
				for i := range j {
					side := across.Dot(ways[i]).Sign()
					if side == 0 {
						return nil, api.ErrFlat
					}
					s.add([4]int{i, j, k, last}, side)
				}
			}
		}
	}
	return s, api.OK
}

// add takes the side of the three others on which the first of four places lies, which rise: from one place to the next it changes.
func (s sums) add(four [4]int, side int) {
	for i := range four {
		s[without(four, i)] += side
		side = -side
	}
}

// without leaves out place i.
func without(four [4]int, i int) [3]int { return [3]int(slices.Delete(four[:], i, i+1)) }
