package half

import (
	"slices"

	"compass/api"
	"compass/num"
	"compass/ruler"
	"compass/triple"
	"compass/way"
)

// half has all points at which its line isn't below 0. Beside the line stands the same in whole numbers, by which sides are told sooner.
type half struct {
	ruler.Line
	whole triple.Triple
}

// read is what the texts of halves tell; ErrMany, if there are too many, ErrFlat, if one is no line.
func read(l []api.L) ([]half, api.Errno) {
	if len(l) > api.MaxHalves {
		return nil, api.ErrMany
	}
	halves := make([]half, len(l))
	for i, text := range l {
		line, e := ruler.Read(text)
		if e != api.OK {
			return nil, e
		}
		halves[i] = half{line, wholeOf(line)}
	}
	return halves, api.OK
}

// wholeOf is a line in whole numbers, with its sides as they are: the 1 ahead is above 0 already, so that no sign changes.
func wholeOf(l ruler.Line) triple.Triple {
	plain := num.Plain(num.Int(1), l.Across.X, l.Across.Y, l.C)
	return triple.Triple{plain[1], plain[2], plain[3]}
}

// pointOf is the point that a spot stands for.
func pointOf(spot triple.Triple) way.Way { return way.Way{X: spot[0], Y: spot[1]}.Over(spot[2]) }

// side is 1 of a spot within the half, 0 of one on its line, -1 of one outside.
func (h half) side(spot triple.Triple) int { return h.whole.Dot(spot).Sign() }

// foot is where the line through the origin at right angles to the half's own meets that one.
func (h half) foot() triple.Triple {
	return h.whole.Cross(triple.Triple{h.whole[1].Negative(), h.whole[0], {}})
}

// spots are points in whole numbers, the last above 0: the origin, its foot on each line, and where each two lines meet.
//
// Whichever of the halves have a point in common have one of these in common. If two of their lines cross, what is common to them has a corner, where two lines meet; if all lie beside each other, it has all of one line, and so the foot; and without any half, it has the origin.
func spots(halves []half) []triple.Triple {
	made := []triple.Triple{triple.Whole(way.Way{})}
	for i, h := range halves {
		made = append(made, h.foot())
		for _, g := range halves[:i] {
			meet := h.whole.Cross(g.whole)
			if sign := meet[2].Sign(); sign != 0 {
				made = append(made, meet.Times(num.Int(sign)))
			}
		}
	}
	return made
}

// holder tells of a spot if it lies in all halves.
func holder(halves []half) func(spot triple.Triple) bool {
	return func(spot triple.Triple) bool {
		return !slices.ContainsFunc(halves, func(h half) bool { return h.side(spot) < 0 })
	}
}

// sharer tells of any three halves, by their places, if they have a point in common.
func sharer(halves []half) func(i, j, k int) bool {
	var rows [][api.MaxHalves]bool
	for _, spot := range spots(halves) {
		var row [api.MaxHalves]bool
		for i, h := range halves {
			row[i] = h.side(spot) >= 0
		}
		rows = append(rows, row)
	}
	return func(i, j, k int) bool {
		return slices.ContainsFunc(rows, func(row [api.MaxHalves]bool) bool { return row[i] && row[j] && row[k] })
	}
}
