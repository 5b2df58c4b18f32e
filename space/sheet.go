package space

import (
	"compass/api"
	"compass/num"
	"compass/triple"
)

// sheet is a plane: it has all points p for which across . p and d are 0 together. across is the way at right angles to it, which isn't 0.
type sheet struct {
	across triple.Triple
	d      num.Q
}

// readSheet is the plain form of what the texts of a plane tell; ErrFlat, if that is no plane.
func readSheet(e api.E) (sheet, api.Errno) {
	read := sheet{triple.Read(api.P3{X: e.A, Y: e.B, Z: e.C}), num.Read(e.D)}
	if read.across.Nothing() {
		return sheet{}, api.ErrFlat
	}
	return read.plain(), api.OK
}

// square is the plane through p at right angles to a way; ErrFlat, if that one is 0.
func square(p, across triple.Triple) (sheet, api.Errno) {
	if across.Nothing() {
		return sheet{}, api.ErrFlat
	}
	return sheet{across, across.Dot(p).Negative()}.plain(), api.OK
}

// between has all points that are as far from p as from q; ErrFlat, if both are one.
func between(p, q triple.Triple) (sheet, api.Errno) {
	return square(p.Plus(q).Over(num.Int(2)), q.Minus(p))
}

// plain is s as whole numbers, which are reckoned with sooner than fractions.
func (s sheet) plain() sheet {
	plain := num.Plain(s.across[0], s.across[1], s.across[2], s.d)
	return sheet{triple.Triple{plain[0], plain[1], plain[2]}, plain[3]}
}

// answer is a plane, which is in plain form, as it is answered: nothing beside an error.
func answer(s sheet, e api.Errno) (api.E, api.Errno) {
	if e != api.OK {
		return api.E{}, e
	}
	return api.E{A: s.across[0].Text(), B: s.across[1].Text(), C: s.across[2].Text(), D: s.d.Text()}, api.OK
}

// value is A x + B y + C z + D.
func (s sheet) value(p triple.Triple) num.Q { return s.across.Dot(p).Plus(s.d) }

// pierce is where the line from p along a way goes through s; ErrFree, if all of it is in s, ErrNone, if nothing.
func (s sheet) pierce(p, along triple.Triple) (triple.Triple, api.Errno) {
	value, grows := s.value(p), s.across.Dot(along)
	switch {
	case grows.Sign() != 0:
		return p.Minus(along.Times(value.Over(grows))), api.OK
	case value.Sign() == 0:
		return triple.Triple{}, api.ErrFree
	default:
		return triple.Triple{}, api.ErrNone
	}
}

// beside tells if both have no point in common.
func (s sheet) beside(t sheet) bool {
	return s.across.Cross(t.across).Nothing() && !s.across.Times(t.d).Minus(t.across.Times(s.d)).Nothing()
}

// meet is the point of three planes; ErrNone, if they have none in common, ErrFree, if more than one.
//
// What undoes the table of their ways across makes of their last numbers the point, but for a factor. If that factor is 0, and not all three lie beside each other, what it makes is the way of the line of two planes, so many times as the third one passes that line by: 0 just if all share the line. If all lie beside each other, it is 0 anyway.
func meet(l [3]sheet) (triple.Triple, api.Errno) {
	rows := triple.Table{l[0].across, l[1].across, l[2].across}
	factor := rows.Determinant()
	made := rows.Back().Times(triple.Triple{l[0].d, l[1].d, l[2].d})
	switch {
	case factor.Sign() != 0:
		return made.Over(factor.Negative()), api.OK
	case !made.Nothing() || l[0].beside(l[1]) || l[0].beside(l[2]):
		return triple.Triple{}, api.ErrNone
	default:
		return triple.Triple{}, api.ErrFree
	}
}
