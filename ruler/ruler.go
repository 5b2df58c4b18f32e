// Package ruler has lines of the plane: what api.L tells as texts.
package ruler

import (
	"compass/api"
	"compass/num"
	"compass/way"
)

// Line has all points p for which Across . p and C are 0 together. Across is the way at right angles to it, which isn't 0.
type Line struct {
	Across way.Way
	C      num.Q
}

// Read is what the texts of a line tell, not made plain; ErrFlat, if that is no line.
func Read(l api.L) (Line, api.Errno) {
	read := Line{way.Read(api.P{X: l.A, Y: l.B}), num.Read(l.C)}
	if read.Across.Nowhere() {
		return Line{}, api.ErrFlat
	}
	return read, api.OK
}

// Text is the line as it is answered: in plain form.
func (l Line) Text() api.L {
	plain := num.Plain(l.Across.X, l.Across.Y, l.C)
	return api.L{A: plain[0].Text(), B: plain[1].Text(), C: plain[2].Text()}
}

// Square is the line through p at right angles to a way that isn't 0.
func Square(p, across way.Way) Line { return Line{across, across.Dot(p).Negative()} }

// Value is A x + B y + C, of the line as it stands.
func (l Line) Value(p way.Way) num.Q {
	return num.Sum(l.Across.X.Times(p.X), l.Across.Y.Times(p.Y), l.C)
}

// Side is the sign of Value in plain form, without making it: only the sign of the first number counts.
func (l Line) Side(p way.Way) int {
	first := l.Across.X.Sign()
	if first == 0 {
		first = l.Across.Y.Sign()
	}
	return first * l.Value(p).Sign()
}

// Drop is the way from p to its foot.
func (l Line) Drop(p way.Way) way.Way {
	return l.Across.Times(l.Value(p).Negative()).Over(l.Across.Dot(l.Across))
}

// Far2 is the square of the distance of p: with one division, where the length of Drop would need more.
func (l Line) Far2(p way.Way) num.Q {
	v := l.Value(p)
	return v.Times(v).Over(l.Across.Dot(l.Across))
}

// Meet is the point that both have in common; ErrFree, if both are the same line, ErrNone, if there is none.
func Meet(l, m Line) (way.Way, api.Errno) {
	turn := l.Across.Cross(m.Across)
	// What is left over of A and B once C is taken out of both: it points to where they meet and, of lines beside each other, is 0 just if they are the same.
	mixed := m.Across.Times(l.C).Minus(l.Across.Times(m.C))
	switch {
	case turn.Sign() != 0:
		return mixed.Left().Over(turn), api.OK
	case mixed.Nowhere():
		return way.Way{}, api.ErrFree
	default:
		return way.Way{}, api.ErrNone
	}
}
