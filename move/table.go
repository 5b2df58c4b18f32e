package move

import (
	"slices"

	"compass/api"
	"compass/num"
	"compass/ruler"
	"compass/triple"
	"compass/way"
)

// table of a map: the ways that it makes of the ways 1, 0 and 0, 1, and the point that it makes of the origin.
type table [3]way.Way

func right() way.Way { return way.Way{X: num.Int(1)} }

func up() way.Way { return way.Way{Y: num.Int(1)} }

// readTable is what the texts tell, which run row by row.
func readTable(a api.A) table {
	column := func(i int) way.Way { return way.Read(api.P{X: a[i], Y: a[i+3]}) }
	return table{column(0), column(1), column(2)}
}

// text is the map as it is answered: number by number.
func (t table) text() api.A {
	var a api.A
	for i, w := range t {
		p := w.Text()
		a[i], a[i+3] = p.X, p.Y
	}
	return a
}

// frame takes the origin and the points 1, 0 and 0, 1 to those three.
func frame(l [3]api.P) table {
	origin := way.Read(l[0])
	return table{way.Read(l[1]).Minus(origin), way.Read(l[2]).Minus(origin), origin}
}

// drawn is the map that makes of every point what f makes of it: three of them tell it.
func drawn(f func(p way.Way) way.Way) table {
	origin := f(way.Way{})
	return table{f(right()).Minus(origin), f(up()).Minus(origin), origin}
}

// mirror at a line.
func mirror(l ruler.Line) table {
	return drawn(func(p way.Way) way.Way { return p.Plus(l.Drop(p).Times(num.Int(2))) })
}

// spin multiplies the way from m by z, as complex numbers.
func spin(m, z way.Way) table {
	return drawn(func(p way.Way) way.Way { return m.Plus(p.Minus(m).Product(z)) })
}

// along is the way that the map makes of a way: where that one starts doesn't count.
func (t table) along(w way.Way) way.Way { return t[0].Times(w.X).Plus(t[1].Times(w.Y)) }

// at is the point that the map makes of a point.
func (t table) at(p way.Way) way.Way { return t.along(p).Plus(t[2]) }

// after is s, then t.
func (t table) after(s table) table { return table{t.along(s[0]), t.along(s[1]), t.at(s[2])} }

// determinant is how many times as great areas become.
func (t table) determinant() num.Q { return t[0].Cross(t[1]) }

// back undoes t; ErrFlat, if t takes all to a line or a point.
func (t table) back() (table, api.Errno) {
	whole := t.determinant()
	if whole.Sign() == 0 {
		return table{}, api.ErrFlat
	}
	// The way of which t makes w (Cramer).
	undone := func(w way.Way) way.Way { return way.Way{X: w.Cross(t[1]), Y: t[0].Cross(w)}.Over(whole) }
	return table{undone(right()), undone(up()), undone(t[2]).Negative()}, api.OK
}

// gone is how far a point goes to the right, and how far up, each as the numbers of a line: a point that stays makes 0 of both.
func (t table) gone() [2]triple.Triple {
	x, y := t[0].Minus(right()), t[1].Minus(up())
	return [2]triple.Triple{{x.X, y.X, t[2].X}, {x.Y, y.Y, t[2].Y}}
}

// keepsDistances: the ways 1, 0 and 0, 1 stay as long as they are, and at right angles.
func (t table) keepsDistances() bool {
	isOne := func(q num.Q) bool { return q.Minus(num.Int(1)).Sign() == 0 }
	return isOne(t[0].Dot(t[0])) && isOne(t[1].Dot(t[1])) && t[0].Dot(t[1]).Sign() == 0
}

// kind of a map that keeps distances.
func (t table) kind() int {
	flips := t.determinant().Sign() < 0
	switch {
	// Twice a mirror, and a shift along it, is twice that shift.
	case flips && t.at(t.at(way.Way{})).Nowhere():
		return api.Mirror
	case flips:
		return api.Glide
	case !t[0].Minus(right()).Nowhere():
		return api.Spin
	case !t[2].Nowhere():
		return api.Shift
	default:
		return api.Still
	}
}

// mirrors are lines that, one after the other, do what t does, which keeps distances: as few as can be.
//
// Three points are brought back, one by one, each by a mirror at the line between it and where it is. Those that are back already lie on that line, as they are as far from both: so they stay. What brings all back is t undone, so t is the same mirrors from the last to the first.
func (t table) mirrors() []ruler.Line {
	var l []ruler.Line
	for _, p := range [3]way.Way{{}, right(), up()} {
		gone := t.at(p).Minus(p)
		if gone.Nowhere() {
			continue
		}
		between := ruler.Square(p.Plus(gone.Over(num.Int(2))), gone)
		t = mirror(between).after(t)
		l = append(l, between)
	}
	slices.Reverse(l)
	return l
}
