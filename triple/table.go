package triple

import "compass/num"

// Table of three rows: it takes points to points, if its determinant isn't 0.
type Table [3]Triple

// Times is what the rows make of u.
func (t Table) Times(u Triple) Triple { return Triple{t[0].Dot(u), t[1].Dot(u), t[2].Dot(u)} }

// After is s, then t.
func (t Table) After(s Table) Table {
	columns := s.Turned()
	return Table{columns.Times(t[0]), columns.Times(t[1]), columns.Times(t[2])}
}

// Turned has the columns as rows.
func (t Table) Turned() Table {
	var made Table
	for i := range made {
		made[i] = Triple{t[0][i], t[1][i], t[2][i]}
	}
	return made
}

// Across has the Cross of both other rows in each place. It takes lines to lines: if t takes points to p and q, it takes the line through those points to the Cross of p and q.
func (t Table) Across() Table { return Table{t[1].Cross(t[2]), t[2].Cross(t[0]), t[0].Cross(t[1])} }

// Back undoes t, but for a factor: the determinant.
func (t Table) Back() Table { return t.Across().Turned() }

// Determinant is 0 just if the rows are three points on a line, or three lines through a point.
func (t Table) Determinant() num.Q { return t[0].Dot(t[1].Cross(t[2])) }
