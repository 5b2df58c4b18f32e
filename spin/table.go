package spin

import (
	"compass/api"
	"compass/num"
	"compass/triple"
)

// turning is what a does to ways: of v it makes a v over a; ErrNone, if a is 0.
func turning(a quaternion) (func(v triple.Triple) triple.Triple, api.Errno) {
	// However often a is taken, it turns alike: so whole numbers will do.
	a = a.plain()
	back, norm := a.conjugate(), a.norm()
	if norm.Sign() == 0 {
		return nil, api.ErrNone
	}
	return func(v triple.Triple) triple.Triple {
		return a.times(of(num.Q{}, v)).times(back).way().Over(norm)
	}, api.OK
}

// drawn is the table that makes of every way what f makes of it: what becomes of i, j and k are its columns.
func drawn(f func(v triple.Triple) triple.Triple) triple.Table {
	ones := units()
	var columns triple.Table
	for i := range columns {
		columns[i] = f(ones[i+1].way())
	}
	return columns.Turned()
}

// readTable is what the texts tell, which run row by row.
func readTable(l [9]api.Q) triple.Table {
	var t triple.Table
	for i, q := range l {
		t[i/3][i%3] = num.Read(q)
	}
	return t
}

func tableText(t triple.Table) [9]api.Q {
	var l [9]api.Q
	for i := range l {
		l[i] = t[i/3][i%3].Text()
	}
	return l
}

// keeps tells if lengths, right angles and sides stay: the rows are as long as 1, at right angles, and the determinant is above 0.
func keeps(t triple.Table) bool {
	for i, row := range t {
		if !isOne(row.Length2()) || row.Dot(t[(i+1)%3]).Sign() != 0 {
			return false
		}
	}
	return t.Determinant().Sign() > 0
}

func isOne(q num.Q) bool { return q.Minus(num.Int(1)).Sign() == 0 }

// turner is the quaternion whose table is t, which keeps all; the first of its numbers that isn't 0 is 1.
//
// Say it is a. Of each unit e, t makes a e over a: 1 of 1, its columns of i, j and k. For any p, let p' be what a on its left makes p. Then all of (a e over a) p over e add up to a times all of e p' over e; and those add up to four times the W of p', as 1 and i keep i, say, and j and k turn it round. So the sum is a so many times: of p = 1, i, j or k none of it just if a hasn't that unit.
func turner(t triple.Table) quaternion {
	ones, columns := units(), t.Turned()
	many := func(p quaternion) quaternion {
		sum := p
		for i, column := range columns {
			sum = sum.plus(of(num.Q{}, column).times(p).times(ones[i+1].conjugate()))
		}
		return sum
	}
	var found quaternion
	for _, p := range ones {
		if found = many(p); found.first().Sign() != 0 {
			break
		}
	}
	return found.over(found.first())
}
