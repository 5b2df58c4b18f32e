package project

import (
	"compass/api"
	"compass/num"
	"compass/triple"
)

// readTriple is the plain form of what the texts tell, as whole numbers are reckoned with sooner than fractions; ErrFlat, if that is neither a point nor a line.
func readTriple(h api.H) (triple.Triple, api.Errno) {
	var read triple.Triple
	for i, q := range h {
		read[i] = num.Read(q)
	}
	if read.Nothing() {
		return triple.Triple{}, api.ErrFlat
	}
	plain := num.Plain(read[:]...)
	return triple.Triple{plain[0], plain[1], plain[2]}, api.OK
}

// tripleText is a point or a line as it is answered: in plain form.
func tripleText(t triple.Triple) api.H {
	var h api.H
	for i, q := range num.Plain(t[:]...) {
		h[i] = q.Text()
	}
	return h
}

func readBoth(a, b api.H) (first, second triple.Triple, e api.Errno) {
	first, e = readTriple(a)
	if e != api.OK {
		return triple.Triple{}, triple.Triple{}, e
	}
	second, e = readTriple(b)
	if e != api.OK {
		return triple.Triple{}, triple.Triple{}, e
	}
	return first, second, api.OK
}

// readRow reads points of one line: one by one ErrFlat, and ErrTwice if it is one ahead; then ErrNone, unless they lie on a line.
func readRow(l ...api.H) ([]triple.Triple, api.Errno) {
	var row []triple.Triple
	for _, h := range l {
		next, e := readTriple(h)
		if e != api.OK {
			return nil, e
		}
		for _, ahead := range row {
			if ahead.Cross(next).Nothing() {
				return nil, api.ErrTwice
			}
		}
		row = append(row, next)
	}
	join := row[0].Cross(row[1])
	for _, p := range row[2:] {
		if p.Dot(join).Sign() != 0 {
			return nil, api.ErrNone
		}
	}
	return row, api.OK
}

// shares are s and t, but for a factor of both, of a point s a + t b.
//
// Its Cross with b is s times the Cross of a and b, and that of a with it t times: so the Dot of each with that one is s, or t, times a number above 0.
func shares(a, b, p triple.Triple) [2]num.Q {
	join := a.Cross(b)
	return [2]num.Q{p.Cross(b).Dot(join), a.Cross(p).Dot(join)}
}

// readTable is the plain form of what the texts of a map tell; ErrFlat, if that is no map.
func readTable(w api.W) (triple.Table, api.Errno) {
	var read [9]num.Q
	for i, q := range w {
		read[i] = num.Read(q)
	}
	var table triple.Table
	for i, q := range num.Plain(read[:]...) {
		table[i/3][i%3] = q
	}
	if table.Determinant().Sign() == 0 {
		return triple.Table{}, api.ErrFlat
	}
	return table, api.OK
}

// readWithTriple reads a map, and a point or a line that it is to carry.
func readWithTriple(w api.W, h api.H) (triple.Table, triple.Triple, api.Errno) {
	table, e := readTable(w)
	if e != api.OK {
		return triple.Table{}, triple.Triple{}, e
	}
	read, e := readTriple(h)
	if e != api.OK {
		return triple.Table{}, triple.Triple{}, e
	}
	return table, read, api.OK
}

// tableText is a map as it is answered: in plain form.
func tableText(t triple.Table) api.W {
	var all []num.Q
	for _, row := range t {
		all = append(all, row[:]...)
	}
	var w api.W
	for i, q := range num.Plain(all...) {
		w[i] = q.Text()
	}
	return w
}

// readFrame is the map that takes the points 1, 0, 0 and 0, 1, 0 and 0, 0, 1 and 1, 1, 1 to those four; ErrFlat, if one of them is none, or three of them lie on a line.
func readFrame(l [4]api.H) (triple.Table, api.Errno) {
	var p [4]triple.Triple
	for i, h := range l {
		read, e := readTriple(h)
		if e != api.OK {
			return triple.Table{}, e
		}
		p[i] = read
	}
	columns := triple.Table{p[0], p[1], p[2]}
	if columns.Determinant().Sign() == 0 {
		return triple.Table{}, api.ErrFlat
	}
	// How often each of the first three goes into the fourth, but for a factor of all (Cramer): 0 times, if the fourth lies on a line with the two others.
	for i, weight := range columns.Across().Times(p[3]) {
		if weight.Sign() == 0 {
			return triple.Table{}, api.ErrFlat
		}
		columns[i] = p[i].Times(weight)
	}
	return columns.Turned(), api.OK
}
