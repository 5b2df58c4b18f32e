package conic

import (
	"compass/api"
	"compass/num"
	"compass/triple"
	"compass/way"
)

// shape has the numbers of a conic, in the order of api.K.
type shape [6]num.Q

// readShape is what the texts tell, not made plain; ErrFlat, if that is no conic.
func readShape(k api.K) (shape, api.Errno) {
	var read shape
	for i, q := range k {
		read[i] = num.Read(q)
	}
	if read.flat() {
		return shape{}, api.ErrFlat
	}
	return read, api.OK
}

// readWithWay reads a conic, and a way; ErrFlat, if that goes nowhere, too.
func readWithWay(k api.K, along api.P) (shape, way.Way, api.Errno) {
	read, e := readShape(k)
	to := way.Read(along)
	if e != api.OK || to.Nowhere() {
		return shape{}, way.Way{}, api.ErrFlat
	}
	return read, to, api.OK
}

// flat tells if all but the last number are 0.
func (s shape) flat() bool {
	for _, q := range s[:5] {
		if q.Sign() != 0 {
			return false
		}
	}
	return true
}

// text is the conic as it is answered: in plain form.
func (s shape) text() api.K {
	var k api.K
	for i, q := range num.Plain(s[:]...) {
		k[i] = q.Text()
	}
	return k
}

// side is the sign of what the plain form makes of u, without making it: only the sign of the first number counts.
func (s shape) side(u triple.Triple) int {
	first := 0
	for _, q := range s {
		if first == 0 {
			first = q.Sign()
		}
	}
	return first * s.table().pair(u, u).Sign()
}

// lines is the conic of two lines: what they make of a point, multiplied.
func lines(l, m triple.Triple) shape {
	mixed := func(i, j int) num.Q { return l[i].Times(m[j]).Plus(l[j].Times(m[i])) }
	return shape{l[0].Times(m[0]), mixed(0, 1), l[1].Times(m[1]), mixed(0, 2), mixed(1, 2), l[2].Times(m[2])}
}

// through is the sum of s and r, each so many times, that makes 0 of u.
func (s shape) through(r shape, u triple.Triple) shape {
	ofS, ofR := s.table().pair(u, u), r.table().pair(u, u)
	var sum shape
	for i := range sum {
		sum[i] = s[i].Times(ofR).Minus(r[i].Times(ofS))
	}
	return sum
}

// only is what through has made, as it is answered; ErrFree, if there are several such sums: just if all numbers of it are 0.
//
// As it makes 0 of a point, its last number is 0 if all others are: so it is never a sum of which nothing but that one is left, which the document calls ErrNone.
func only(sum shape) (api.K, api.Errno) {
	if sum.flat() {
		return api.K{}, api.ErrFree
	}
	return sum.text(), api.OK
}
