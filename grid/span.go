package grid

import (
	"compass/num"
	"compass/way"
)

// whole tells if all are whole numbers.
func whole(l ...num.Q) bool {
	one := num.Int(1)
	for _, q := range l {
		if _, low := q.Parts(); low.Compare(one) != 0 {
			return false
		}
	}
	return true
}

// span is two ways of whole numbers, with u . u, u . v and v . v: these are kept, as to make them anew at each step takes far longer than the step, if the numbers are long.
type span struct {
	u, v       way.Way
	uu, uv, vv num.Q
}

// shortest takes the shorter one from the longer one till there is nothing to take (Lagrange, Gauss).
func shortest(a, b way.Way) span {
	s := span{a, b, a.Dot(a), a.Dot(b), b.Dot(b)}
	for {
		if s.uu.Compare(s.vv) > 0 {
			s = span{s.v, s.u, s.vv, s.uv, s.uu}
		}
		often := s.nearest()
		if often.Sign() == 0 {
			return s
		}
		s = s.less(often)
	}
}

// nearest is the whole number nearest to u . v over u . u, of two as near the lesser one: half a one less, up.
func (s span) nearest() num.Q {
	two := num.Int(2)
	return s.uu.Minus(s.uv.Times(two)).Floor(s.uu.Times(two)).Negative()
}

// less has u taken from v so often.
func (s span) less(often num.Q) span {
	before := s.uv
	s.v = s.v.Minus(s.u.Times(often))
	s.uv = s.uv.Minus(s.uu.Times(often))
	s.vv = s.vv.Minus(before.Plus(s.uv).Times(often))
	return s
}
