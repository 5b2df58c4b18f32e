package add

import (
	"slices"

	"compass/num"
	"compass/rim"
	"compass/way"
)

// area2 adds up what each edge makes with the origin.
func area2(r rim.Rim) num.Q {
	var parts []num.Q
	for _, e := range r.Edges() {
		parts = append(parts, e[0].Cross(e[1].Way))
	}
	return num.Sum(parts...)
}

// mixed is what area2 of the sum has beside those of the hulls. An edge from a + b to c + d makes a x c, b x d, a x d and b x c with the origin: the first two are of one hull alone.
func mixed(corners []pair) num.Q {
	var parts []num.Q
	for i, from := range corners {
		to := corners[(i+1)%len(corners)]
		parts = append(parts, from[0].Cross(to[1]), from[1].Cross(to[0]))
	}
	return num.Sum(parts...)
}

// farthest is how far a hull goes: no point of it goes farther than all of those whose hull it is.
func farthest(l []rim.Spot, along way.Way) num.Q {
	far := make([]num.Q, len(l))
	for i, p := range l {
		far[i] = along.Dot(p.Way)
	}
	return slices.MaxFunc(far, num.Q.Compare)
}
