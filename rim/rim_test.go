package rim

import (
	"slices"
	"testing"

	"compass/api"
	"compass/num"
	"compass/way"
)

func at(x, y api.Q) Spot { return At(way.Read(api.P{X: x, Y: y})) }

// spots of whole numbers, X and Y in turn.
func spots(l ...int) []Spot {
	var made []Spot
	for i := 0; i < len(l); i += 2 {
		made = append(made, At(way.Way{X: num.Int(l[i]), Y: num.Int(l[i+1])}))
	}
	return made
}

func texts(l []Spot) []api.P {
	var made []api.P
	for _, p := range l {
		made = append(made, p.Text())
	}
	return made
}

func TestRead(t *testing.T) {
	for _, l := range [][]api.P{nil, {}, make([]api.P, api.MaxPoints+1), make([]api.P, 5000)} {
		if got, e := Read(l); got != nil || e != api.ErrMany {
			t.Errorf("%d points: %v, error %d", len(l), texts(got), e)
		}
	}
	for _, l := range [][]api.P{make([]api.P, 1), make([]api.P, api.MaxPoints)} {
		if got, e := Read(l); len(got) != len(l) || e != api.OK {
			t.Errorf("%d points: %v, error %d", len(l), texts(got), e)
		}
	}
	got, e := Read([]api.P{{X: "06/4", Y: "x"}, {X: "-1", Y: "1/0"}, {X: "06/4", Y: "x"}})
	want := []Spot{at("3/2", "0"), at("-1", "0"), at("3/2", "0")}
	if !slices.Equal(texts(got), texts(want)) || e != api.OK {
		t.Errorf("%v, error %d, want %v", texts(got), e, texts(want))
	}
}

func TestWay(t *testing.T) {
	e := Edge{at("1/2", "1"), at("3", "-1/3")}
	if got, want := e.Way().Text(), (api.P{X: "5/2", Y: "-4/3"}); got != want {
		t.Errorf("%v, want %v", got, want)
	}
}

func TestTurn(t *testing.T) {
	e := Edge{at("1/2", "1"), at("3", "1")}
	for _, x := range []struct {
		e    Edge
		p    Spot
		want int
	}{
		{e, at("-7", "5/2"), 1}, {e, at("-7", "-5/2"), -1}, {e, at("99", "1"), 0}, {e, at("0", "0"), -1},
		{Edge{e[1], e[0]}, at("-7", "5/2"), -1}, {Edge{e[0], e[0]}, at("-7", "5/2"), 0}, {e, e[1], 0},
		{Edge{at("-1/2", "-1/2"), at("-5/2", "-7/3")}, at("-1/3", "1/2"), -1},
	} {
		if got := x.e.Turn(x.p); got != x.want {
			t.Errorf("turn of %v to %v: %d, want %d", texts(x.e[:]), x.p.Text(), got, x.want)
		}
	}
}

func TestCross(t *testing.T) {
	edge := func(l ...int) Edge { return Edge(spots(l...)) }
	for _, x := range []struct {
		what string
		e, f Edge
		want api.P
		ok   bool
	}{
		{"in the middle", edge(0, 0, 2, 2), edge(0, 2, 2, 0), api.P{X: "1", Y: "1"}, true},
		{"askew", edge(0, 0, 1, 3), edge(1, 0, 0, 1), api.P{X: "1/4", Y: "3/4"}, true},
		{"far from the origin", edge(-5, -7, -3, -7), edge(-4, -9, -4, 9), api.P{X: "-4", Y: "-7"}, true},
		{"at an end", edge(0, 0, 2, 2), edge(2, 2, 5, 0), api.P{X: "0", Y: "0"}, false},
		{"an end in the middle", edge(0, 0, 2, 2), edge(1, 1, 5, 0), api.P{X: "0", Y: "0"}, false},
		{"the lines alone", edge(0, 0, 2, 2), edge(4, 0, 3, 1), api.P{X: "0", Y: "0"}, false},
		{"one line alone", edge(0, 0, 9, 9), edge(4, 0, 3, 1), api.P{X: "0", Y: "0"}, false},
		{"along each other", edge(0, 0, 2, 2), edge(1, 1, 5, 5), api.P{X: "0", Y: "0"}, false},
		{"beside each other", edge(0, 0, 2, 2), edge(0, 1, 2, 3), api.P{X: "0", Y: "0"}, false},
		{"a point", edge(0, 0, 2, 2), edge(1, 1, 1, 1), api.P{X: "0", Y: "0"}, false},
	} {
		for _, pair := range [][2]Edge{{x.e, x.f}, {x.f, x.e}, {{x.e[1], x.e[0]}, x.f}} {
			if got, ok := pair[0].Cross(pair[1]); got.Text() != x.want || ok != x.ok {
				t.Errorf("%s: %v %v, want %v %v", x.what, got.Text(), ok, x.want, x.ok)
			}
		}
	}
}

func TestAround(t *testing.T) {
	for _, x := range []struct {
		what    string
		l, want []Spot
	}{
		{"one", spots(1, 2, 1, 2), spots(1, 2)},
		{"on a line", spots(2, 2, 0, 0, 1, 1), spots(0, 0, 2, 2)},
		{"a square", spots(1, 1, 2, 2, 0, 2, 1, 2, 0, 0, 2, 0, 0, 0), spots(0, 0, 2, 0, 2, 2, 0, 2)},
	} {
		before := texts(x.l)
		if got := texts(Around(x.l)); !slices.Equal(got, texts(x.want)) {
			t.Errorf("%s: %v, want %v", x.what, got, texts(x.want))
		}
		if !slices.Equal(texts(x.l), before) {
			t.Errorf("%s: changed to %v", x.what, texts(x.l))
		}
	}
}

// TestAroundOfMany: more points than a list that is handed in may have, as sums of two lists have.
func TestAroundOfMany(t *testing.T) {
	var l []Spot
	for x := range 16 {
		for y := range 16 {
			l = append(l, spots(x*7%16, y*5%16)...)
		}
	}
	if got, want := texts(Around(l)), texts(spots(0, 0, 15, 0, 15, 15, 0, 15)); !slices.Equal(got, want) {
		t.Errorf("%v, want %v", got, want)
	}
}

func TestEdges(t *testing.T) {
	for _, x := range []struct {
		r    Rim
		want [][]Spot
	}{
		{spots(1, 2), [][]Spot{spots(1, 2, 1, 2)}},
		{spots(0, 0, 2, 2), [][]Spot{spots(0, 0, 2, 2), spots(2, 2, 0, 0)}},
		{spots(0, 0, 4, 0, 0, 3), [][]Spot{spots(0, 0, 4, 0), spots(4, 0, 0, 3), spots(0, 3, 0, 0)}},
	} {
		for i, e := range x.r.Edges() {
			if got, want := texts(e[:]), texts(x.want[i]); !slices.Equal(got, want) || len(x.r.Edges()) != len(x.want) {
				t.Errorf("%v: %v, want %v", texts(x.r), got, want)
			}
		}
	}
}

func TestSide(t *testing.T) {
	triangle, line, point := Rim(spots(0, 0, 4, 0, 0, 3)), Rim(spots(0, 0, 2, 2)), Rim(spots(1, 2))
	for _, x := range []struct {
		r    Rim
		p    Spot
		want int
	}{
		{triangle, at("1", "1"), 1}, {triangle, at("2", "3/2"), 0}, {triangle, at("0", "0"), 0}, {triangle, at("0", "3"), 0}, {triangle, at("5", "0"), -1}, {triangle, at("-1", "0"), -1}, {triangle, at("2", "2"), -1}, {triangle, at("8", "-3"), -1},
		{line, at("1", "1"), 0}, {line, at("2", "2"), 0}, {line, at("3", "3"), -1}, {line, at("-1", "-1"), -1}, {line, at("1", "0"), -1}, {line, at("0", "1"), -1},
		{point, at("1", "2"), 0}, {point, at("2", "1"), -1}, {point, at("2", "4"), -1},
	} {
		if got := x.r.Side(x.p); got != x.want {
			t.Errorf("%v of %v: %d, want %d", x.p.Text(), texts(x.r), got, x.want)
		}
	}
}
