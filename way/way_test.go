package way

import (
	"cmp"
	"testing"

	"compass/api"
	"compass/num"
)

func wayOf(x, y api.Q) Way { return Read(api.P{X: x, Y: y}) }

func TestWays(t *testing.T) {
	a, b := wayOf("1/2", "-3"), wayOf("4", "02/6")
	for _, c := range []struct {
		what string
		got  Way
		want api.P
	}{
		{"plus", a.Plus(b), api.P{X: "9/2", Y: "-8/3"}},
		{"minus", a.Minus(b), api.P{X: "-7/2", Y: "-10/3"}},
		{"negative", a.Negative(), api.P{X: "-1/2", Y: "3"}},
		{"negative of nowhere", Way{}.Negative(), api.P{X: "0", Y: "0"}},
		{"times", a.Times(num.Read("-2/3")), api.P{X: "-1/3", Y: "2"}},
		{"over", a.Over(num.Read("-3/2")), api.P{X: "-1/3", Y: "2"}},
		{"over 0", a.Over(num.Q{}), api.P{X: "0", Y: "0"}},
		{"left", a.Left(), api.P{X: "3", Y: "1/2"}},
		{"left twice", a.Left().Left(), api.P{X: "-1/2", Y: "3"}},
		{"conjugate", a.Conjugate(), api.P{X: "1/2", Y: "3"}},
		{"conjugate of a level way", wayOf("-2", "0").Conjugate(), api.P{X: "-2", Y: "0"}},
		{"product", a.Product(b), api.P{X: "3", Y: "-71/6"}},
		{"product, the other way", b.Product(a), api.P{X: "3", Y: "-71/6"}},
		{"product with the way up", a.Product(wayOf("0", "1")), api.P{X: "3", Y: "1/2"}},
		{"product with nowhere", a.Product(Way{}), api.P{X: "0", Y: "0"}},
		{"product with its conjugate", a.Product(a.Conjugate()), api.P{X: "37/4", Y: "0"}},
		{"quotient", a.Quotient(b), api.P{X: "9/145", Y: "-219/290"}},
		{"quotient of the product", a.Product(b).Quotient(a), api.P{X: "4", Y: "1/3"}},
		{"quotient by the way up", a.Quotient(wayOf("0", "1")), api.P{X: "-3", Y: "-1/2"}},
		{"quotient by a level way", a.Quotient(wayOf("-2", "0")), api.P{X: "-1/4", Y: "3/2"}},
		{"quotient by nowhere", a.Quotient(Way{}), api.P{X: "0", Y: "0"}},
		{"sum", Sum(a, b, a), api.P{X: "5", Y: "-17/3"}},
		{"sum of none", Sum(), api.P{X: "0", Y: "0"}},
	} {
		if got := c.got.Text(); got != c.want {
			t.Errorf("%s: %v, want %v", c.what, got, c.want)
		}
	}
}

func TestAnswer(t *testing.T) {
	if got, e := Answer(wayOf("02/4", "-3"), api.OK); got != (api.P{X: "1/2", Y: "-3"}) || e != api.OK {
		t.Errorf("answer: %v %d", got, e)
	}
	if got, e := Answer(wayOf("1", "2"), api.ErrFree); got != (api.P{}) || e != api.ErrFree {
		t.Errorf("with an error: %v %d", got, e)
	}
}

func TestProducts(t *testing.T) {
	a, b := wayOf("1/2", "-3"), wayOf("4", "1/3")
	if got := a.Dot(b).Text(); got != "1" {
		t.Errorf("dot: %s", got)
	}
	if got := a.Cross(b).Text(); got != "73/6" {
		t.Errorf("cross: %s", got)
	}
	if got := b.Cross(a).Text(); got != "-73/6" {
		t.Errorf("cross back: %s", got)
	}
}

func TestNowhere(t *testing.T) {
	for _, c := range []struct {
		w    Way
		want bool
	}{
		{Way{}, true}, {wayOf("-0", "1/0"), true}, {wayOf("0", "1/9"), false}, {wayOf("-1", ""), false}, {wayOf("1", "1"), false},
	} {
		if c.w.Nowhere() != c.want {
			t.Errorf("nowhere: %v", c.w.Text())
		}
	}
}

func TestCompare(t *testing.T) {
	sorted := []Way{wayOf("-2", "9"), wayOf("-1/2", "-5"), wayOf("-1/2", "1/3"), wayOf("0", "0"), wayOf("0", "1/2"), wayOf("1/3", "-7"), wayOf("1/2", "-7")}
	for i, w := range sorted {
		for j, v := range sorted {
			if got, want := w.Compare(v), cmp.Compare(i, j); got != want {
				t.Errorf("compare %v, %v: %d, want %d", w.Text(), v.Text(), got, want)
			}
		}
	}
	if got := wayOf("02/4", "x").Compare(wayOf("1/2", "0")); got != 0 {
		t.Errorf("written otherwise: %d", got)
	}
}

func TestTurn(t *testing.T) {
	a, b, c := wayOf("1/2", "1"), wayOf("3", "1"), wayOf("-7", "5/2")
	for _, x := range []struct {
		a, b, c Way
		want    api.Q
	}{
		{a, b, c, "15/4"}, {b, c, a, "15/4"}, {a, c, b, "-15/4"}, {a, b, wayOf("99", "1"), "0"}, {a, a, c, "0"}, {a, c, a, "0"}, {Way{}, Way{}, Way{}, "0"},
	} {
		if got := Turn(x.a, x.b, x.c).Text(); got != x.want {
			t.Errorf("turn: %s, want %s", got, x.want)
		}
	}
}

func TestMean(t *testing.T) {
	l := []Way{wayOf("1/2", "1"), wayOf("3", "1"), wayOf("-7", "5/2")}
	for _, c := range []struct {
		what    string
		weights [3]api.Q
		want    api.P
		e       api.Errno
	}{
		{"alike", [3]api.Q{"2", "2", "2"}, api.P{X: "-7/6", Y: "3/2"}, api.OK},
		{"of fractions", [3]api.Q{"1/2", "-1/3", "1/6"}, api.P{X: "-23/4", Y: "7/4"}, api.OK},
		{"one alone", [3]api.Q{"0", "-5", "0"}, api.P{X: "3", Y: "1"}, api.OK},
		{"nothing together", [3]api.Q{"1/2", "1/2", "-1"}, api.P{X: "0", Y: "0"}, api.ErrNone},
		{"nothing at all", [3]api.Q{}, api.P{X: "0", Y: "0"}, api.ErrNone},
	} {
		weights := []num.Q{num.Read(c.weights[0]), num.Read(c.weights[1]), num.Read(c.weights[2])}
		if got, e := Mean(l, weights); got.Text() != c.want || e != c.e {
			t.Errorf("mean %s: %v %d, want %v %d", c.what, got.Text(), e, c.want, c.e)
		}
	}
	if got, e := Mean(nil, nil); !got.Nowhere() || e != api.ErrNone {
		t.Errorf("mean of none: %v %d", got.Text(), e)
	}
}
