package way

import (
	"testing"

	"compass/api"
	"compass/num"
)

func wayOf(x, y api.Q) Way { return Read(api.P{X: x, Y: y}) }

func TestWays(t *testing.T) {
	a, b := wayOf("1/2", "-3"), wayOf("4", "02/6")
	for _, c := range []struct {
		what string
		got  Way
		want api.P
	}{
		{"plus", a.Plus(b), api.P{X: "9/2", Y: "-8/3"}},
		{"minus", a.Minus(b), api.P{X: "-7/2", Y: "-10/3"}},
		{"times", a.Times(num.Read("-2/3")), api.P{X: "-1/3", Y: "2"}},
		{"over", a.Over(num.Read("-3/2")), api.P{X: "-1/3", Y: "2"}},
		{"over 0", a.Over(num.Q{}), api.P{X: "0", Y: "0"}},
		{"left", a.Left(), api.P{X: "3", Y: "1/2"}},
		{"left twice", a.Left().Left(), api.P{X: "-1/2", Y: "3"}},
		{"conjugate", a.Conjugate(), api.P{X: "1/2", Y: "3"}},
		{"conjugate of a level way", wayOf("-2", "0").Conjugate(), api.P{X: "-2", Y: "0"}},
		{"product", a.Product(b), api.P{X: "3", Y: "-71/6"}},
		{"product, the other way", b.Product(a), api.P{X: "3", Y: "-71/6"}},
		{"product with the way up", a.Product(wayOf("0", "1")), api.P{X: "3", Y: "1/2"}},
		{"product with nowhere", a.Product(Way{}), api.P{X: "0", Y: "0"}},
		{"product with its conjugate", a.Product(a.Conjugate()), api.P{X: "37/4", Y: "0"}},
		{"sum", Sum(a, b, a), api.P{X: "5", Y: "-17/3"}},
		{"sum of none", Sum(), api.P{X: "0", Y: "0"}},
	} {
		if got := c.got.Text(); got != c.want {
			t.Errorf("%s: %v, want %v", c.what, got, c.want)
		}
	}
}

func TestProducts(t *testing.T) {
	a, b := wayOf("1/2", "-3"), wayOf("4", "1/3")
	if got := a.Dot(b).Text(); got != "1" {
		t.Errorf("dot: %s", got)
	}
	if got := a.Cross(b).Text(); got != "73/6" {
		t.Errorf("cross: %s", got)
	}
	if got := b.Cross(a).Text(); got != "-73/6" {
		t.Errorf("cross back: %s", got)
	}
}

func TestNowhere(t *testing.T) {
	for _, c := range []struct {
		w    Way
		want bool
	}{
		{Way{}, true}, {wayOf("-0", "1/0"), true}, {wayOf("0", "1/9"), false}, {wayOf("-1", ""), false}, {wayOf("1", "1"), false},
	} {
		if c.w.Nowhere() != c.want {
			t.Errorf("nowhere: %v", c.w.Text())
		}
	}
}
