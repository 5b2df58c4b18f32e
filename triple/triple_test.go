package triple

import (
	"testing"

	"compass/api"
	"compass/num"
	"compass/way"
)

func of(a, b, c api.Q) Triple { return Triple{num.Read(a), num.Read(b), num.Read(c)} }

func texts(t Triple) [3]api.Q { return [3]api.Q{t[0].Text(), t[1].Text(), t[2].Text()} }

func TestWhole(t *testing.T) {
	for _, x := range []struct {
		p    api.P
		want Triple
	}{
		{api.P{X: "3", Y: "-4"}, of("3", "-4", "1")},
		{api.P{X: "-1/2", Y: "1/3"}, of("-3", "2", "6")},
		{api.P{X: "5/6", Y: "-1/4"}, of("10", "-3", "12")},
		{api.P{X: "-2", Y: "-4"}, of("-2", "-4", "1")},
		{api.P{X: "0", Y: "-4/7"}, of("0", "-4", "7")},
		{api.P{}, of("0", "0", "1")},
	} {
		if got := texts(Whole(way.Read(x.p))); got != texts(x.want) {
			t.Errorf("%v: %v, want %v", x.p, got, texts(x.want))
		}
	}
}

func TestDot(t *testing.T) {
	for _, x := range []struct {
		a, b Triple
		want api.Q
	}{
		{of("1", "2", "3"), of("4", "-5", "6"), "12"},
		{of("1/2", "1/3", "0"), of("1", "1", "7"), "5/6"},
		{of("2", "-1", "1"), of("1", "3", "1"), "0"},
		{Triple{}, of("1", "2", "3"), "0"},
	} {
		if got := x.a.Dot(x.b).Text(); got != x.want {
			t.Errorf("%v, %v: %s, want %s", texts(x.a), texts(x.b), got, x.want)
		}
		if got := x.b.Dot(x.a).Text(); got != x.want {
			t.Errorf("%v, %v: %s, want %s", texts(x.b), texts(x.a), got, x.want)
		}
	}
}

func TestCross(t *testing.T) {
	for _, x := range []struct{ a, b, want Triple }{
		{of("1", "2", "3"), of("4", "-5", "6"), of("27", "6", "-13")},
		{of("4", "-5", "6"), of("1", "2", "3"), of("-27", "-6", "13")},
		{of("0", "1", "1"), of("1", "3", "1"), of("-2", "1", "-1")},
		{of("1", "1", "-3"), of("1", "-1", "1"), of("-2", "-4", "-2")},
		{of("1", "0", "0"), of("0", "1/2", "0"), of("0", "0", "1/2")},
		{of("1", "2", "3"), of("-1/2", "-1", "-3/2"), Triple{}},
		{Triple{}, of("1", "2", "3"), Triple{}},
	} {
		if got := texts(x.a.Cross(x.b)); got != texts(x.want) {
			t.Errorf("%v, %v: %v, want %v", texts(x.a), texts(x.b), got, texts(x.want))
		}
	}
}
