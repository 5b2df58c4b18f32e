package round

import (
	"testing"

	"compass/api"
	"compass/num"
	"compass/ruler"
	"compass/way"
)

func wayOf(x, y api.Q) way.Way { return way.Read(api.P{X: x, Y: y}) }

func circleOf(x, y, r2 api.Q) Circle { return Circle{wayOf(x, y), num.Read(r2)} }

func TestRead(t *testing.T) {
	c, e := Read(api.C{M: api.P{X: "-2/4", Y: "x"}, R2: "03/9"})
	if want := (api.C{M: api.P{X: "-1/2", Y: "0"}, R2: "1/3"}); e != api.OK || c.Text() != want {
		t.Errorf("read: %v %d", c.Text(), e)
	}
	for _, r2 := range []api.Q{"", "0", "-0", "-1/3", "1/0", "+1", "x"} {
		c, e := Read(api.C{M: api.P{X: "1", Y: "2"}, R2: r2})
		if e != api.ErrValue || !c.Middle.Nowhere() || c.R2.Sign() != 0 {
			t.Errorf("no circle: %v %d", c.Text(), e)
		}
	}
}

func TestPower(t *testing.T) {
	c := circleOf("1", "2", "25")
	for _, x := range []struct {
		p    way.Way
		want api.Q
	}{
		{wayOf("1", "2"), "-25"}, {wayOf("4", "6"), "0"}, {wayOf("1/2", "2"), "-99/4"}, {wayOf("1", "9"), "24"},
	} {
		if got := c.Power(x.p).Text(); got != x.want {
			t.Errorf("power: %s, want %s", got, x.want)
		}
		if c.Has(x.p) != (x.want == "0") {
			t.Errorf("has: %v", x.p.Text())
		}
	}
}

func TestPolarAndPole(t *testing.T) {
	c := circleOf("1", "2", "25")
	for _, x := range []struct {
		p    api.P
		want api.L
	}{
		{api.P{X: "4", Y: "6"}, api.L{A: "3", B: "4", C: "-36"}},
		{api.P{X: "1", Y: "3"}, api.L{A: "0", B: "1", C: "-27"}},
		{api.P{X: "-9", Y: "2"}, api.L{A: "2", B: "0", C: "3"}},
	} {
		line := c.Polar(way.Read(x.p))
		if got := line.Text(); got != x.want {
			t.Errorf("polar: %v, want %v", got, x.want)
		}
		if got, e := c.Pole(line); got.Text() != x.p || e != api.OK {
			t.Errorf("pole: %v %d, want %v", got.Text(), e, x.p)
		}
	}
	if got, e := c.Pole(ruler.Square(c.Middle, wayOf("1/2", "3"))); !got.Nowhere() || e != api.ErrNone {
		t.Errorf("pole of a line through the middle: %v %d", got.Text(), e)
	}
}

func TestSecond(t *testing.T) {
	c, p := circleOf("1", "2", "25"), wayOf("4", "6")
	for _, x := range []struct {
		along way.Way
		want  api.P
	}{
		{wayOf("-1", "0"), api.P{X: "-2", Y: "6"}},
		{wayOf("1/3", "0"), api.P{X: "-2", Y: "6"}},
		{wayOf("3", "4"), api.P{X: "-2", Y: "-2"}},
		{wayOf("4", "-3"), api.P{X: "4", Y: "6"}},
	} {
		if got := c.Second(p, x.along).Text(); got != x.want {
			t.Errorf("second: %v, want %v", got, x.want)
		}
	}
}
