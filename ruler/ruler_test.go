package ruler

import (
	"testing"

	"compass/api"
	"compass/num"
	"compass/way"
)

func wayOf(x, y api.Q) way.Way { return way.Read(api.P{X: x, Y: y}) }

func lineOf(a, b, c api.Q) Line { return Line{wayOf(a, b), num.Read(c)} }

func TestRead(t *testing.T) {
	l, e := Read(api.L{A: "-2/4", B: "x", C: "03"})
	if e != api.OK || l.Across.Text() != (api.P{X: "-1/2", Y: "0"}) || l.C.Text() != "3" {
		t.Errorf("read: %v %v %d", l.Across.Text(), l.C.Text(), e)
	}
	l, e = Read(api.L{A: "1/0", B: "-0", C: "1"})
	if e != api.ErrFlat || l.C.Sign() != 0 {
		t.Errorf("no line: %v %d", l.C.Text(), e)
	}
}

func TestText(t *testing.T) {
	if got := lineOf("0", "-1/2", "1/3").Text(); got != (api.L{A: "0", B: "3", C: "-2"}) {
		t.Errorf("text: %v", got)
	}
}

func TestOfAPoint(t *testing.T) {
	l, p := lineOf("-1", "-1", "0"), wayOf("1", "0")
	if got := l.Value(p).Text(); got != "-1" {
		t.Errorf("value as it stands: %s", got)
	}
	if got := l.Side(p); got != 1 {
		t.Errorf("side of the plain form: %d", got)
	}
	if got := lineOf("0", "-1", "1").Side(p); got != -1 {
		t.Errorf("side of a level line: %d", got)
	}
	if got := l.Drop(p).Text(); got != (api.P{X: "-1/2", Y: "-1/2"}) {
		t.Errorf("drop: %v", got)
	}
	if got := l.Far2(p).Text(); got != "1/2" {
		t.Errorf("far: %s", got)
	}
	if got := Square(p, wayOf("2", "4")).Text(); got != (api.L{A: "1", B: "2", C: "-1"}) {
		t.Errorf("square: %v", got)
	}
}

func TestMeet(t *testing.T) {
	for _, c := range []struct {
		l, m Line
		want api.P
		e    api.Errno
	}{
		{lineOf("1", "1", "-3"), lineOf("1", "-1", "1"), api.P{X: "1", Y: "2"}, api.OK},
		{lineOf("1", "0", "-3"), lineOf("-2", "0", "1"), api.P{X: "0", Y: "0"}, api.ErrNone},
		{lineOf("0", "1", "-3"), lineOf("0", "-2", "6"), api.P{X: "0", Y: "0"}, api.ErrFree},
	} {
		if got, e := Meet(c.l, c.m); got.Text() != c.want || e != c.e {
			t.Errorf("%v, %v: %v %d, want %v %d", c.l.Text(), c.m.Text(), got.Text(), e, c.want, c.e)
		}
	}
}
