package triple

import (
	"testing"

	"compass/api"
	"compass/num"
)

func TestReadAndPoint(t *testing.T) {
	for _, x := range []struct{ p, want api.P3 }{
		{api.P3{X: "-2/4", Y: "03", Z: "1/7"}, api.P3{X: "-1/2", Y: "3", Z: "1/7"}},
		{api.P3{X: "x", Y: "1/0", Z: "-0"}, api.P3{X: "0", Y: "0", Z: "0"}},
		{api.P3{}, api.P3{X: "0", Y: "0", Z: "0"}},
	} {
		if got := Read(x.p).Point(); got != x.want {
			t.Errorf("%v: %v, want %v", x.p, got, x.want)
		}
	}
}

func TestAnswer(t *testing.T) {
	found := of("1", "-1/2", "3")
	if got, e := Answer(found, api.OK); got != (api.P3{X: "1", Y: "-1/2", Z: "3"}) || e != api.OK {
		t.Errorf("found: %v %d", got, e)
	}
	if got, e := Answer(found, api.ErrNone); got != (api.P3{}) || e != api.ErrNone {
		t.Errorf("beside an error: %v %d", got, e)
	}
}

func TestMinusOverAndLength2(t *testing.T) {
	a, b := of("1", "-1/2", "0"), of("1/3", "1/2", "-7")
	if got, want := texts(a.Minus(b)), texts(of("2/3", "-1", "7")); got != want {
		t.Errorf("minus: %v, want %v", got, want)
	}
	if got, want := texts(b.Over(num.Read("-1/6"))), texts(of("-2", "-3", "42")); got != want {
		t.Errorf("over: %v, want %v", got, want)
	}
	if got := b.Over(num.Q{}); !got.Nothing() {
		t.Errorf("over 0: %v", texts(got))
	}
	if got := of("1/2", "-2", "3").Length2().Text(); got != "53/4" {
		t.Errorf("length: %s", got)
	}
	// Both are left as they were.
	if texts(a) != texts(of("1", "-1/2", "0")) || texts(b) != texts(of("1/3", "1/2", "-7")) {
		t.Errorf("changed: %v, %v", texts(a), texts(b))
	}
}
