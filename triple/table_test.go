package triple

import (
	"testing"

	"compass/api"
	"compass/num"
)

// toTen is a table whose numbers all differ.
func toTen() Table { return Table{of("1", "2", "3"), of("4", "5", "6"), of("7", "8", "10")} }

func shift() Table { return Table{of("1", "0", "2"), of("0", "1", "3"), of("0", "0", "1")} }

func rows(t Table) [3][3]api.Q { return [3][3]api.Q{texts(t[0]), texts(t[1]), texts(t[2])} }

func sameRows(t *testing.T, what string, got, want Table) {
	t.Helper()
	if rows(got) != rows(want) {
		t.Errorf("%s: %v, want %v", what, rows(got), rows(want))
	}
}

func TestTableTimes(t *testing.T) {
	if got, want := texts(toTen().Times(of("1", "-1/2", "2"))), texts(of("6", "27/2", "23")); got != want {
		t.Errorf("%v, want %v", got, want)
	}
}

func TestTableAfter(t *testing.T) {
	sameRows(t, "shift first", toTen().After(shift()), Table{of("1", "2", "11"), of("4", "5", "29"), of("7", "8", "48")})
	sameRows(t, "shift last", shift().After(toTen()), Table{of("15", "18", "23"), of("25", "29", "36"), of("7", "8", "10")})
	u := of("1/2", "-3", "5")
	if got, want := texts(toTen().After(shift()).Times(u)), texts(toTen().Times(shift().Times(u))); got != want {
		t.Errorf("one after the other: %v, want %v", got, want)
	}
}

func TestTableTurned(t *testing.T) {
	sameRows(t, "turned", toTen().Turned(), Table{of("1", "4", "7"), of("2", "5", "8"), of("3", "6", "10")})
	sameRows(t, "twice", toTen().Turned().Turned(), toTen())
}

func TestTableAcrossAndBack(t *testing.T) {
	sameRows(t, "across", toTen().Across(), Table{of("2", "2", "-3"), of("4", "-11", "6"), of("-3", "6", "-3")})
	sameRows(t, "back", toTen().Back(), Table{of("2", "4", "-3"), of("2", "-11", "6"), of("-3", "6", "-3")})
	sameRows(t, "there and back", toTen().After(toTen().Back()), Table{of("-3", "0", "0"), of("0", "-3", "0"), of("0", "0", "-3")})
	u, v := of("1", "-2", "3/4"), of("0", "5", "-1")
	if got, want := texts(toTen().Across().Times(u.Cross(v))), texts(toTen().Times(u).Cross(toTen().Times(v))); got != want {
		t.Errorf("lines to lines: %v, want %v", got, want)
	}
}

func TestTableDeterminant(t *testing.T) {
	for _, x := range []struct {
		table Table
		want  api.Q
	}{
		{toTen(), "-3"},
		{shift(), "1"},
		{Table{}, "0"},
		{Table{of("1", "2", "3"), of("4", "5", "6"), of("7", "8", "9")}, "0"},
		{Table{of("0", "1/2", "0"), of("1/3", "0", "0"), of("0", "0", "1")}, "-1/6"},
	} {
		if got := x.table.Determinant().Text(); got != x.want {
			t.Errorf("%v: %s, want %s", rows(x.table), got, x.want)
		}
	}
}

func TestPlusAndTimes(t *testing.T) {
	a, b := of("1", "-1/2", "0"), of("1/3", "1/2", "-7")
	if got, want := texts(a.Plus(b)), texts(of("4/3", "0", "-7")); got != want {
		t.Errorf("plus: %v, want %v", got, want)
	}
	if got, want := texts(b.Times(num.Int(-6))), texts(of("-2", "-3", "42")); got != want {
		t.Errorf("times: %v, want %v", got, want)
	}
	// Both are left as they were.
	if texts(a) != texts(of("1", "-1/2", "0")) || texts(b) != texts(of("1/3", "1/2", "-7")) {
		t.Errorf("changed: %v, %v", texts(a), texts(b))
	}
}

func TestNothing(t *testing.T) {
	for _, x := range []struct {
		t    Triple
		want bool
	}{
		{Triple{}, true}, {of("0", "-0", "x"), true}, {of("1", "0", "0"), false}, {of("0", "-1/9", "0"), false}, {of("0", "0", "5"), false},
	} {
		if got := x.t.Nothing(); got != x.want {
			t.Errorf("%v: %v", texts(x.t), got)
		}
	}
}
