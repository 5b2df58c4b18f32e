package num

import (
	"math"
	"math/big"
	"math/rand"
	"slices"
	"strconv"
	"testing"

	"compass/api"
)

func TestInt(t *testing.T) {
	for _, n := range []int{0, 1, -1, 2, 7, -60, math.MaxInt32, math.MinInt32, 1 << 32, -(1 << 32), math.MaxInt64, math.MinInt64} {
		if got := Int(n); string(got.Text()) != strconv.Itoa(n) {
			t.Errorf("%d: %s", n, got.Text())
		}
	}
}

func readAll(l []api.Q) []Q {
	out := make([]Q, len(l))
	for i, q := range l {
		out[i] = Read(q)
	}
	return out
}

func textAll(l []Q) []api.Q {
	out := make([]api.Q, len(l))
	for i, q := range l {
		out[i] = q.Text()
	}
	return out
}

func TestPlain(t *testing.T) {
	for _, c := range []struct{ in, want []api.Q }{
		{nil, nil},
		{[]api.Q{"0"}, []api.Q{"0"}},
		{[]api.Q{"0", "-0", "1/0"}, []api.Q{"0", "0", "0"}},
		{[]api.Q{"-7/3"}, []api.Q{"1"}},
		{[]api.Q{"-2/3", "4", "0"}, []api.Q{"1", "-6", "0"}},
		{[]api.Q{"2/3", "-4", "0"}, []api.Q{"1", "-6", "0"}},
		{[]api.Q{"0", "-2", "4", "6"}, []api.Q{"0", "1", "-2", "-3"}},
		{[]api.Q{"0", "0", "-1/9"}, []api.Q{"0", "0", "1"}},
		{[]api.Q{"1/2", "1/3", "1/6"}, []api.Q{"3", "2", "1"}},
		{[]api.Q{"6", "10", "15"}, []api.Q{"6", "10", "15"}},
		{[]api.Q{"6/35", "10/21", "15/14"}, []api.Q{"36", "100", "225"}},
		{[]api.Q{"1", "-1", "1"}, []api.Q{"1", "-1", "1"}},
		{[]api.Q{"3000000000000000000000", "-2000000000000000000000/7"}, []api.Q{"21", "-2"}},
	} {
		if got := textAll(Plain(readAll(c.in)...)); !slices.Equal(got, c.want) {
			t.Errorf("%v: %v, want %v", c.in, got, c.want)
		}
	}
}

// checkPlain holds a plain form against what it must be, one promise after the other, by the library's numbers.
func checkPlain(t *testing.T, in []Q) {
	t.Helper()
	out := Plain(in...)
	divisor, first := new(big.Int), 0
	for i, q := range out {
		r := ratOf(q.Text())
		if !r.IsInt() {
			t.Fatalf("%v: %v: not whole", textAll(in), textAll(out))
		}
		divisor.GCD(nil, nil, divisor, new(big.Int).Abs(r.Num()))
		if first == 0 {
			first = r.Sign()
		}
		for j := range in {
			x := new(big.Rat).Mul(r, ratOf(in[j].Text()))
			y := new(big.Rat).Mul(ratOf(out[j].Text()), ratOf(in[i].Text()))
			if x.Cmp(y) != 0 {
				t.Fatalf("%v: %v: another ratio", textAll(in), textAll(out))
			}
		}
	}
	if first < 0 {
		t.Fatalf("%v: %v: the first is below 0", textAll(in), textAll(out))
	}
	if first > 0 && divisor.Cmp(big.NewInt(1)) != 0 {
		t.Fatalf("%v: %v: a common divisor", textAll(in), textAll(out))
	}
	if first == 0 && slices.ContainsFunc(in, func(q Q) bool { return q.Sign() != 0 }) {
		t.Fatalf("%v: all 0", textAll(in))
	}
}

func TestPlainAgainstLibrary(t *testing.T) {
	r := rand.New(rand.NewSource(4))
	for i := range 4000 {
		size := []int{1, 2, 12, 60}[i%4]
		in := make([]Q, 1+r.Intn(6))
		for j := range in {
			in[j] = Read(fraction(r, size))
		}
		keep := textAll(in)
		checkPlain(t, in)
		if !slices.Equal(keep, textAll(in)) {
			t.Fatalf("changed: %v", keep)
		}
		again := Plain(in...)
		if !slices.Equal(textAll(Plain(again...)), textAll(again)) {
			t.Fatalf("%v: not plain yet", keep)
		}
	}
}
