package num

import (
	"cmp"
	"math"
	"math/big"
	"math/rand"
	"strings"
	"testing"

	"compass/api"
)

func TestReadAndText(t *testing.T) {
	for _, c := range []struct{ in, want api.Q }{
		{"0", "0"}, {"-0", "0"}, {"000", "0"}, {"-000/7", "0"}, {"0/5", "0"},
		{"7", "7"}, {"-7", "-7"}, {"007", "7"}, {"-007", "-7"},
		{"6/4", "3/2"}, {"-6/4", "-3/2"}, {"08/05", "8/5"}, {"-1/010", "-1/10"}, {"10/5", "2"}, {"7/7", "1"}, {"1/1", "1"},
		{"4294967295", "4294967295"}, {"4294967296", "4294967296"}, {"18446744073709551616", "18446744073709551616"},
		{"999999999", "999999999"}, {"1000000000", "1000000000"}, {"1000000001", "1000000001"}, {"5000000000000000000000", "5000000000000000000000"},
		{"18446744073709551616/4294967296", "4294967296"},
	} {
		if got := Read(c.in).Text(); got != c.want {
			t.Errorf("%q: %q, want %q", c.in, got, c.want)
		}
	}
}

func TestReadWhatIsNoFraction(t *testing.T) {
	for _, in := range []api.Q{
		"", "-", "/", "-/", "5/", "/5", "-/5", "+5", "--5", "5-", "5/-3", "5/+3", "1/2/3", "1//2", " 5", "5 ", "5\n", "5 /3",
		"1.5", "1e3", "0x10", "1_000", "a", "5a", "a5", "5/a", "١", "5/١", "\x00", "5\x00", "\xff", "∞", "−5",
		"1/0", "-1/0", "0/0", "5/000",
	} {
		q := Read(in)
		if q.Text() != "0" || q.Sign() != 0 {
			t.Errorf("%q: %q, sign %d, want 0", in, q.Text(), q.Sign())
		}
	}
}

func TestReadIsDigitByDigit(t *testing.T) {
	for b := range 256 {
		want := "0"
		if b >= '0' && b <= '9' {
			want = strings.TrimLeft("1"+string(rune(b))+"2", "0")
		}
		if got := Read(api.Q("1" + string([]byte{byte(b)}) + "2")).Text(); b != '/' && string(got) != want {
			t.Errorf("byte %d: %q, want %q", b, got, want)
		}
	}
}

// digits of a length up to n, many of them noughts.
func digits(r *rand.Rand, n int) string {
	t := make([]byte, 1+r.Intn(n))
	for i := range t {
		t[i] = '0'
		if r.Intn(3) > 0 {
			t[i] += byte(r.Intn(10))
		}
	}
	return string(t)
}

func fraction(r *rand.Rand, n int) api.Q {
	t := digits(r, n)
	if r.Intn(2) == 0 {
		t = "-" + t
	}
	if r.Intn(3) > 0 {
		t += "/" + digits(r, n)
	}
	return api.Q(t)
}

// ratOf is the library's fraction; what is divided by 0 counts as 0.
func ratOf(q api.Q) *big.Rat {
	up, low, bar := strings.Cut(string(q), "/")
	x, _ := new(big.Int).SetString(up, 10)
	y := big.NewInt(1)
	if bar {
		y.SetString(low, 10)
	}
	if y.Sign() == 0 {
		return new(big.Rat)
	}
	return new(big.Rat).SetFrac(x, y)
}

func sameQ(t *testing.T, what string, got Q, want *big.Rat) {
	t.Helper()
	if string(got.Text()) != want.RatString() {
		t.Fatalf("%s: %s, want %s", what, got.Text(), want.RatString())
	}
	if got.Sign() != want.Sign() {
		t.Fatalf("%s: sign %d of %s", what, got.Sign(), want.RatString())
	}
}

func checkPair(t *testing.T, s, u api.Q) {
	t.Helper()
	a, b, x, y := Read(s), Read(u), ratOf(s), ratOf(u)
	sameQ(t, "read", a, x)
	sameQ(t, "negative", a.Negative(), new(big.Rat).Neg(x))
	sameQ(t, "plus", a.Plus(b), new(big.Rat).Add(x, y))
	sameQ(t, "minus", a.Minus(b), new(big.Rat).Sub(x, y))
	sameQ(t, "times", a.Times(b), new(big.Rat).Mul(x, y))
	if y.Sign() == 0 {
		sameQ(t, "over 0", a.Over(b), new(big.Rat))
		sameQ(t, "over 0, down", a.Floor(b), new(big.Rat))
	} else {
		quotient := new(big.Rat).Quo(x, y)
		sameQ(t, "over", a.Over(b), quotient)
		// The library's Div goes down, as what is below the bar is above 0.
		sameQ(t, "over, down", a.Floor(b), new(big.Rat).SetInt(new(big.Int).Div(quotient.Num(), quotient.Denom())))
	}
	up, low := a.Parts()
	sameQ(t, "upper", up, new(big.Rat).SetInt(x.Num()))
	sameQ(t, "lower", low, new(big.Rat).SetInt(x.Denom()))
	if got, want := a.Compare(b), x.Cmp(y); got != want {
		t.Fatalf("compare %s, %s: %d, want %d", s, u, got, want)
	}
	if got := a.Compare(a.Plus(Q{})); got != 0 {
		t.Fatalf("compare %s with itself: %d", s, got)
	}
	sameQ(t, "sum", Sum(a, b, a), new(big.Rat).Add(x, new(big.Rat).Add(x, y)))
	sameQ(t, "nothing left", a.Minus(a), new(big.Rat))
	sameQ(t, "a is left as it was", a, x)
	sameQ(t, "b is left as it was", b, y)
}

func TestFractionsAgainstLibrary(t *testing.T) {
	r := rand.New(rand.NewSource(3))
	for range 5000 {
		checkPair(t, fraction(r, 3), fraction(r, 3))
		checkPair(t, fraction(r, 40), fraction(r, 40))
	}
	for range 20 {
		checkPair(t, fraction(r, 2000), fraction(r, 2000))
	}
}

func TestCompareSorts(t *testing.T) {
	sorted := []api.Q{"-18446744073709551617", "-4294967296", "-7/2", "-3", "-1/3", "-1/1000000000000000000000", "0", "1/1000000000000000000000", "1/3", "333333333333333333334/1000000000000000000000", "1/2", "3", "7/2", "4294967296", "18446744073709551617"}
	for i, s := range sorted {
		for j, u := range sorted {
			if got, want := Read(s).Compare(Read(u)), cmp.Compare(i, j); got != want {
				t.Errorf("compare %s, %s: %d, want %d", s, u, got, want)
			}
		}
	}
	if got := Read("x").Compare(Read("-0/5")); got != 0 {
		t.Errorf("compare 0 with 0: %d", got)
	}
}

func TestWhole(t *testing.T) {
	for _, c := range []struct {
		in   api.Q
		want int
		ok   bool
	}{
		{"0", 0, true}, {"-0", 0, true}, {"x", 0, true}, {"7", 7, true}, {"-7", -7, true}, {"08/4", 2, true}, {"-200", -200, true},
		{"4294967295", 1<<32 - 1, true}, {"4294967296", 1 << 32, true}, {"-4294967297", -1<<32 - 1, true},
		{"9223372036854775807", math.MaxInt, true}, {"-9223372036854775807", -math.MaxInt, true}, {"-9223372036854775808", math.MinInt, true},
		{"9223372036854775808", 0, false}, {"-9223372036854775809", 0, false}, {"18446744073709551615", 0, false}, {"-18446744073709551615", 0, false},
		{"18446744073709551616", 0, false}, {"18446744073709551617", 0, false}, {"-340282366920938463463374607431768211457", 0, false},
		{"1/2", 0, false}, {"-7/3", 0, false}, {"1/18446744073709551616", 0, false}, {"18446744073709551617/18446744073709551616", 0, false},
	} {
		if got, ok := Read(c.in).Whole(); got != c.want || ok != c.ok {
			t.Errorf("whole %s: %d %v, want %d %v", c.in, got, ok, c.want, c.ok)
		}
	}
	for _, n := range []int{0, 1, -1, 200, 1 << 40, math.MaxInt, math.MinInt} {
		if got, ok := Int(n).Whole(); got != n || !ok {
			t.Errorf("there and back: %d %v, want %d", got, ok, n)
		}
	}
}

func TestFloor(t *testing.T) {
	for _, c := range []struct{ a, b, want api.Q }{
		{"7", "2", "3"}, {"-7", "2", "-4"}, {"7", "-2", "-4"}, {"-7", "-2", "3"},
		{"6", "2", "3"}, {"-6", "2", "-3"}, {"6", "-2", "-3"}, {"-6", "-2", "3"},
		{"1", "2", "0"}, {"-1", "2", "-1"}, {"1", "-2", "-1"}, {"-1", "-2", "0"},
		{"0", "5", "0"}, {"0", "-5", "0"}, {"5", "0", "0"}, {"-5", "0", "0"}, {"0", "0", "0"},
		{"7/2", "1", "3"}, {"-7/2", "1", "-4"}, {"3/4", "1/4", "3"}, {"-3/4", "1/4", "-3"}, {"1", "2/3", "1"},
		{"18446744073709551616", "-3", "-6148914691236517206"}, {"-18446744073709551616", "18446744073709551617", "-1"},
	} {
		if got := Read(c.a).Floor(Read(c.b)).Text(); got != c.want {
			t.Errorf("%s over %s, down: %s, want %s", c.a, c.b, got, c.want)
		}
	}
}

func TestParts(t *testing.T) {
	for _, c := range []struct{ in, up, low api.Q }{
		{"0", "0", "1"}, {"x", "0", "1"}, {"7", "7", "1"}, {"-7", "-7", "1"}, {"6/4", "3", "2"}, {"-6/4", "-3", "2"}, {"-1/18446744073709551616", "-1", "18446744073709551616"},
	} {
		up, low := Read(c.in).Parts()
		if up.Text() != c.up || low.Text() != c.low {
			t.Errorf("parts of %s: %s, %s, want %s, %s", c.in, up.Text(), low.Text(), c.up, c.low)
		}
	}
}

func TestSumOfNone(t *testing.T) {
	if got := Sum().Text(); got != "0" {
		t.Errorf("sum of none: %q", got)
	}
	var zero Q
	if got := zero.Plus(zero).Text(); got != "0" {
		t.Errorf("zero values: %q", got)
	}
}

func TestGreatLength(t *testing.T) {
	const n = 20000
	nines := api.Q(strings.Repeat("9", n))
	sameQ(t, "nines", Read(nines).Plus(Read("1")), ratOf("1"+api.Q(strings.Repeat("0", n))))
	sameQ(t, "noughts ahead", Read(api.Q(strings.Repeat("0", n))+"5/"+api.Q(strings.Repeat("0", n))+"10"), ratOf("1/2"))
	sameQ(t, "in lowest terms", Read(nines+"/"+nines+"000"), ratOf("1/1000"))
}
