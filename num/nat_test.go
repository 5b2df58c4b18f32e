package num

import (
	"math/big"
	"math/rand"
	"testing"
)

// bigOf is the library's number of the same limbs: tests hold ours against it.
func bigOf(a nat) *big.Int {
	x := new(big.Int)
	for i := len(a) - 1; i >= 0; i-- {
		x.Lsh(x, 32)
		x.Or(x, big.NewInt(int64(a[i])))
	}
	return x
}

func sameNat(t *testing.T, what string, got nat, want *big.Int) {
	t.Helper()
	if len(got) > 0 && got[len(got)-1] == 0 {
		t.Fatalf("%s: a 0 on top: %x", what, got)
	}
	if bigOf(got).Cmp(want) != 0 {
		t.Fatalf("%s: %x, want %x", what, bigOf(got), want)
	}
}

// edgeNat is made of limbs at which carries, borrows and guesses go wrong.
func edgeNat(r *rand.Rand, limbs int) nat {
	edges := []uint32{0, 0, 1, 2, 0x7fffffff, 0x80000000, 0x80000001, 0xfffffffe, 0xffffffff}
	a := make(nat, r.Intn(limbs+1))
	for i := range a {
		if r.Intn(3) == 0 {
			a[i] = r.Uint32()
		} else {
			a[i] = edges[r.Intn(len(edges))]
		}
	}
	return trim(a)
}

func TestNatAgainstLibrary(t *testing.T) {
	r := rand.New(rand.NewSource(1))
	for range 20000 {
		a, b := edgeNat(r, 9), edgeNat(r, 9)
		x, y := bigOf(a), bigOf(b)
		if got, want := compare(a, b), x.Cmp(y); got < 0 != (want < 0) || got > 0 != (want > 0) {
			t.Fatalf("compare %x, %x: %d", x, y, got)
		}
		sameNat(t, "add", add(a, b), new(big.Int).Add(x, y))
		sameNat(t, "multiply", multiply(a, b), new(big.Int).Mul(x, y))
		sameNat(t, "gcd", gcd(a, b), new(big.Int).GCD(nil, nil, x, y))
		if len(b) > 0 {
			q, left := divide(a, b)
			sameNat(t, "quotient", q, new(big.Int).Quo(x, y))
			sameNat(t, "left", left, new(big.Int).Rem(x, y))
		}
		if x.Cmp(y) < 0 {
			a, b, x, y = b, a, y, x
		}
		sameNat(t, "subtract", subtract(a, b), new(big.Int).Sub(x, y))
		sameNat(t, "a is left as it was", a, x)
		sameNat(t, "b is left as it was", b, y)
	}
}

func TestDivideGivesBack(t *testing.T) {
	// The guess from the leading limbs is one too great here, behind its correction.
	a, b := nat{3, 0, 0x80000000}, nat{1, 0, 0x20000000}
	q, left := divide(a, b)
	sameNat(t, "quotient", q, big.NewInt(3))
	sameNat(t, "left", left, new(big.Int).Lsh(big.NewInt(0x20000000), 64))
	a, b = nat{0, 0, 0x8000, 0x7fff}, nat{1, 0, 0x8000}
	q, left = divide(a, b)
	sameNat(t, "quotient, long", q, new(big.Int).Quo(bigOf(a), bigOf(b)))
	sameNat(t, "left, long", left, new(big.Int).Rem(bigOf(a), bigOf(b)))
}

func TestGcdOfLongNumbers(t *testing.T) {
	r := rand.New(rand.NewSource(2))
	for range 300 {
		a, b, c := edgeNat(r, 60), edgeNat(r, 60), edgeNat(r, 60)
		a, b = multiply(a, c), multiply(b, c)
		sameNat(t, "gcd", gcd(a, b), new(big.Int).GCD(nil, nil, bigOf(a), bigOf(b)))
	}
}

func TestGcdOfNeighbours(t *testing.T) {
	// Fibonacci's numbers take the most of Euclid's steps.
	a, b := nat{1}, nat{1}
	for i := range 2000 {
		a, b = b, add(a, b)
		if g := gcd(a, b); !isOne(g) {
			t.Fatalf("neighbours %d: %x", i, g)
		}
	}
}
