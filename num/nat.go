package num

import (
	"math/bits"
	"slices"
)

// nat is a whole number from 0 on: limbs of 32 bits, the lowest first, the last one not 0. A nat is never changed once it is made, so that numbers may share limbs.
type nat []uint32

func one() nat { return nat{1} }

func isOne(a nat) bool { return len(a) == 1 && a[0] == 1 }

func trim(a nat) nat {
	for len(a) > 0 && a[len(a)-1] == 0 {
		a = a[:len(a)-1]
	}
	return a
}

func natOf(x uint64) nat { return trim(nat{uint32(x), uint32(x >> 32)}) }

// short is a as a machine number; a has two limbs at most.
func short(a nat) uint64 {
	var x uint64
	for i, limb := range a {
		x |= uint64(limb) << (32 * i)
	}
	return x
}

func compare(a, b nat) int {
	if len(a) != len(b) {
		return len(a) - len(b)
	}
	for i := len(a) - 1; i >= 0; i-- {
		if a[i] < b[i] {
			return -1
		}
		if a[i] > b[i] {
			return 1
		}
	}
	return 0
}

func add(a, b nat) nat {
	if len(a) < len(b) {
		a, b = b, a
	}
	sum := make(nat, len(a)+1)
	var carry uint64
	for i, limb := range a {
		carry += uint64(limb)
		if i < len(b) {
			carry += uint64(b[i])
		}
		sum[i] = uint32(carry)
		carry >>= 32
	}
	sum[len(a)] = uint32(carry)
	return trim(sum)
}

// subtract is a less b; b is no greater.
func subtract(a, b nat) nat { return combine(a, 1, b, 1) }

// combine is u times a less v times b, which isn't below 0.
func combine(a nat, u uint32, b nat, v uint32) nat {
	n := max(len(a), len(b))
	out := make(nat, n+1)
	var plus, minus, borrow uint64
	for i := range out {
		if i < len(a) {
			plus += uint64(u) * uint64(a[i])
		}
		if i < len(b) {
			minus += uint64(v) * uint64(b[i])
		}
		d := plus&(1<<32-1) - minus&(1<<32-1) - borrow
		out[i] = uint32(d)
		borrow = d >> 63
		plus >>= 32
		minus >>= 32
	}
	return trim(out)
}

func multiply(a, b nat) nat {
	if isOne(a) {
		return b
	}
	if isOne(b) {
		return a
	}
	out := make(nat, len(a)+len(b))
	for i, x := range a {
		var carry uint64
		for j, y := range b {
			carry += uint64(x)*uint64(y) + uint64(out[i+j])
			out[i+j] = uint32(carry)
			carry >>= 32
		}
		out[i+len(b)] = uint32(carry)
	}
	return trim(out)
}

// divide is how often b goes into a, and what is left; b isn't 0.
func divide(a, b nat) (quotient, left nat) {
	if compare(a, b) < 0 {
		return nil, a
	}
	if isOne(b) {
		return a, nil
	}
	if len(a) <= 2 {
		x, y := short(a), short(b)
		return natOf(x / y), natOf(x % y)
	}
	if len(b) == 1 {
		quotient = slices.Clone(a)
		rest := divideLimb(quotient, b[0])
		return trim(quotient), natOf(uint64(rest))
	}
	return divideLong(a, b)
}

// divideLimb divides a by b where it lies, and tells what is left.
func divideLimb(a nat, b uint32) uint32 {
	var left uint64
	for i := len(a) - 1; i >= 0; i-- {
		left = left<<32 | uint64(a[i])
		a[i] = uint32(left / uint64(b))
		left %= uint64(b)
	}
	return uint32(left)
}

// divideLong is the division by hand (Knuth's algorithm D): b has two limbs at least, and isn't greater than a. Both are shifted until b's highest bit is set: then a limb that is guessed from the leading ones is at most two too great.
func divideLong(a, b nat) (quotient, left nat) {
	n := len(b)
	shift := bits.LeadingZeros32(b[n-1])
	u, v := shiftLeft(a, shift), shiftLeft(b, shift)[:n]
	quotient = make(nat, len(a)-n+1)
	for j := len(quotient) - 1; j >= 0; j-- {
		quotient[j] = divideStep(u[j:j+n+1], v)
	}
	return trim(quotient), shiftRight(u[:n], shift)
}

// divideStep tells how often v goes into u, which has one limb more, and leaves in u what is left.
func divideStep(u, v nat) uint32 {
	n := len(v)
	lead := uint64(v[n-1])
	top := uint64(u[n])<<32 | uint64(u[n-1])
	guess, rest := top/lead, top%lead
	for rest>>32 == 0 && (guess>>32 != 0 || guess*uint64(v[n-2]) > rest<<32|uint64(u[n-2])) {
		guess--
		rest += lead
	}
	if takeAway(u, v, guess) {
		guess--
		giveBack(u, v)
	}
	return uint32(guess)
}

// takeAway takes k times v from u, and tells if that was too much.
func takeAway(u, v nat, k uint64) bool {
	var carry, borrow uint64
	for i, limb := range v {
		carry += k * uint64(limb)
		d := uint64(u[i]) - carry&(1<<32-1) - borrow
		u[i] = uint32(d)
		borrow = d >> 63
		carry >>= 32
	}
	d := uint64(u[len(v)]) - carry - borrow
	u[len(v)] = uint32(d)
	return d>>63 != 0
}

func giveBack(u, v nat) {
	var carry uint64
	for i, limb := range v {
		carry += uint64(u[i]) + uint64(limb)
		u[i] = uint32(carry)
		carry >>= 32
	}
	u[len(v)] += uint32(carry)
}

// shiftLeft has one limb more than a, be it 0; shift is below 32.
func shiftLeft(a nat, shift int) nat {
	out := make(nat, len(a)+1)
	var low uint32
	for i, limb := range a {
		out[i] = limb<<shift | low
		low = uint32(uint64(limb) << shift >> 32)
	}
	out[len(a)] = low
	return out
}

func shiftRight(a nat, shift int) nat {
	out := make(nat, len(a))
	var high uint32
	for i := len(a) - 1; i >= 0; i-- {
		out[i] = a[i]>>shift | high
		high = uint32(uint64(a[i]) << 32 >> shift)
	}
	return trim(out)
}
