package num

import (
	"slices"
	"strconv"
	"strings"

	"compass/api"
)

// Nine digits of the base ten are what fits into a limb.
const (
	runDigits = 9
	runBase   = 1_000_000_000
)

// Read is what a text tells; 0, if it isn't written as a fraction, or is divided by 0.
func Read(text api.Q) Q {
	rest, neg := strings.CutPrefix(string(text), "-")
	up, low, bar := strings.Cut(rest, "/")
	if !bar {
		low = "1"
	}
	if !isDigits(up) || !isDigits(low) {
		return Q{}
	}
	return reduced(neg, readNat(up), readNat(low))
}

func isDigits(t string) bool {
	for i := range len(t) {
		if t[i] < '0' || t[i] > '9' {
			return false
		}
	}
	return t != ""
}

func readNat(t string) nat {
	t = strings.TrimLeft(t, "0")
	a := make(nat, 0, len(t)/runDigits+1)
	for t != "" {
		n := (len(t)-1)%runDigits + 1
		a = appendRun(a, readRun(t[:n]))
		t = t[n:]
	}
	return a
}

// readRun reads nine digits at most.
func readRun(t string) uint32 {
	var run uint32
	for i := range len(t) {
		run = run*10 + uint32(t[i]-'0')
	}
	return run
}

// appendRun puts nine digits behind a: a is this package's own yet, so it is changed where it lies.
func appendRun(a nat, run uint32) nat {
	carry := uint64(run)
	for i, limb := range a {
		carry += uint64(limb) * runBase
		a[i] = uint32(carry)
		carry >>= 32
	}
	if carry != 0 {
		a = append(a, uint32(carry))
	}
	return a
}

// Text is the fraction as it is answered.
func (a Q) Text() api.Q {
	text := natText(a.up)
	if a.neg {
		text = "-" + text
	}
	if len(a.low) != 0 {
		text += "/" + natText(a.low)
	}
	return api.Q(text)
}

func natText(a nat) string {
	runs := runsOf(a)
	if len(runs) == 0 {
		return "0"
	}
	var b strings.Builder
	for i := len(runs) - 1; i >= 0; i-- {
		t := strconv.FormatUint(uint64(runs[i]), 10)
		if i < len(runs)-1 {
			b.WriteString(strings.Repeat("0", runDigits-len(t)))
		}
		b.WriteString(t)
	}
	return b.String()
}

// runsOf cuts a into runs of nine digits, the lowest first.
func runsOf(a nat) []uint32 {
	var runs []uint32
	a = slices.Clone(a)
	for len(a) > 0 {
		runs = append(runs, divideLimb(a, runBase))
		a = trim(a)
	}
	return runs
}
