// Package num works with numbers that have six places: see doc/01-num.md.
package num

import (
	"math/bits"
	"strconv"
	"strings"

	"sheet/api"
)

const (
	places  = 6
	million = 1_000_000
	most    = 9_223_372_036_854_775_807 // the greatest number; the least one is -most

	fewestPlaces = -13 // of a Round; more than places do not count either
)

// Parse reads a number (A2).
func Parse(s string) (int, bool) {
	s, below := strings.CutPrefix(s, "-")
	whole, fraction, dotted := strings.Cut(s, ".")
	if !isDigits(whole) {
		return 0, false
	}
	if dotted && (!isDigits(fraction) || len(fraction) > places) {
		return 0, false
	}
	size, ok := readDigits(whole + fraction + strings.Repeat("0", places-len(fraction)))
	if !ok {
		return 0, false
	}
	return withSign(size, below), true
}

// Print writes a number (A2).
func Print(n int) string {
	if !isNumber(n) {
		return ""
	}
	sign := ""
	if n < 0 {
		sign = "-"
	}
	size := sizeOf(n)
	text := sign + strconv.FormatUint(size/million, 10)
	// The million that is added, and cut off again, keeps the zeros at the fraction's beginning.
	fraction := strconv.FormatUint(million+size%million, 10)[1:]
	fraction = strings.TrimRight(fraction, "0")
	if fraction == "" {
		return text
	}
	return text + "." + fraction
}

// Add is a sum (A3).
func Add(a int, b int) (int, api.Errno) {
	if !isNumber(a) || !isNumber(b) {
		return 0, api.ErrRange
	}
	if b > 0 && a > most-b || b < 0 && a < -most-b {
		return 0, api.ErrRange
	}
	return a + b, api.OK
}

// Sub is a difference (A3).
func Sub(a int, b int) (int, api.Errno) {
	// What is no number is its own opposite, so Add refuses it here too.
	return Add(a, -b)
}

// Mul is a product (A3).
func Mul(a int, b int) (int, api.Errno) {
	if !isNumber(a) || !isNumber(b) {
		return 0, api.ErrRange
	}
	return scaled(sizeOf(a), sizeOf(b), million, (a < 0) != (b < 0))
}

// Div is a quotient (A3).
func Div(a int, b int) (int, api.Errno) {
	if !isNumber(a) || !isNumber(b) {
		return 0, api.ErrRange
	}
	if b == 0 {
		return 0, api.ErrZero
	}
	return scaled(sizeOf(a), million, sizeOf(b), (a < 0) != (b < 0))
}

// Mod is what is left (A3).
func Mod(a int, b int) (int, api.Errno) {
	if !isNumber(a) || !isNumber(b) {
		return 0, api.ErrRange
	}
	if b == 0 {
		return 0, api.ErrZero
	}
	left := a % b
	// The language's % rounds towards 0; the chapter's quotient is rounded down.
	if left != 0 && (left < 0) != (b < 0) {
		left += b
	}
	return left, api.OK
}

// Floor rounds down (A4).
func Floor(a int) (int, api.Errno) {
	fraction, e := Mod(a, million)
	if e != api.OK {
		return 0, e
	}
	return Sub(a, fraction)
}

// Round rounds to places (A4).
func Round(a int, d int) (int, api.Errno) {
	if !isNumber(a) {
		return 0, api.ErrRange
	}
	unit := unitOf(min(max(d, fewestPlaces), places))
	times, _ := scaled(sizeOf(a), 1, unit, false) // at most the size of a, so it is a number
	return scaled(uint64(times), unit, 1, a < 0)
}

// unitOf tells how many millionths 10 to the power of -d has. The greatest one, 10^19, is no int, but is a word.
func unitOf(d int) uint64 {
	unit := uint64(1)
	for range places - d {
		unit *= 10
	}
	return unit
}

// scaled tells a times b, divided by c and rounded, with that sign. c is not 0.
func scaled(a uint64, b uint64, c uint64, below bool) (int, api.Errno) {
	high, low := bits.Mul64(a, b)
	if high >= c { // the quotient has more than one word, and bits.Div64 would panic
		return 0, api.ErrRange
	}
	size, rest := bits.Div64(high, low, c)
	if size > most { // ahead of rounding, which could come round to 0
		return 0, api.ErrRange
	}
	if rest > c-rest || rest == c-rest && size%2 == 1 {
		size++
	}
	if size > most {
		return 0, api.ErrRange
	}
	return withSign(size, below), api.OK
}

func isNumber(n int) bool { return n >= -most }

// sizeOf is a number without its sign.
func sizeOf(n int) uint64 {
	if n < 0 {
		return uint64(-n)
	}
	return uint64(n)
}

// withSign undoes sizeOf: size is at most most.
func withSign(size uint64, below bool) int {
	if below {
		return -int(size)
	}
	return int(size)
}

// isDigits tells whether s is one or more digits.
func isDigits(s string) bool {
	for i := range len(s) {
		if s[i] < '0' || s[i] > '9' {
			return false
		}
	}
	return s != ""
}

// readDigits tells what digits tell; false, if that is above most.
func readDigits(digits string) (uint64, bool) {
	n := uint64(0)
	for i := range len(digits) {
		if n > most/10 { // one more digit might go round the word
			return 0, false
		}
		n = n*10 + uint64(digits[i]-'0')
	}
	return n, n <= most
}
