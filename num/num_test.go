package num

import (
	"math"
	"math/big"
	"regexp"
	"strings"
	"testing"

	"sheet/api"
)

const (
	top  = math.MaxInt
	none = math.MinInt // the one int that is no number
)

// edges are numbers at and beside which something changes, with both signs.
func edges() []int {
	var out []int
	for _, n := range []int{0, 1, 2, 3, 5, 7, 499_999, 500_000, 500_001, 999_999, 1_000_000, 1_000_001, 1_500_000, 2_000_000, 2_500_000, 3_000_000, 3_500_000, 7_000_000, 1_234_567, 1_235_000, 15_000_000, 25_000_000,
		3_037_000_499, 3_037_000_500, 3_037_000_499_976, 3_037_000_499_977, 1 << 32, 1<<32 - 1, 1 << 62, 1<<62 - 1, 500_000_000_000_000_000, 5_000_000_000_000_000_000, 5_000_000_000_000_000_001, 4_999_999_999_999_999_999,
		9_223_372_036_854_000_000, 9_223_372_036_854_500_000, 9_223_372_036_853_500_000, top - 775_808, top - 775_807, top - 775_806, top - 1_000_000, top - 2, top - 1, top} {
		out = append(out, n, -n)
	}
	return out
}

// made is a row of ints of all sizes, the same one each time.
func made(count int) []int {
	state := uint64(1)
	var out []int
	for i := range count {
		state = state*6364136223846793005 + 1442695040888963407
		n := int(state>>1) >> (i % 63)
		if state>>63 == 1 {
			n = -n
		}
		out = append(out, n)
	}
	return out
}

// pairs are all pairs of edges, and some made ones.
func pairs() [][2]int {
	var out [][2]int
	all := edges()
	for _, a := range all {
		for _, b := range all {
			out = append(out, [2]int{a, b})
		}
	}
	ms := made(20_011)
	for i := range ms {
		out = append(out, [2]int{ms[i], ms[(i*7+3)%len(ms)]})
	}
	return out
}

func bigOf(n int) *big.Int { return big.NewInt(int64(n)) }

// nearest is p/q rounded to a whole number, halves to the even one, worked out by floors alone.
func nearest(p, q *big.Int) *big.Int {
	twice := new(big.Int).Mul(q, big.NewInt(2))
	up := new(big.Int).Add(new(big.Int).Mul(p, big.NewInt(2)), q)
	n := floored(up, twice)
	tie := new(big.Int).Mul(n, twice).Cmp(up) == 0
	if tie && n.Bit(0) == 1 {
		n.Sub(n, big.NewInt(1))
	}
	return n
}

// floored is p/q rounded down.
func floored(p, q *big.Int) *big.Int {
	if q.Sign() < 0 {
		p, q = new(big.Int).Neg(p), new(big.Int).Neg(q)
	}
	return new(big.Int).Div(p, q) // Euclid's way is rounding down where q is above 0
}

// answer is what a call says of an exact result.
func answer(n *big.Int) (int, api.Errno) {
	if n.CmpAbs(bigOf(top)) > 0 {
		return 0, api.ErrRange
	}
	return int(n.Int64()), api.OK
}

func check(t *testing.T, promise, call string, a, b, n int, e api.Errno, want int, wantErr api.Errno) {
	t.Helper()
	if n != want || e != wantErr {
		t.Errorf("%s: %s(%d, %d) = %d, %d, want %d, %d", promise, call, a, b, n, e, want, wantErr)
	}
}

func TestA1WhatIsNoNumberIsRefused(t *testing.T) {
	calls := map[string]func(int, int) (int, api.Errno){"Add": Add, "Sub": Sub, "Mul": Mul, "Div": Div, "Mod": Mod}
	for name, f := range calls {
		for _, b := range []int{none, 0, 1, -1, 1_000_000, top, -top} {
			n, e := f(none, b)
			check(t, "A1", name, none, b, n, e, 0, api.ErrRange)
			n, e = f(b, none)
			check(t, "A1", name, b, none, n, e, 0, api.ErrRange)
		}
	}
	for _, d := range []int{none, -14, -13, 0, 6, 7, top} {
		n, e := Round(none, d)
		check(t, "A1", "Round", none, d, n, e, 0, api.ErrRange)
	}
	n, e := Floor(none)
	check(t, "A1", "Floor", none, 0, n, e, 0, api.ErrRange)
	if s := Print(none); s != "" {
		t.Errorf("A1: Print(%d) = %q", none, s)
	}
}

func TestA1BothEndsAreNumbers(t *testing.T) {
	for _, n := range []int{top, -top} {
		for name, f := range map[string]func(int, int) (int, api.Errno){"Add": Add, "Sub": Sub} {
			got, e := f(n, 0)
			check(t, "A1", name, n, 0, got, e, n, api.OK)
		}
		for name, f := range map[string]func(int, int) (int, api.Errno){"Mul": Mul, "Div": Div} {
			got, e := f(n, 1_000_000)
			check(t, "A1", name, n, 1_000_000, got, e, n, api.OK)
			got, e = f(n, -1_000_000)
			check(t, "A1", name, n, -1_000_000, got, e, -n, api.OK)
		}
		got, e := Round(n, 6)
		check(t, "A1", "Round", n, 6, got, e, n, api.OK)
	}
}

func TestA2Parse(t *testing.T) {
	zeros := strings.Repeat("0", 5000)
	for s, want := range map[string]int{
		"0": 0, "-0": 0, "00": 0, "-0.000000": 0, "0.0": 0, "1": 1_000_000, "-1": -1_000_000, "12": 12_000_000,
		"1.5": 1_500_000, "-1.5": -1_500_000, "1.50": 1_500_000, "0.000001": 1, "-0.000001": -1, "0.123456": 123_456, "1.05": 1_050_000,
		"007.10": 7_100_000, "9876543210": 9_876_543_210_000_000,
		"9223372036854.775807": top, "-9223372036854.775807": -top, "9223372036854.775806": top - 1, "9223372036854": top - 775_807,
		zeros: 0, zeros + "3": 3_000_000, "-" + zeros + "9223372036854.775807": -top,
	} {
		if n, ok := Parse(s); n != want || !ok {
			t.Errorf("A2: Parse(%.40q) = %d, %v, want %d", s, n, ok, want)
		}
	}
}

func TestA2ParseOfOtherTexts(t *testing.T) {
	for _, s := range []string{
		"", "-", ".", "-.", ".5", "-.5", "1.", "-1.", "1..2", "1.2.3", "1.2.", "+1", "--1", "1-", "1.-5", "-+1", " 1", "1 ", "- 1", "1. 5", "1e5", "1E5", "0x10", "1_000", "1,5",
		"1.0000000", "0.1234567", "0.0000000", "9223372036854.775808", "-9223372036854.775808", "9223372036854.775810", "9223372036855", "-9223372036855", "10000000000000", "18446744073709.551616", "18446744073709.551617", "99999999999999999999",
		"inf", "NaN", "x", "1x", "x1", "1.x", "\x001", "1\x00", "/", ":", "1/", "1:", "1./", "1.:", "１", "٣", "\xff", "−1", strings.Repeat("9", 5000), "0." + strings.Repeat("0", 5000), "-" + strings.Repeat("1", 100),
	} {
		if n, ok := Parse(s); n != 0 || ok {
			t.Errorf("A2: Parse(%.40q) = %d, %v, want 0, false", s, n, ok)
		}
	}
}

// TestA2ParseOfShortTexts holds all texts of some bytes against a pattern.
func TestA2ParseOfShortTexts(t *testing.T) {
	pattern := regexp.MustCompile(`^-?[0-9]+(\.[0-9]{1,6})?$`)
	texts := []string{""}
	for i := 0; i < len(texts); i++ {
		s := texts[i]
		if len(s) < 5 {
			for _, c := range []byte("-.0059/: ") {
				texts = append(texts, s+string(c))
			}
		}
		n, ok := Parse(s)
		if ok != pattern.MatchString(s) {
			t.Fatalf("A2: Parse(%q) = %d, %v", s, n, ok)
		}
		want := new(big.Rat)
		if ok {
			want.SetString(s)
		}
		if new(big.Rat).SetFrac64(int64(n), 1_000_000).Cmp(want) != 0 {
			t.Fatalf("A2: Parse(%q) = %d", s, n)
		}
	}
}

func TestA2Print(t *testing.T) {
	for n, want := range map[int]string{
		0: "0", 1: "0.000001", -1: "-0.000001", 10: "0.00001", 100_000: "0.1", 500_000: "0.5", -500_000: "-0.5", 999_999: "0.999999", 1_000_000: "1", -1_000_000: "-1",
		1_000_001: "1.000001", 1_010_000: "1.01", 1_500_000: "1.5", 10_000_000: "10", 100_000_000: "100", -120_340_000: "-120.34", top: "9223372036854.775807", -top: "-9223372036854.775807",
	} {
		if s := Print(n); s != want {
			t.Errorf("A2: Print(%d) = %q, want %q", n, s, want)
		}
	}
}

func TestA2PrintIsPlainAndReadBack(t *testing.T) {
	plain := regexp.MustCompile(`^-?(0|[1-9][0-9]*)(\.[0-9]*[1-9])?$`)
	for _, n := range append(edges(), made(20_000)...) {
		s := Print(n)
		if !plain.MatchString(s) || s == "-0" {
			t.Errorf("A2: Print(%d) = %q", n, s)
		}
		if back, ok := Parse(s); back != n || !ok {
			t.Errorf("A2: Parse(Print(%d)) = %d, %v", n, back, ok)
		}
	}
}

func TestA3OfHandPickedNumbers(t *testing.T) {
	for _, c := range []struct {
		name string
		f    func(int, int) (int, api.Errno)
		a, b int
		want int
		e    api.Errno
	}{
		{"Add", Add, 1_500_000, 2_250_000, 3_750_000, api.OK},
		{"Add", Add, top, 1, 0, api.ErrRange},
		{"Add", Add, -top, -1, 0, api.ErrRange}, // the sum is an int, but no number
		{"Add", Add, top, -top, 0, api.OK},
		{"Sub", Sub, 1_000_000, 2_500_000, -1_500_000, api.OK},
		{"Sub", Sub, -top, 1, 0, api.ErrRange},
		{"Sub", Sub, top, -1, 0, api.ErrRange},
		{"Sub", Sub, top, top, 0, api.OK},
		{"Mul", Mul, 1_500_000, -1_500_000, -2_250_000, api.OK},
		{"Mul", Mul, 1, 500_000, 0, api.OK}, // halves: to the even one
		{"Mul", Mul, 3, 500_000, 2, api.OK},
		{"Mul", Mul, 5, 500_000, 2, api.OK},
		{"Mul", Mul, -1, 500_000, 0, api.OK},
		{"Mul", Mul, -3, -500_000, 2, api.OK},
		{"Mul", Mul, 1, 500_001, 1, api.OK},
		{"Mul", Mul, 1, 499_999, 0, api.OK},
		{"Mul", Mul, top, 1_000_001, 0, api.ErrRange},
		{"Mul", Mul, top, top, 0, api.ErrRange},
		{"Mul", Mul, -top, top, 0, api.ErrRange},
		{"Mul", Mul, 6_700_417_000_000, 1_376_556_479_757, 0, api.ErrRange}, // 2^63 and a bit
		{"Div", Div, 1_000_000, 3_000_000, 333_333, api.OK},
		{"Div", Div, -2_000_000, 3_000_000, -666_667, api.OK},
		{"Div", Div, 1, 2_000_000, 0, api.OK}, // halves: to the even one
		{"Div", Div, 3, 2_000_000, 2, api.OK},
		{"Div", Div, -5, 2_000_000, -2, api.OK},
		{"Div", Div, 0, 5, 0, api.OK},
		{"Div", Div, 1, 0, 0, api.ErrZero},
		{"Div", Div, 0, 0, 0, api.ErrZero},
		{"Div", Div, top, 999_999, 0, api.ErrRange},
		{"Div", Div, top, 1, 0, api.ErrRange},
		{"Div", Div, top, top, 1_000_000, api.OK},
		{"Div", Div, -top, top, -1_000_000, api.OK},
		{"Mod", Mod, 7_000_000, 3_000_000, 1_000_000, api.OK},
		{"Mod", Mod, -7_000_000, 3_000_000, 2_000_000, api.OK},
		{"Mod", Mod, 7_000_000, -3_000_000, -2_000_000, api.OK},
		{"Mod", Mod, -7_000_000, -3_000_000, -1_000_000, api.OK},
		{"Mod", Mod, -6_000_000, 3_000_000, 0, api.OK},
		{"Mod", Mod, 1_000_000, 300_000, 100_000, api.OK},
		{"Mod", Mod, -1, top, top - 1, api.OK},
		{"Mod", Mod, top, -1, 0, api.OK},
		{"Mod", Mod, 1, 0, 0, api.ErrZero},
	} {
		n, e := c.f(c.a, c.b)
		check(t, "A3", c.name, c.a, c.b, n, e, c.want, c.e)
	}
}

func TestA3AgainstExactNumbers(t *testing.T) {
	million := big.NewInt(1_000_000)
	for _, p := range pairs() {
		a, b := p[0], p[1]
		x, y := bigOf(a), bigOf(b)
		n, e := Add(a, b)
		want, wantErr := answer(new(big.Int).Add(x, y))
		check(t, "A3", "Add", a, b, n, e, want, wantErr)
		n, e = Sub(a, b)
		want, wantErr = answer(new(big.Int).Sub(x, y))
		check(t, "A3", "Sub", a, b, n, e, want, wantErr)
		n, e = Mul(a, b)
		want, wantErr = answer(nearest(new(big.Int).Mul(x, y), million))
		check(t, "A3", "Mul", a, b, n, e, want, wantErr)
		if b == 0 {
			continue
		}
		// The sign goes over to x, so that nearest divides by what is above 0.
		scaled := new(big.Int).Mul(x, million)
		if b < 0 {
			scaled.Neg(scaled)
		}
		n, e = Div(a, b)
		want, wantErr = answer(nearest(scaled, new(big.Int).Abs(y)))
		check(t, "A3", "Div", a, b, n, e, want, wantErr)
		n, e = Mod(a, b)
		times := floored(x, y)
		want, wantErr = answer(new(big.Int).Sub(x, times.Mul(times, y)))
		check(t, "A3", "Mod", a, b, n, e, want, wantErr)
	}
}

// TestA3RoundingAtTheEnd looks for products and quotients that are a fraction of a millionth away from the greatest number.
func TestA3RoundingAtTheEnd(t *testing.T) {
	million := big.NewInt(1_000_000)
	seen := map[api.Errno]int{}
	for b := 1_000_001; b < 1_020_000; b++ {
		a := int(floored(new(big.Int).Mul(bigOf(top), million), bigOf(b)).Int64())
		for _, x := range []int{a - 1, a, a + 1} {
			n, e := Mul(x, -b)
			want, wantErr := answer(new(big.Int).Neg(nearest(new(big.Int).Mul(bigOf(x), bigOf(b)), million)))
			check(t, "A3", "Mul", x, -b, n, e, want, wantErr)
			seen[e]++
		}
	}
	if seen[api.OK] == 0 || seen[api.ErrRange] == 0 {
		t.Error("A3: both sides of the end should come up")
	}
}

func TestA4Floor(t *testing.T) {
	for _, c := range []struct {
		a, want int
		e       api.Errno
	}{
		{0, 0, api.OK}, {1, 0, api.OK}, {999_999, 0, api.OK}, {1_000_000, 1_000_000, api.OK}, {1_500_000, 1_000_000, api.OK}, {-1, -1_000_000, api.OK}, {-999_999, -1_000_000, api.OK}, {-1_000_000, -1_000_000, api.OK}, {-1_000_001, -2_000_000, api.OK},
		{top, 9_223_372_036_854_000_000, api.OK}, {-top, 0, api.ErrRange}, {-9_223_372_036_854_000_001, 0, api.ErrRange}, {-9_223_372_036_854_000_000, -9_223_372_036_854_000_000, api.OK},
	} {
		n, e := Floor(c.a)
		check(t, "A4", "Floor", c.a, 0, n, e, c.want, c.e)
	}
	million := big.NewInt(1_000_000)
	for _, a := range append(edges(), made(20_000)...) {
		n, e := Floor(a)
		whole := floored(bigOf(a), million)
		want, wantErr := answer(whole.Mul(whole, million))
		check(t, "A4", "Floor", a, 0, n, e, want, wantErr)
	}
}

func TestA4RoundOfHandPickedNumbers(t *testing.T) {
	for _, c := range []struct {
		a, d, want int
		e          api.Errno
	}{
		{2_500_000, 0, 2_000_000, api.OK}, {3_500_000, 0, 4_000_000, api.OK}, {-2_500_000, 0, -2_000_000, api.OK}, {-3_500_000, 0, -4_000_000, api.OK}, {2_500_001, 0, 3_000_000, api.OK}, {2_499_999, 0, 2_000_000, api.OK}, {500_000, 0, 0, api.OK},
		{1_234_567, 2, 1_230_000, api.OK}, {1_235_000, 2, 1_240_000, api.OK}, {1_225_000, 2, 1_220_000, api.OK}, {1_234_565, 5, 1_234_560, api.OK}, {1_234_575, 5, 1_234_580, api.OK},
		{15_000_000, -1, 20_000_000, api.OK}, {25_000_000, -1, 20_000_000, api.OK}, {-15_000_000, -1, -20_000_000, api.OK}, {4_000_000, -1, 0, api.OK},
		{1_234_567, 6, 1_234_567, api.OK}, {1_234_567, 7, 1_234_567, api.OK}, {1_234_567, top, 1_234_567, api.OK},
		{top, -12, 9_000_000_000_000_000_000, api.OK}, {top, -6, 9_223_372_000_000_000_000, api.OK}, {top, 0, 0, api.ErrRange}, {-top, 0, 0, api.ErrRange}, {top, 5, 0, api.ErrRange}, {top, 6, top, api.OK},
		{top, -13, 0, api.ErrRange}, {5_000_000_000_000_000_001, -13, 0, api.ErrRange}, {5_000_000_000_000_000_000, -13, 0, api.OK}, {-5_000_000_000_000_000_000, -14, 0, api.OK}, {4_999_999_999_999_999_999, none, 0, api.OK}, {-5_000_000_000_000_000_001, none, 0, api.ErrRange}, {1, -14, 0, api.OK},
	} {
		n, e := Round(c.a, c.d)
		check(t, "A4", "Round", c.a, c.d, n, e, c.want, c.e)
	}
}

func TestA4RoundAgainstExactNumbers(t *testing.T) {
	numbers := append(edges(), made(2_000)...)
	for _, d := range []int{none, -1000, -15, -14, -13, -12, -11, -10, -9, -8, -7, -6, -5, -4, -3, -2, -1, 0, 1, 2, 3, 4, 5, 6, 7, 8, 1000, top} {
		counted := min(max(d, -13), 6)
		unit := new(big.Int).Exp(big.NewInt(10), bigOf(6-counted), nil)
		for _, a := range numbers {
			n, e := Round(a, d)
			times := nearest(bigOf(a), unit)
			want, wantErr := answer(times.Mul(times, unit))
			check(t, "A4", "Round", a, d, n, e, want, wantErr)
		}
	}
}
