package value

import (
	"math"
	"strings"
	"testing"

	"sheet/api"
)

var (
	nothingV = api.Value{}
	trueV    = api.Value{Kind: 3, Num: 1}
	falseV   = api.Value{Kind: 3}
	bound    = strings.Repeat("x", 1000) // the longest text
	over     = strings.Repeat("x", 1001)
)

func millionths(n int) api.Value { return api.Value{Kind: 1, Num: n} }
func whole(n int) api.Value      { return api.Value{Kind: 1, Num: n * 1_000_000} }
func words(s string) api.Value   { return api.Value{Kind: 2, Text: s} }
func failure(n int) api.Value    { return api.Value{Kind: 4, Num: n} }

// odd are values of parts that do not fit, and what they count as.
func odd() [][2]api.Value {
	return [][2]api.Value{
		{{Kind: 0, Num: 5, Text: "x"}, nothingV},
		{{Kind: 5, Num: 5, Text: "x"}, nothingV},
		{{Kind: -1, Num: 5, Text: "x"}, nothingV},
		{{Kind: math.MaxInt, Num: 1}, nothingV},
		{{Kind: math.MinInt, Num: 1}, nothingV},
		{{Kind: 1, Num: 7, Text: "x"}, millionths(7)},
		{{Kind: 1, Num: 7, Text: over}, millionths(7)},
		{{Kind: 1, Num: math.MaxInt}, millionths(math.MaxInt)},
		{{Kind: 1, Num: -math.MaxInt}, millionths(-math.MaxInt)},
		{{Kind: 1, Num: math.MinInt}, failure(2)},
		{{Kind: 1, Num: math.MinInt, Text: "x"}, failure(2)},
		{{Kind: 2, Num: 7, Text: "x"}, words("x")},
		{{Kind: 2, Num: math.MinInt, Text: ""}, words("")},
		{{Kind: 2, Text: bound}, words(bound)},
		{{Kind: 2, Text: over}, failure(3)},
		{{Kind: 2, Num: 1, Text: over + over}, failure(3)},
		{{Kind: 3, Num: 0, Text: "x"}, falseV},
		{{Kind: 3, Num: 1, Text: "x"}, trueV},
		{{Kind: 3, Num: 2}, trueV},
		{{Kind: 3, Num: -1}, trueV},
		{{Kind: 3, Num: math.MinInt}, trueV},
		{{Kind: 4, Num: 1, Text: "x"}, failure(1)},
		{{Kind: 4, Num: 6, Text: over}, failure(6)},
		{{Kind: 4, Num: 0}, failure(3)},
		{{Kind: 4, Num: 7}, failure(3)},
		{{Kind: 4, Num: -1}, failure(3)},
		{{Kind: 4, Num: math.MinInt}, failure(3)},
		{{Kind: 4, Num: math.MaxInt}, failure(3)},
	}
}

// TestB1OddValuesCountAsOthers holds each call at an odd value against that at what it counts as.
func TestB1OddValuesCountAsOthers(t *testing.T) {
	others := []api.Value{nothingV, whole(0), whole(2), words(""), words("x"), words("2"), trueV, falseV, failure(5)}
	for _, pair := range odd() {
		v, w := pair[0], pair[1]
		if Show(v) != Show(w) {
			t.Errorf("B1: Show(%.40v) = %.40q", v, Show(v))
		}
		n1, e1 := Number(v)
		n2, e2 := Number(w)
		s1, f1 := Text(v)
		s2, f2 := Text(w)
		b1, g1 := Truth(v)
		b2, g2 := Truth(w)
		if n1 != n2 || e1 != e2 || s1 != s2 || f1 != f2 || b1 != b2 || g1 != g2 {
			t.Errorf("B1: %.40v does not count as %.40v", v, w)
		}
		for _, other := range others {
			if Order(v, other) != Order(w, other) || Order(other, v) != Order(other, w) {
				t.Errorf("B1: Order of %.40v and %v", v, other)
			}
			for _, op := range []string{"+", "-", "*", "/", "^", "&", "=", "<>", "<", "<=", ">", ">=", "?"} {
				if Work(op, v, other) != Work(op, w, other) || Work(op, other, v) != Work(op, other, w) {
					t.Errorf("B1: Work(%q) of %.40v and %v", op, v, other)
				}
			}
		}
	}
}

func TestB1WhatOddValuesAre(t *testing.T) {
	for _, pair := range odd() {
		v, w := pair[0], pair[1]
		if w.Kind != 4 {
			continue
		}
		if n, e := Number(v); n != 0 || e != w.Num {
			t.Errorf("B1: Number(%.40v) = %d, %d", v, n, e)
		}
		if got := Work("+", v, whole(1)); got != w {
			t.Errorf("B1: Work of %.40v is %.40v, want %v", v, got, w)
		}
		if got := Work("+", whole(1), v); got != w {
			t.Errorf("B1: Work of %.40v is %.40v, want %v", v, got, w)
		}
	}
	if b, e := Truth(api.Value{Kind: 3, Num: -9}); !b || e != 0 {
		t.Error("B1: a truth of any Num but 0 is true")
	}
	if n, e := Number(api.Value{Kind: 3, Num: -9}); n != 1_000_000 || e != 0 {
		t.Error("B1: the number of a truth of any Num but 0 is 1")
	}
	if s, e := Text(api.Value{Kind: 17, Num: 4, Text: "x"}); s != "" || e != 0 {
		t.Error("B1: another Kind is nothing")
	}
	if s, e := Text(words(bound)); s != bound || e != 0 {
		t.Error("B1: a text of 1000 bytes is one")
	}
}

func TestB1TheSixErrors(t *testing.T) {
	for i, name := range []string{"#DIV/0!", "#NUM!", "#VALUE!", "#REF!", "#N/A", "#CYCLE!"} {
		if s := Show(failure(i + 1)); s != name {
			t.Errorf("B1: Show of the error %d = %q, want %q", i+1, s, name)
		}
		if v := Read(name); v != failure(i+1) {
			t.Errorf("B1, B2: Read(%q) = %v", name, v)
		}
	}
}

func TestB2Read(t *testing.T) {
	zeros := strings.Repeat("0", 2000)
	for s, want := range map[string]api.Value{
		"": nothingV, "0": whole(0), "1.5": millionths(1_500_000), "-0.000001": millionths(-1), "007": whole(7), "9223372036854.775807": millionths(math.MaxInt), zeros + "4": whole(4),
		"TRUE": trueV, "true": trueV, "tRuE": trueV, "FALSE": falseV, "false": falseV, "FaLsE": falseV,
		"#DIV/0!": failure(1), "#CYCLE!": failure(6), "#div/0!": words("#div/0!"), "#n/a": words("#n/a"), "#N/A ": words("#N/A "), "#": words("#"), "#NUM": words("#NUM"),
		"'": words(""), "'1": words("1"), "'TRUE": words("TRUE"), "'#N/A": words("#N/A"), "''": words("'"), "''x'": words("'x'"), "'=A1": words("=A1"),
		"x": words("x"), " 1": words(" 1"), "1 ": words("1 "), "+1": words("+1"), "1.": words("1."), ".5": words(".5"), "1.0000000": words("1.0000000"), "9223372036854.775808": words("9223372036854.775808"),
		" TRUE": words(" TRUE"), "TRUE ": words("TRUE "), "TRU": words("TRU"), "TRUEE": words("TRUEE"), "YES": words("YES"), "fal\u017fe": words("fal\u017fe"), "FAL\u017fE": words("FAL\u017fE"), "=A1": words("=A1"), "\xff\x00": words("\xff\x00"), "\n": words("\n"), " ": words(" "), "x'": words("x'"),
		bound: words(bound), over: failure(3), "'" + bound: words(bound), "'" + over: failure(3), "'" + bound[1:]: words(bound[1:]),
	} {
		if v := Read(s); v != want {
			t.Errorf("B2: Read(%.40q) = %.60v, want %.60v", s, v, want)
		}
	}
}

func TestB3TextAndShow(t *testing.T) {
	for _, c := range []struct {
		v    api.Value
		want string
	}{
		{nothingV, ""}, {whole(0), "0"}, {whole(-12), "-12"}, {millionths(1_500_000), "1.5"}, {millionths(-1), "-0.000001"}, {words(""), ""}, {words("ab\xff'"), "ab\xff'"}, {words(bound), bound}, {trueV, "TRUE"}, {falseV, "FALSE"},
	} {
		if s, e := Text(c.v); s != c.want || e != 0 {
			t.Errorf("B3: Text(%.40v) = %.40q, %d", c.v, s, e)
		}
		if s := Show(c.v); s != c.want {
			t.Errorf("B3: Show(%.40v) = %.40q", c.v, s)
		}
	}
	for n := 1; n <= 6; n++ {
		if s, e := Text(failure(n)); s != "" || e != n {
			t.Errorf("B3: Text of the error %d = %q, %d", n, s, e)
		}
	}
	if Show(millionths(math.MinInt)) != "#NUM!" || Show(words(over)) != "#VALUE!" || Show(failure(99)) != "#VALUE!" {
		t.Error("B3: Show of what counts as an error")
	}
}

func TestB4Number(t *testing.T) {
	for _, c := range []struct {
		v    api.Value
		n, e int
	}{
		{nothingV, 0, 0}, {whole(3), 3_000_000, 0}, {millionths(-math.MaxInt), -math.MaxInt, 0}, {trueV, 1_000_000, 0}, {falseV, 0, 0},
		{words("1.5"), 1_500_000, 0}, {words("-007"), -7_000_000, 0}, {words("0"), 0, 0}, {words(strings.Repeat("0", 999) + "1"), 1_000_000, 0},
		{words(""), 0, 3}, {words("x"), 0, 3}, {words(" 1"), 0, 3}, {words("TRUE"), 0, 3}, {words("'1"), 0, 3}, {words("9223372036854.775808"), 0, 3}, {words(strings.Repeat("0", 1001)), 0, 3}, {words("#N/A"), 0, 3},
		{failure(1), 0, 1}, {failure(2), 0, 2}, {failure(6), 0, 6}, {failure(0), 0, 3}, {millionths(math.MinInt), 0, 2},
	} {
		if n, e := Number(c.v); n != c.n || e != c.e {
			t.Errorf("B4: Number(%.40v) = %d, %d, want %d, %d", c.v, n, e, c.n, c.e)
		}
	}
}

func TestB4Truth(t *testing.T) {
	for _, c := range []struct {
		v  api.Value
		is bool
		e  int
	}{
		{nothingV, false, 0}, {whole(0), false, 0}, {whole(1), true, 0}, {millionths(1), true, 0}, {millionths(-1), true, 0}, {trueV, true, 0}, {falseV, false, 0},
		{words("TRUE"), true, 0}, {words("tRuE"), true, 0}, {words("FALSE"), false, 0}, {words("falsE"), false, 0},
		{words(""), false, 3}, {words("1"), false, 3}, {words("0"), false, 3}, {words(" TRUE"), false, 3}, {words("fal\u017fe"), false, 3}, {words("TRUEFALSE"), false, 3}, {words(over), false, 3},
		{failure(1), false, 1}, {failure(5), false, 5}, {failure(-1), false, 3}, {millionths(math.MinInt), false, 2},
	} {
		if is, e := Truth(c.v); is != c.is || e != c.e {
			t.Errorf("B4: Truth(%.40v) = %v, %d, want %v, %d", c.v, is, e, c.is, c.e)
		}
	}
}

// rows are values from below to above; those of one row are equal.
func rows() [][]api.Value {
	return [][]api.Value{
		{millionths(-math.MaxInt)}, {whole(-1)}, {millionths(-1)}, {whole(0)}, {millionths(1)}, {whole(1)}, {whole(9)}, {whole(10)}, {millionths(math.MaxInt)},
		{words("")}, {words("\x00")}, {words(" ")}, {words("1")}, {words("10")}, {words("9")}, {words("@")}, {words("a"), words("A")}, {words("a "), words("A ")}, {words("AA"), words("aA"), words("aa")}, {words("ab"), words("AB"), words("aB")}, {words("b"), words("B")}, {words("z"), words("Z")}, {words("za")}, {words("[")}, {words("_")}, {words("`")}, {words("{")}, {words("~")}, {words("\x7f")}, {words("\xc3\x84")}, {words("\xc3\xa4")}, {words("\xff")}, {words("\xff\x00")},
		{falseV}, {trueV},
	}
}

func TestB5Order(t *testing.T) {
	all := rows()
	for i, low := range all {
		for j, high := range all {
			want := 0
			if i < j {
				want = -1
			} else if i > j {
				want = 1
			}
			for _, a := range low {
				for _, b := range high {
					if got := Order(a, b); got != want {
						t.Errorf("B5: Order(%v, %v) = %d, want %d", a, b, got, want)
					}
				}
			}
		}
	}
	if Order(words(bound), words(bound[1:])) != 1 || Order(words(bound), words(strings.ToUpper(bound))) != 0 {
		t.Error("B5: long texts")
	}
}

func TestB5Nothing(t *testing.T) {
	for _, c := range []struct {
		v    api.Value
		want int // of nothing beside v
	}{
		{nothingV, 0}, {whole(0), 0}, {millionths(1), -1}, {millionths(-1), 1}, {words(""), 0}, {words("\x00"), -1}, {words("x"), -1}, {falseV, 0}, {trueV, -1}, {api.Value{Kind: 9}, 0},
	} {
		if got := Order(nothingV, c.v); got != c.want {
			t.Errorf("B5: Order(nothing, %v) = %d, want %d", c.v, got, c.want)
		}
		if got := Order(c.v, nothingV); got != -c.want {
			t.Errorf("B5: Order(%v, nothing) = %d, want %d", c.v, got, -c.want)
		}
	}
}

func TestB5OrderOfErrorsIsZero(t *testing.T) {
	for _, e := range []api.Value{failure(1), failure(6), failure(0), millionths(math.MinInt), words(over)} {
		for _, v := range []api.Value{nothingV, whole(1), whole(-1), words("x"), trueV, falseV, failure(2), failure(6)} {
			if Order(e, v) != 0 || Order(v, e) != 0 {
				t.Errorf("B5: Order of %.40v and %v", e, v)
			}
		}
	}
}

// work is a call of Work and what it has to answer.
type work struct {
	a    api.Value
	op   string
	b    api.Value
	want api.Value
}

func checkWork(t *testing.T, cases []work) {
	t.Helper()
	for _, c := range cases {
		if got := Work(c.op, c.a, c.b); got != c.want {
			t.Errorf("B6: %.40v %s %.40v = %.40v, want %.40v", c.a, c.op, c.b, got, c.want)
		}
	}
}

func TestB6Arithmetic(t *testing.T) {
	checkWork(t, []work{
		{whole(1), "+", whole(2), whole(3)}, {whole(1), "-", whole(2), whole(-1)}, {whole(3), "*", whole(-2), whole(-6)}, {whole(1), "/", whole(4), millionths(250_000)}, {whole(2), "/", whole(3), millionths(666_667)},
		{words("1.5"), "+", trueV, millionths(2_500_000)}, {nothingV, "-", words("2"), whole(-2)}, {falseV, "*", whole(5), whole(0)}, {nothingV, "+", nothingV, whole(0)},
		{words("x"), "+", whole(1), failure(3)}, {whole(1), "*", words(""), failure(3)}, {whole(1), "/", words("TRUE"), failure(3)}, {words("x"), "/", whole(0), failure(3)},
		{whole(1), "/", whole(0), failure(1)}, {whole(0), "/", nothingV, failure(1)}, {whole(1), "/", falseV, failure(1)}, {whole(1), "/", words("0.0"), failure(1)},
		{millionths(math.MaxInt), "+", millionths(1), failure(2)}, {millionths(-math.MaxInt), "-", millionths(1), failure(2)}, {millionths(math.MaxInt), "*", whole(2), failure(2)}, {millionths(math.MaxInt), "/", millionths(1), failure(2)}, {millionths(-math.MaxInt), "+", whole(0), millionths(-math.MaxInt)},
	})
}

func TestB6ErrorsComeFirst(t *testing.T) {
	for _, op := range []string{"+", "-", "*", "/", "^", "&", "=", "<>", "<", "<=", ">", ">=", "?", ""} {
		checkWork(t, []work{
			{failure(5), op, failure(1), failure(5)}, {failure(5), op, words("x"), failure(5)}, {words("x"), op, failure(5), failure(5)}, {whole(0), op, failure(6), failure(6)}, {failure(1), op, failure(5), failure(1)}, {failure(77), op, failure(5), failure(3)}, {millionths(math.MinInt), op, failure(5), failure(2)}, {words(over), op, failure(5), failure(3)}, {nothingV, op, api.Value{Kind: 4, Num: 4, Text: "x"}, failure(4)},
		})
	}
}

func TestB6Power(t *testing.T) {
	checkWork(t, []work{
		{whole(2), "^", whole(3), whole(8)}, {whole(-2), "^", whole(3), whole(-8)}, {whole(2), "^", whole(-1), millionths(500_000)}, {whole(2), "^", whole(-3), millionths(125_000)}, {whole(3), "^", whole(-1), millionths(333_333)}, {whole(7), "^", whole(1), whole(7)}, {whole(7), "^", whole(0), whole(1)},
		{whole(0), "^", whole(0), whole(1)}, {nothingV, "^", nothingV, whole(1)}, {whole(0), "^", whole(5), whole(0)}, {whole(0), "^", whole(-1), failure(1)}, {words("3"), "^", words("2"), whole(9)}, {whole(5), "^", trueV, whole(5)},
		{whole(1), "^", whole(64), whole(1)}, {whole(-1), "^", whole(-64), whole(1)}, {whole(-1), "^", whole(63), whole(-1)}, {whole(1), "^", whole(65), failure(2)}, {whole(1), "^", whole(-65), failure(2)}, {whole(1), "^", millionths(64_000_001), failure(2)}, {whole(1), "^", millionths(500_000), failure(2)}, {whole(1), "^", millionths(-1_500_000), failure(2)}, {whole(1), "^", millionths(math.MaxInt), failure(2)}, {whole(1), "^", millionths(-math.MaxInt), failure(2)},
		{whole(2), "^", whole(43), whole(1 << 43)}, {whole(2), "^", whole(44), failure(2)}, {whole(2), "^", whole(-64), failure(2)}, {whole(10), "^", whole(12), whole(1_000_000_000_000)}, {whole(10), "^", whole(13), failure(2)},
		// Each product is rounded: 1.1^8, one by one, is 2.143589 (1.1^7 is 1.948717); the least numbers come to 0, and then there is nothing to divide by.
		{millionths(1_100_000), "^", whole(7), millionths(1_948_717)}, {millionths(1_100_000), "^", whole(8), millionths(2_143_589)}, {millionths(1_500), "^", whole(2), millionths(2)}, {millionths(2_500), "^", whole(2), millionths(6)}, {millionths(2_500), "^", whole(3), whole(0)}, {millionths(1_000), "^", whole(-2), whole(1_000_000)}, {millionths(1_000), "^", whole(-3), failure(1)}, {millionths(1), "^", whole(-1), whole(1_000_000)}, {millionths(300_000), "^", whole(-2), millionths(11_111_111)},
		{words("x"), "^", whole(99), failure(3)}, {whole(2), "^", words("x"), failure(3)}, {words(""), "^", words("y"), failure(3)},
	})
}

func TestB6PowerIsOneByOne(t *testing.T) {
	for _, a := range []api.Value{millionths(1_234_567), millionths(-987_654), millionths(999_999), millionths(1_000_001), millionths(500_001), millionths(-2_000_003)} {
		product := whole(1)
		for b := 0; b <= 64; b++ {
			checkWork(t, []work{{a, "^", whole(b), product}, {a, "^", whole(-b), Work("/", whole(1), product)}})
			product = Work("*", product, a)
		}
	}
}

func TestB6Join(t *testing.T) {
	half := strings.Repeat("y", 500)
	checkWork(t, []work{
		{words("a"), "&", words("b"), words("ab")}, {words("b"), "&", words("a"), words("ba")}, {whole(1), "&", trueV, words("1TRUE")}, {falseV, "&", millionths(-1_500_000), words("FALSE-1.5")}, {nothingV, "&", nothingV, words("")}, {nothingV, "&", words("x"), words("x")}, {words("1"), "&", words("2"), words("12")},
		{words(half), "&", words(half), words(half + half)}, {words(half), "&", words(half + "z"), failure(3)}, {words(bound), "&", nothingV, words(bound)}, {nothingV, "&", words(bound), words(bound)}, {words(bound), "&", whole(1), failure(3)}, {words(over), "&", nothingV, failure(3)},
	})
}

func TestB6Comparisons(t *testing.T) {
	truths := map[bool]api.Value{true: trueV, false: falseV}
	values := []api.Value{nothingV, whole(-1), whole(0), whole(9), words(""), words("0"), words("a"), words("A"), words("b"), falseV, trueV}
	for _, a := range values {
		for _, b := range values {
			order := Order(a, b)
			checkWork(t, []work{{a, "=", b, truths[order == 0]}, {a, "<>", b, truths[order != 0]}, {a, "<", b, truths[order < 0]}, {a, "<=", b, truths[order <= 0]}, {a, ">", b, truths[order > 0]}, {a, ">=", b, truths[order >= 0]}})
		}
	}
	checkWork(t, []work{
		{words("a"), "=", words("A"), trueV}, {words("a"), "<>", words("A"), falseV}, {whole(9), "<", words("0"), trueV}, {words("z"), "<", falseV, trueV}, {whole(9), "<", whole(10), trueV}, {words("9"), "<", words("10"), falseV}, {nothingV, "=", whole(0), trueV}, {nothingV, ">=", trueV, falseV}, {whole(1), "=", trueV, falseV}, {whole(1), "=", words("1"), falseV}, {whole(2), ">", whole(1), trueV}, {whole(1), ">=", whole(1), trueV}, {whole(1), "<=", whole(0), falseV},
	})
}

func TestB6OtherSigns(t *testing.T) {
	for _, op := range []string{"", "?", "%", "neg", "==", "!=", "=<", "=>", "><", "++", " +", "+ ", "AND", "\x00", "\xff", over} {
		checkWork(t, []work{{whole(1), op, whole(1), failure(3)}, {nothingV, op, nothingV, failure(3)}})
	}
}
