package eval

import (
	"fmt"
	"math"
	"strings"
	"testing"

	"sheet/api"
	"sheet/formula"
)

var (
	nothingV = api.Value{}
	yes      = api.Value{Kind: 3, Num: 1}
	no       = api.Value{Kind: 3}
	long     = strings.Repeat("x", 1000) // the longest text
)

func millionths(n int) api.Value { return api.Value{Kind: 1, Num: n} }
func whole(n int) api.Value      { return api.Value{Kind: 1, Num: n * 1_000_000} }
func words(s string) api.Value   { return api.Value{Kind: 2, Text: s} }
func bad(n int) api.Value        { return api.Value{Kind: 4, Num: n} }

func show(v api.Value) string { return fmt.Sprintf("{%d %d %.40q}", v.Kind, v.Num, v.Text) }

// at is a cell's value; the columns are those of one letter.
func at(name string, v api.Value) api.Cell {
	row := 0
	for _, c := range name[1:] {
		row = row*10 + int(c-'0')
	}
	return api.Cell{Col: int(name[0] - 'A'), Row: row - 1, Value: v}
}

// sample are cells of each kind. What is not among them is empty: all of D, and the rows from 9 on.
func sample() []api.Cell {
	return []api.Cell{
		at("A1", whole(1)), at("B1", bad(5)), at("C1", whole(3)),
		at("A2", millionths(2_500_000)), at("B2", words("12")), at("C2", whole(-4)),
		at("A3", words("abc")), at("B3", words("TRUE")), at("C3", words("")),
		at("A4", yes), at("B4", no), at("C4", bad(1)),
		at("A5", whole(0)), at("B5", words("Abc")), at("C5", words(long)),
		at("A6", nothingV), at("B6", millionths(math.MaxInt)), at("C6", millionths(-math.MaxInt)),
		at("A1", words("not this one")), at("A6", whole(9)), at("B1", whole(9)),
	}
}

func check(t *testing.T, promise string, cells []api.Cell, wants map[string]api.Value) {
	t.Helper()
	for text, want := range wants {
		if v, e, place := Eval(text, cells); v != want || e != api.OK || place != 0 {
			t.Errorf("%s: Eval(%.80q) = %s, %d, %d, want %s", promise, text, show(v), e, place, show(want))
		}
	}
}

func TestF1ErrorsOfParse(t *testing.T) {
	for _, text := range []string{"", "1+", " ?", "FOO(1)", "1+LEN()", "1+1.0000001", strings.Repeat("(", 21), strings.Repeat(" ", 1001), "A1:B2:C3", "\xff", "IFERROR(1/0,FOO())"} {
		_, wantE, wantAt := formula.Parse(text)
		if v, e, at := Eval(text, sample()); v != nothingV || e != wantE || at != wantAt || e == api.OK {
			t.Errorf("F1: Eval(%.40q) = %v, %d, %d, want %d, %d", text, v, e, at, wantE, wantAt)
		}
	}
	if _, e, at := Eval("1+", nil); e != api.ErrForm || at != 2 {
		t.Errorf("F1: %d, %d", e, at)
	}
}

func TestF1Nodes(t *testing.T) {
	check(t, "F1", sample(), map[string]api.Value{
		"1": whole(1), "0": whole(0), "1.5": millionths(1_500_000), `"x"`: words("x"), `""`: words(""), `"1"`: words("1"), "TRUE": yes, "false": no, "#DIV/0!": bad(1), "#NUM!": bad(2), "#VALUE!": bad(3), "#REF!": bad(4), "#N/A": bad(5), "#CYCLE!": bad(6),
		"A1": whole(1), "$A$2": millionths(2_500_000), "A3": words("abc"), "A4": yes, "B4": no, "B1": bad(5), "A6": nothingV, "D1": nothingV, "A9": nothingV, "BL1024": nothingV, "C5": words(long), "(A1)": whole(1),
		"A1:A2": bad(3), "A1:A1": bad(3), "A1:A2+1": bad(3), "1+A1:A2": bad(3), "B1:B1": bad(3), "-A1:A2": bad(3), "A1:A2%": bad(3), "B1+A1:A2": bad(5), "A1:A2+B1": bad(3),
		"-A1": whole(-1), "--A1": whole(1), "-D1": whole(0), "-A4": whole(-1), "-B2": whole(-12), "-A3": bad(3), "-B1": bad(5), "-B6": millionths(-math.MaxInt), "-(0)": whole(0), "-C3": bad(3),
		"50%": millionths(500_000), "A2%": millionths(25_000), "D1%": whole(0), "A4%": millionths(10_000), "B2%": millionths(120_000), "A3%": bad(3), "C4%": bad(1), "1%%": millionths(100), "0.00005%": whole(0), "0.00015%": millionths(2), "-50%": millionths(-500_000),
		"A1+A2": millionths(3_500_000), "A1-A2": millionths(-1_500_000), "A2*C1": millionths(7_500_000), "C1/A2": millionths(1_200_000), "C1^2": whole(9), "A3&A1": words("abc1"), "A1=1": yes, "A3=B5": yes, "A3<>B5": no, "A1<A2": yes, "A1<=1": yes, "A1>A2": no, "A1>=A2": no, "D1=0": yes, `D1=""`: yes, "D1=FALSE": yes, "D1&D1": words(""),
		"1/0": bad(1), "B6+B6": bad(2), "A3*1": bad(3), "B1+C4": bad(5), "C4+B1": bad(1), "A3+B1": bad(5), "B1+A3": bad(5), "C4=C4": bad(1), "C5&1": bad(3), "C5&D1": words(long),
		"1-2-3": whole(-4), "1-(2-3)": whole(2), "2^3^2": whole(64), "-2^2": whole(4), "-(2^2)": whole(-4), "2+3*4": whole(14), "(2+3)*4": whole(20), "1/3*3": millionths(999_999), "1=1=TRUE": yes, "1&2=12": no, `1&2="12"`: yes, "2*50%": whole(1),
	})
}

func TestF1LongFormulas(t *testing.T) {
	check(t, "F1", nil, map[string]api.Value{
		strings.Repeat("1+", 499) + "1": whole(500), strings.Repeat("-", 999) + "1": whole(-1), strings.Repeat("-", 998) + "1": whole(1), "1" + strings.Repeat("%", 999): whole(0), strings.Repeat("SUM(", 20) + "1" + strings.Repeat(")", 20): whole(1), strings.Repeat("IFERROR(1/0,", 20) + "7" + strings.Repeat(")", 20): whole(7),
	})
}

func TestF1CellsValuesCount(t *testing.T) {
	for _, c := range []struct{ v, want api.Value }{
		{api.Value{Kind: 0, Num: 5, Text: "x"}, nothingV}, {api.Value{Kind: 7, Num: 5, Text: "x"}, nothingV}, {api.Value{Kind: -1, Num: 5}, nothingV}, {api.Value{Kind: math.MinInt, Num: 5}, nothingV}, {api.Value{Kind: 1, Num: 5, Text: "x"}, millionths(5)}, {api.Value{Kind: 1, Num: math.MinInt, Text: "x"}, bad(2)}, {api.Value{Kind: 2, Num: 5, Text: "x"}, words("x")}, {api.Value{Kind: 2, Num: 5}, words("")}, {api.Value{Kind: 2, Text: long}, words(long)}, {api.Value{Kind: 2, Num: 5, Text: long + "x"}, bad(3)}, {api.Value{Kind: 3, Num: 5, Text: "x"}, yes}, {api.Value{Kind: 3, Num: math.MinInt}, yes}, {api.Value{Kind: 3, Text: "x"}, no}, {api.Value{Kind: 4, Num: 6, Text: "x"}, bad(6)}, {api.Value{Kind: 4}, bad(3)}, {api.Value{Kind: 4, Num: 7}, bad(3)}, {api.Value{Kind: 4, Num: -1}, bad(3)},
	} {
		cells := []api.Cell{{Col: 1, Row: 1, Value: c.v}}
		check(t, "F1, B1", cells, map[string]api.Value{"B2": c.want, "INDEX(A1:C3,2,2)": c.want, "IF(TRUE,B2)": c.want, "ISBLANK(B2)": map[bool]api.Value{true: yes, false: no}[c.want == nothingV]})
		if c.want.Kind == 4 {
			check(t, "F1, B1", cells, map[string]api.Value{"SUM(A1:C3)": c.want, "AND(TRUE,B2)": c.want, "CONCAT(B2)": c.want, "COUNTIF(A1:C3,A1)": whole(8)})
		}
	}
}

func TestF1TheFirstCellCounts(t *testing.T) {
	cells := []api.Cell{
		{Col: 64, Row: 0, Value: whole(1)}, {Col: -64, Row: 1, Value: whole(2)}, {Col: 0, Row: 1024, Value: whole(3)}, {Col: 0, Row: -1, Value: whole(4)}, {Col: math.MaxInt, Row: math.MinInt, Value: whole(5)}, {Col: 64, Row: 1, Value: whole(6)}, {Col: -1, Row: 1, Value: whole(7)},
		{Col: 1, Row: 1, Value: nothingV}, {Col: 1, Row: 1, Value: whole(8)}, {Col: 2, Row: 2, Value: api.Value{Kind: 9}}, {Col: 2, Row: 2, Value: whole(9)}, {Col: 0, Row: 2, Value: whole(10)}, {Col: 0, Row: 2, Value: bad(1)}, {Col: 63, Row: 1023, Value: words("end")},
	}
	check(t, "F1", cells, map[string]api.Value{"A1": nothingV, "A2": nothingV, "B1": nothingV, "B2": nothingV, "C3": nothingV, "A3": whole(10), "BL1024": words("end"), "SUM(A1:BL1024)": whole(10), "COUNT(A1:BL1024)": whole(1), "CONCAT(A1:BL1024)": words("10end")})
}

// strict are calls, with arguments that are in order, of functions that ask all of these; an area is never among those.
func strict() map[string][]string {
	calls := map[string][]string{}
	for _, name := range strings.Fields("SUM COUNT MIN MAX AVERAGE AND OR CONCAT") {
		calls[name] = []string{"1", "0", "1"}
	}
	for _, name := range strings.Fields("NOT ABS INT SIGN LEN UPPER LOWER TRIM VALUE") {
		calls[name] = []string{"1"}
	}
	for _, name := range strings.Fields("MOD ROUND EXACT FIND REPT LEFT RIGHT") {
		calls[name] = []string{"1", "1"}
	}
	calls["MID"] = []string{"1", "1", "1"}
	return calls
}

func TestF2TheFirstErrorEndsTheCall(t *testing.T) {
	for name, args := range strict() {
		for i := range args {
			for j := i; j < len(args); j++ {
				list := append([]string(nil), args...)
				list[j] = "#CYCLE!"
				list[i] = "#NUM!"
				text := name + "(" + strings.Join(list, ",") + ")"
				check(t, "F2", nil, map[string]api.Value{text: bad(2), "ISERROR(" + text + ")": yes, "IFERROR(" + text + ",7)": whole(7), "1+" + text: bad(2)})
			}
		}
		text := name + "(" + strings.Join(args, ",") + ")"
		check(t, "F2", nil, map[string]api.Value{"ISERROR(" + text + ")": no})
	}
}

func TestF2AskingArguments(t *testing.T) {
	check(t, "F2", sample(), map[string]api.Value{
		// Numbers of texts, of truths and of nothing.
		"ABS(B2)": whole(12), "ABS(A4)": whole(1), "ABS(D1)": whole(0), "ABS(A3)": bad(3), "ABS(C3)": bad(3), "ABS(A1:A2)": bad(3), "ABS(B1)": bad(5),
		// Texts of numbers, of truths and of nothing.
		"LEN(A2)": whole(3), "LEN(A4)": whole(4), "LEN(D1)": whole(0), "LEN(A1:A2)": bad(3), "UPPER(A2)": words("2.5"), "LOWER(A4)": words("true"), "TRIM(D1)": words(""),
		// Truths of numbers, of texts and of nothing.
		"NOT(A1)": no, "NOT(A5)": yes, "NOT(B3)": no, `NOT("false")`: yes, "NOT(D1)": yes, "NOT(A3)": bad(3), "NOT(C3)": bad(3), `NOT("1")`: bad(3), "NOT(A1:A2)": bad(3),
		// Whole ones.
		`LEFT("abc",2.0)`: words("ab"), `LEFT("abc","2")`: words("ab"), `LEFT("abc",TRUE)`: words("a"), `LEFT("abc",D1)`: words(""), `LEFT("abc",1.5)`: bad(3), `LEFT("abc",0.000001)`: bad(3), `LEFT("abc",-0.5)`: bad(3), `LEFT("abc","x")`: bad(3), `LEFT("abc",A1:A2)`: bad(3), `LEFT(B1,1.5)`: bad(5), `LEFT("abc",C4)`: bad(1),
		`MID("abc",1.5,C4)`: bad(3), `MID("abc",C4,1.5)`: bad(1), `MID("abc",0,C4)`: bad(1), `ROUND("x",C4)`: bad(3), `ROUND(C4,1.5)`: bad(1), `MOD(C4,0)`: bad(1), `MOD(B1,0)`: bad(5), `MOD("x",B1)`: bad(3), `MOD(0,B1)`: bad(5), "INDEX(A1:B2,9,C4)": bad(1), "INDEX(A1:B2,1.5,C4)": bad(3),
	})
}
