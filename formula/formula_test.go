package formula

import (
	"math"
	"reflect"
	"strings"
	"testing"

	"sheet/api"
	"sheet/ref"
)

func numNode(n int) api.Node                    { return api.Node{Op: "num", Num: n * 1_000_000} }
func textNode(s string) api.Node                { return api.Node{Op: "text", Text: s} }
func node(op string, kids ...api.Node) api.Node { return api.Node{Op: op, Kids: kids} }

func callNode(name string, kids ...api.Node) api.Node {
	return api.Node{Op: "call", Text: name, Kids: kids}
}

func cellNode(col int, row int) api.Node {
	r := api.Ref{Col: col, Row: row}
	return api.Node{Op: "cell", Area: api.Area{From: r, To: r}}
}

// refused is a text that is no formula, and how it is refused.
type refused struct {
	text string
	e    api.Errno
	at   int
}

func checkRefused(t *testing.T, list []refused) {
	t.Helper()
	for _, c := range list {
		if n, e, at := Parse(c.text); e != c.e || at != c.at || !reflect.DeepEqual(n, api.Node{}) {
			t.Errorf("E1: Parse(%.60q) = %.60v, %d, %d, want %d, %d", c.text, n, e, at, c.e, c.at)
		}
	}
}

func TestE1Form(t *testing.T) {
	var list []refused
	for text, at := range map[string]int{
		"": 0, " ": 1, "   ": 3, "1+": 2, "1+ ": 3, "-": 1, "--": 2, "(": 1, "( ": 2, "(1": 2, "(1 ": 3, "()": 1, "( )": 2, ")": 0, "1)": 1, "(1))": 3, "((1)": 4,
		"+1": 0, "*": 0, "1**2": 2, "1 2": 2, "1+*2": 2, "1-+2": 2, "%": 0, "1%2": 2, "1%%%(": 4, "%1": 0, "-%": 1, "1,2": 1, "(1,2)": 2, ",": 0, ":": 0, "1:2": 1, "1&&2": 2, "1^": 2,
		"1=": 2, "1==2": 2, "1=<2": 2, "1=>2": 2, "1><2": 2, "1< >2": 3, "1< =2": 3, "1> =2": 3, "1<>=2": 3, "1<=>2": 3, "1<=<2": 3, "1<>>2": 3, "<>1": 0, "1<>": 3, "1!=2": 1,
		"1.": 1, "1.+2": 1, "1.2.3": 3, "1..2": 1, ".5": 0, "1 .5": 2, "1. 5": 1, "1e5": 1, "1A": 1, "1A1": 1, "12x(1)": 2,
		`"`: 1, `"x`: 2, `"""`: 3, `"a""`: 4, `"x" "y"`: 4, `"x"1`: 3, `1"x"`: 1, `1"x`: 1, `""""""" `: 8, "'x'": 0, "SUM(\"x)": 7,
		"#": 0, "#x": 0, "1+#x": 2, "#N/": 0, "#N/A!": 4, "#NUM": 0, "#num!": 0, "#n/a": 0, "#REF": 0, "# REF!": 0, "#REF!#REF!": 5, "1#N/A": 1, "#DIV/0": 0, "#NULL!": 0,
		"A0": 0, "A01": 0, "A1025": 0, "BM1": 0, "AAA1": 0, "1+BM1": 2, "A": 0, "SUM": 0, "SUM+1": 0, "A 1": 0, "$": 0, "$$A1": 0, "A1$": 0, "A$$1": 0, "$1": 0, "A1A": 0, "TRUE1": 0, "$TRUE": 0, "TRU": 0, "foo": 0, "a_1": 0, "A1 B1": 3, "A1 SUM(1)": 3, "TRUE FALSE": 5, "A1 1": 3, "1 FOO(1)": 2, "1 A1": 2, "A1.": 2,
		"A1:": 3, "A1: ": 4, "A1:1": 3, "A1:B": 3, "A1:BM1": 3, "A1:TRUE": 3, "A1:SUM(1)": 3, "A1:FOO(1)": 3, "A1:B2(1)": 3, "A1:B2 (1)": 3, "A1:(B2)": 3, "(A1):B2": 4, "A1:-B2": 3, "A1:B2:C3": 5, "TRUE:A1": 4, "A1::B2": 3, "1:A1": 1, "SUM(1):A1": 6, "A1%:B1": 3, "A1:\"x\"": 3, "A1:B2 C3": 6, "#REF!:A1": 5,
		"SUM(": 4, "SUM(1": 5, "SUM(1,": 6, "SUM(1,)": 6, "SUM(,1)": 4, "SUM(1 2)": 6, "SUM(1;2)": 5, "SUM(1))": 6, "SUM(())": 5, "SUM((1,2))": 6, "NA(,)": 3, "NA(": 3, "SUM(1)(2)": 6, "SUM(1)SUM(2)": 6, "(1)(2)": 3, "(1)2": 3,
		"1+\x00": 2, "\x00": 0, "1\x00": 1, "\t1": 0, "1\n": 1, "1\u00a0": 1, "é": 0, "Aé1": 0, "\xff": 0, "=1": 0, "1;": 1, "{1}": 0, "1!": 1, "A1!": 2, "a1[": 2, "@1": 0, "`": 0, "[": 0,
	} {
		list = append(list, refused{text, api.ErrForm, at})
	}
	checkRefused(t, list)
}

func TestE1Long(t *testing.T) {
	long := strings.Repeat("1+", 499) + "11"
	for _, text := range []string{long, strings.Repeat(" ", 999) + "1", "1" + strings.Repeat(" ", 999), `"` + strings.Repeat("x", 998) + `"`, strings.Repeat("-", 999) + "1", "1" + strings.Repeat("%", 999)} {
		if _, e, at := Parse(text); len(text) != 1000 || e != api.OK || at != 0 {
			t.Errorf("E1: Parse of %d bytes, %.20q: %d, %d", len(text), text, e, at)
		}
		checkRefused(t, []refused{{text + " ", api.ErrLong, 0}, {" " + text, api.ErrLong, 0}})
	}
	checkRefused(t, []refused{{strings.Repeat("?", 1001), api.ErrLong, 0}, {strings.Repeat("(", 1001), api.ErrLong, 0}, {strings.Repeat("?", 1000), api.ErrForm, 0}, {strings.Repeat(" ", 1000), api.ErrForm, 1000}, {strings.Repeat("x", 1_000_000), api.ErrLong, 0}})
}

func TestE1Range(t *testing.T) {
	checkRefused(t, []refused{
		{"1.0000001", api.ErrRange, 0}, {"1.0000000", api.ErrRange, 0}, {"9223372036854.775808", api.ErrRange, 0}, {"1+99999999999999", api.ErrRange, 2}, {" 99999999999999 ", api.ErrRange, 1}, {strings.Repeat("9", 1000), api.ErrRange, 0}, {"-9223372036855", api.ErrRange, 1},
		{"1.0000001+", api.ErrRange, 0}, {"1.0000001.", api.ErrRange, 0}, {"99999999999999x", api.ErrRange, 0}, {"99999999999999 ?", api.ErrRange, 0}, {"+99999999999999", api.ErrForm, 0}, {"1 99999999999999", api.ErrForm, 2}, {"A1:99999999999999", api.ErrForm, 3}, {"SUM(1,1.0000001", api.ErrRange, 6}, {"FOO(1.0000001)", api.ErrName, 0}, {"LEN()+1.0000001", api.ErrRange, 6},
	})
	for text, n := range map[string]int{"9223372036854.775807": math.MaxInt, "000000000000000000000000001": 1_000_000, "0": 0, "00.000001": 1, "1.500000": 1_500_000} {
		if got, e, _ := Parse(text); e != api.OK || !reflect.DeepEqual(got, api.Node{Op: "num", Num: n}) {
			t.Errorf("E1, E2: Parse(%q) = %v, %d", text, got, e)
		}
	}
}

func TestE1Name(t *testing.T) {
	checkRefused(t, []refused{
		{"FOO(1)", api.ErrName, 0}, {"foo (1)", api.ErrName, 0}, {"1+foo(1", api.ErrName, 2}, {"FOO(", api.ErrName, 0}, {"FOO()+?", api.ErrName, 0}, {"TRUE()", api.ErrName, 0}, {"false(1)", api.ErrName, 0}, {"A1(1)", api.ErrName, 0}, {"$A$1 (1)", api.ErrName, 0}, {"$SUM(1)", api.ErrName, 0}, {"SUM$(1)", api.ErrName, 0}, {"SUM1(1)", api.ErrName, 0}, {"SU(1)", api.ErrName, 0}, {"SUMM(1)", api.ErrName, 0}, {"$(1)", api.ErrName, 0}, {"A(1)", api.ErrName, 0}, {"IF(FOO(1),BAR(2))", api.ErrName, 3}, {"LEN()+FOO()", api.ErrName, 6}, {"NEG(1)", api.ErrName, 0}, {"NOW()", api.ErrName, 0},
		{"?+FOO(1)", api.ErrForm, 0}, {"FOO(?", api.ErrName, 0},
	})
}

func TestE1Deep(t *testing.T) {
	open, shut := strings.Repeat("(", 20), strings.Repeat(")", 20)
	calls := strings.Repeat("SUM(", 20)
	for _, text := range []string{open + "1" + shut, calls + "1" + shut, strings.Repeat("-(", 20) + "A1" + shut, strings.Repeat("(1)+", 100) + "1", strings.Repeat("SUM(", 19) + strings.Repeat("(1)+", 100) + "1" + shut[1:], "SUM(" + strings.Repeat("(1),", 29) + "(1))", open[1:] + "NA()" + shut[1:]} {
		if _, e, at := Parse(text); e != api.OK {
			t.Errorf("E1: Parse(%.60q): %d, %d", text, e, at)
		}
	}
	checkRefused(t, []refused{
		{open + "(1)" + shut, api.ErrDeep, 20}, {open + "(", api.ErrDeep, 20}, {open + " (?", api.ErrDeep, 21}, {calls + "(1)" + shut, api.ErrDeep, 80}, {calls + "SUM(1)" + shut, api.ErrDeep, 83}, {calls + "NA ()" + shut, api.ErrDeep, 83}, {open + "1" + shut + "+" + open + "(1)" + shut, api.ErrDeep, 62},
		{open + "FOO(1)" + shut, api.ErrName, 20}, {open + "1(", api.ErrForm, 21}, {open + "1.0000001+(", api.ErrRange, 20}, {open + "A1:(", api.ErrForm, 23}, {open, api.ErrForm, 20}, {open + "1", api.ErrForm, 21}, {"LEN(" + open + "1" + shut + ")", api.ErrDeep, 23}, {strings.Repeat("(", 1000), api.ErrDeep, 20},
	})
}

// arities tells for each function how many arguments it takes, as the chapter lists them.
func arities() map[string][]int {
	counts := map[string][]int{}
	for from, names := range map[int]string{1: "SUM COUNT MIN MAX AVERAGE AND OR CONCAT", 2: "CHOOSE"} {
		for _, name := range strings.Fields(names) {
			for n := from; n <= 30; n++ {
				counts[name] = append(counts[name], n)
			}
		}
	}
	for _, name := range strings.Fields("NOT ABS INT SIGN LEN UPPER LOWER TRIM ISBLANK ISNUMBER ISTEXT ISERROR VALUE ROWS COLUMNS") {
		counts[name] = []int{1}
	}
	for _, name := range strings.Fields("MOD ROUND EXACT FIND REPT IFERROR MATCH COUNTIF") {
		counts[name] = []int{2}
	}
	counts["LEFT"], counts["RIGHT"] = []int{1, 2}, []int{1, 2}
	counts["IF"] = []int{2, 3}
	counts["MID"], counts["INDEX"] = []int{3}, []int{3}
	counts["NA"] = []int{0}
	return counts
}

func TestE1ArgumentsOfEachFunction(t *testing.T) {
	for name, counts := range arities() {
		for n := range 34 {
			kids := make([]api.Node, n)
			for i := range kids {
				kids[i] = numNode(1)
			}
			text := strings.ToLower(name) + "( " + strings.TrimSuffix(strings.Repeat("1,", n), ",") + ")"
			want, wantE := api.Node{}, api.ErrArgs
			for _, count := range counts {
				if n == count {
					want, wantE = api.Node{Op: "call", Text: name}, api.OK
					want.Kids = append(want.Kids, kids...)
				}
			}
			if got, e, at := Parse(text); e != wantE || at != 0 || !reflect.DeepEqual(got, want) {
				t.Errorf("E1: Parse(%q) = %v, %d, %d", text, got, e, at)
			}
		}
	}
}

func TestE1ArgumentsComeLast(t *testing.T) {
	checkRefused(t, []refused{
		{"LEN()", api.ErrArgs, 0}, {" LEN ( )", api.ErrArgs, 1}, {"1+IF(1)", api.ErrArgs, 2}, {"NA(1)", api.ErrArgs, 0}, {"IF(LEN(1,2),NA(1))", api.ErrArgs, 3}, {"LEN(NA(1),2)", api.ErrArgs, 0}, {"LEN(NA(1))", api.ErrArgs, 4}, {"SUM(LEN(1),NA(2),LEN())", api.ErrArgs, 11}, {"NA()+LEN()+NA(1)", api.ErrArgs, 5}, {"NOT(NOT(NOT()))", api.ErrArgs, 8},
		{"LEN(1,2)+", api.ErrForm, 9}, {"LEN()+1.0000001", api.ErrRange, 6}, {"LEN()+FOO()", api.ErrName, 6}, {"LEN()+" + strings.Repeat("(", 21), api.ErrDeep, 26}, {"LEN(1,2", api.ErrForm, 7},
		{"SUM(" + strings.Repeat("1,", 30) + "1)", api.ErrArgs, 0}, {"SUM(" + strings.Repeat("1,", 400) + "1)", api.ErrArgs, 0}, {"SUM(" + strings.Repeat("1,", 400), api.ErrForm, 804},
	})
}

func TestE2Trees(t *testing.T) {
	one, two, three := numNode(1), numNode(2), numNode(3)
	b2 := api.Ref{Col: 1, Row: 1}
	for text, want := range map[string]api.Node{
		"1": one, " 1 ": one, "1.5": {Op: "num", Num: 1_500_000}, `"x"`: textNode("x"), `""`: textNode(""), `""""`: textNode(`"`), `"a""b"`: textNode(`a"b`), `"a"""`: textNode(`a"`), `"""""a"`: textNode(`""a`), "\" (1 \xff\x00\"": textNode(" (1 \xff\x00"),
		"TRUE": {Op: "truth", Num: 1}, "false": {Op: "truth"}, "tRuE": {Op: "truth", Num: 1}, "FALSE ": {Op: "truth"},
		"#DIV/0!": {Op: "fault", Num: 1}, "#NUM!": {Op: "fault", Num: 2}, "#VALUE!": {Op: "fault", Num: 3}, "#REF!": {Op: "fault", Num: 4}, "#N/A": {Op: "fault", Num: 5}, "#CYCLE!": {Op: "fault", Num: 6},
		"A1": cellNode(0, 0), "bl1024": cellNode(63, 1023), "$b$2": {Op: "cell", Area: api.Area{From: api.Ref{Col: 1, Row: 1, FixCol: true, FixRow: true}, To: api.Ref{Col: 1, Row: 1, FixCol: true, FixRow: true}}},
		"A1:B2": {Op: "area", Area: api.Area{To: b2}}, "b2 : a1": {Op: "area", Area: api.Area{From: b2}}, "A1:A1": {Op: "area"}, "$A1:B$2": {Op: "area", Area: api.Area{From: api.Ref{FixCol: true}, To: api.Ref{Col: 1, Row: 1, FixRow: true}}},
		"na()": callNode("NA"), "Sum (1, 2,A1)": callNode("SUM", one, two, cellNode(0, 0)), "SUM((1))": callNode("SUM", one), "LEN(LEN(1))": callNode("LEN", callNode("LEN", one)), "IF(1=2,3,-1)": callNode("IF", node("=", one, two), three, node("neg", one)),
		"-1": node("neg", one), "--1": node("neg", node("neg", one)), "1%": node("%", one), "1%%": node("%", node("%", one)), "-1%": node("neg", node("%", one)), "(-1)%": node("%", node("neg", one)), "-(1)%": node("neg", node("%", one)), "1 % %": node("%", node("%", one)), "A1%": node("%", cellNode(0, 0)), "NA()%": node("%", callNode("NA")),
		"1+2": node("+", one, two), "1-2": node("-", one, two), "1*2": node("*", one, two), "1/2": node("/", one, two), "1^2": node("^", one, two), "1&2": node("&", one, two), "1=2": node("=", one, two), "1<>2": node("<>", one, two), "1<2": node("<", one, two), "1<=2": node("<=", one, two), "1>2": node(">", one, two), "1>=2": node(">=", one, two),
		"1<-2": node("<", one, node("neg", two)), "1>=-2": node(">=", one, node("neg", two)), "1--2": node("-", one, node("neg", two)), "2^-1": node("^", two, node("neg", one)), "-2^2": node("^", node("neg", two), two), "-(2^2)": node("neg", node("^", two, two)), "1%^2": node("^", node("%", one), two), "1^2%": node("^", one, node("%", two)), "- 1 + 2": node("+", node("neg", one), two),
		"1-2-3": node("-", node("-", one, two), three), "1-(2-3)": node("-", one, node("-", two, three)), "1^2^3": node("^", node("^", one, two), three), "1=2=3": node("=", node("=", one, two), three), "1&2&3": node("&", node("&", one, two), three), "1/2*3": node("*", node("/", one, two), three), "((1))": one, "( ( 1 ) )": one,
	} {
		if got, e, at := Parse(text); e != api.OK || at != 0 || !reflect.DeepEqual(got, want) {
			t.Errorf("E2: Parse(%q) = %v, %d, %d, want %v", text, got, e, at, want)
		}
	}
}

func TestE3PlainForm(t *testing.T) {
	for text, want := range map[string]string{
		" 1 + 2 ": "1+2", "007.50": "7.5", "0.0": "0", "9223372036854.775807": "9223372036854.775807", "true": "TRUE", "False": "FALSE", "#N/A": "#N/A", "$a$1": "$A$1", "a$1 : $bl1024": "A$1:$BL1024", "b2:a1": "B2:A1", "a1:a1": "A1:A1", "sum ( 1 , a1 )": "SUM(1,A1)", "na( )": "NA()", "if((1),((2)),(3+4))": "IF(1,2,3+4)",
		`"a b  c"`: `"a b  c"`, `" ""x"" "`: `" ""x"" "`, `""`: `""`, `""""`: `""""`, `"true"&"a1"`: `"true"&"a1"`, "\"\xff(\"": "\"\xff(\"",
		"(1)": "1", "((1))": "1", "(1+2)": "1+2", "(1+2)*3": "(1+2)*3", "1+(2*3)": "1+2*3", "(1*2)+3": "1*2+3", "1*(2+3)": "1*(2+3)", "1-(2-3)": "1-(2-3)", "(1-2)-3": "1-2-3", "1+(2+3)": "1+(2+3)", "1*(2*3)": "1*(2*3)", "1/(2*3)": "1/(2*3)", "(1/2)*3": "1/2*3", "2^(3^2)": "2^(3^2)", "(2^3)^2": "2^3^2", "(1=2)=3": "1=2=3", "1=(2<3)": "1=(2<3)", "(1&2)=3": "1&2=3", "1&(2=3)": "1&(2=3)", "1&(2&3)": "1&(2&3)", "1&(2+3)": "1&2+3", "(1&2)+3": "(1&2)+3", "(1^2)*3": "1^2*3", "1^(2*3)": "1^(2*3)", "(1=2)&3": "(1=2)&3",
		"-(1)": "-1", "-(-1)": "--1", "-(1+2)": "-(1+2)", "(-1)+2": "-1+2", "1+(-2)": "1+-2", "1-(-2)": "1--2", "2^(-1)": "2^-1", "(-2)^2": "-2^2", "-(2^2)": "-(2^2)", "-(1%)": "-1%", "(-1)%": "(-1)%", "(1%)%": "1%%", "(1+2)%": "(1+2)%", "(2^2)%": "(2^2)%", "2^(2%)": "2^2%", "(2%)^2": "2%^2", "-(A1)": "-A1", "(A1:B2)%": "A1:B2%", "(NA())%": "NA()%", "-(NA())": "-NA()", "(TRUE)%": "TRUE%", `("x")%`: `"x"%`, "(#REF!)%": "#REF!%",
	} {
		if got, e, at := Print(text); got != want || e != api.OK || at != 0 {
			t.Errorf("E3: Print(%q) = %q, %d, %d, want %q", text, got, e, at, want)
		}
	}
}

func TestE4Areas(t *testing.T) {
	a1, b2, fixed := api.Ref{}, api.Ref{Col: 1, Row: 1}, api.Ref{Col: 3, Row: 3, FixCol: true, FixRow: true}
	for text, want := range map[string][]api.Area{
		"1": nil, "NA()": nil, `"A1"`: nil, "A1": {{From: a1, To: a1}}, "A1:B2": {{From: a1, To: b2}}, "b2:a1": {{From: b2, To: a1}}, "A1+A1": {{From: a1, To: a1}, {From: a1, To: a1}}, "B2-(A1:B2=$D$4)": {{From: b2, To: b2}, {From: a1, To: b2}, {From: fixed, To: fixed}},
		"IF($D$4,SUM(1,A1:B2,B2),-A1%)": {{From: fixed, To: fixed}, {From: a1, To: b2}, {From: b2, To: b2}, {From: a1, To: a1}},
	} {
		got, e, at := Areas(text)
		if e != api.OK || at != 0 || len(got) != len(want) {
			t.Errorf("E4: Areas(%q) = %v, %d, %d", text, got, e, at)
			continue
		}
		for i := range want {
			if got[i] != want[i] {
				t.Errorf("E4: Areas(%q)[%d] = %v, want %v", text, i, got[i], want[i])
			}
		}
	}
}

func TestE5Copied(t *testing.T) {
	for _, c := range []struct {
		text       string
		cols, rows int
		want       string
	}{
		{"A1+$A1+A$1+$A$1", 1, 2, "B3+$A3+B$1+$A$1"}, {" sum( a1:b$2 , 1 ) ", 2, 3, "SUM(C4:D$2,1)"}, {"A1", 0, 0, "A1"}, {"1+(2)", 5, 5, "1+2"}, {"A1", -1, 0, "#REF!"}, {"A1", 0, -1, "#REF!"}, {"BL1024", 1, 0, "#REF!"}, {"BL1024", 0, 1, "#REF!"}, {"$A$1", -9, -9, "$A$1"}, {"B2:A1", -1, 0, "#REF!"}, {"A1:B2", -1, 0, "#REF!"}, {"A1:$BL2", 1, 0, "B1:$BL2"}, {"A1:BL2", 1, 0, "#REF!"}, {"-A1%+A2", 0, -1, "-#REF!%+A1"}, {"(A1+1)*2", 0, -1, "(#REF!+1)*2"}, {"A1", 63, 1023, "BL1024"}, {"A1", math.MaxInt, 0, "#REF!"}, {"BL1024", math.MaxInt, math.MaxInt, "#REF!"}, {"A1", math.MinInt, math.MinInt, "#REF!"}, {"$A$1", math.MinInt, math.MaxInt, "$A$1"}, {`"A1"&A1`, 1, 1, `"A1"&B2`},
	} {
		if got, e, at := Copied(c.text, c.cols, c.rows); got != c.want || e != api.OK || at != 0 {
			t.Errorf("E5: Copied(%q, %d, %d) = %q, %d, %d, want %q", c.text, c.cols, c.rows, got, e, at, c.want)
		}
	}
}

func TestE5CopiedMayBecomeLong(t *testing.T) {
	text := strings.Repeat("A1+", 332) + "A1"
	if got, e, _ := Copied(text, 26, 999); e != api.OK || got != strings.Repeat("AA1000+", 332)+"AA1000" {
		t.Errorf("E5: Copied of %d bytes: %.40q, %d", len(text), got, e)
	}
}

func TestE5Moved(t *testing.T) {
	for _, c := range []struct {
		text  string
		rows  bool
		at, n int
		want  string
	}{
		{"A1+A3+SUM(A1:A4)", true, 1, 2, "A1+A5+SUM(A1:A6)"}, {"A1+C1+SUM(A1:D1)", false, 1, 2, "A1+E1+SUM(A1:F1)"}, {" ( a1 ) ", true, 0, 0, "A1"}, {"$A$2+SUM(A2:A3)+SUM(A2:A2)", true, 1, -1, "#REF!+SUM(A2:A2)+SUM(#REF!)"}, {"$A$2", true, 0, 1, "$A$3"}, {"A1:A4", true, 1, -2, "A1:A2"}, {"A4:A1", true, 1, -2, "A2:A1"}, {"A1024", true, 0, 1, "#REF!"}, {"A1:A1024", true, 5, 9, "A1:A1024"}, {"A1024:A1024", true, 0, 1, "#REF!"}, {"BL1", false, 63, 1, "#REF!"}, {"BL1", true, 63, 1, "BL1"}, {"-B2^2", false, 1, -1, "-#REF!^2"}, {"1+2", true, 0, 5, "1+2"},
		{"A1+1", true, -1, 0, "#REF!+1"}, {"A1+1", true, 1024, 1, "#REF!+1"}, {"A1+1", false, 64, 1, "#REF!+1"}, {"A1+1", true, 64, 1, "A1+1"}, {"A1+1", true, 5, 1025, "#REF!+1"}, {"A1+1", true, 5, -1025, "#REF!+1"}, {"A1+1", true, 5, 1024, "A1+1"}, {"A1+1", true, math.MinInt, math.MaxInt, "#REF!+1"}, {`"A1"`, true, -1, 0, `"A1"`},
	} {
		if got, e, at := Moved(c.text, c.rows, c.at, c.n); got != c.want || e != api.OK || at != 0 {
			t.Errorf("E5: Moved(%q, %v, %d, %d) = %q, %d, %d, want %q", c.text, c.rows, c.at, c.n, got, e, at, c.want)
		}
	}
}

func TestE3ToE5HandOnTheErrorsOfParse(t *testing.T) {
	for _, text := range []string{"", "1+", " ?", "FOO(A1)", "A1+LEN()", "A1+1.0000001", strings.Repeat("(", 30), strings.Repeat(" ", 1001), "A1:B2:C3", "\xff"} {
		_, e, at := Parse(text)
		if e == api.OK {
			t.Fatalf("%q is a formula", text)
		}
		if s, e1, at1 := Print(text); s != "" || e1 != e || at1 != at {
			t.Errorf("E3: Print(%.40q) = %q, %d, %d, want %d, %d", text, s, e1, at1, e, at)
		}
		if l, e1, at1 := Areas(text); l != nil || e1 != e || at1 != at {
			t.Errorf("E4: Areas(%.40q) = %v, %d, %d, want %d, %d", text, l, e1, at1, e, at)
		}
		if s, e1, at1 := Copied(text, -1, 2); s != "" || e1 != e || at1 != at {
			t.Errorf("E5: Copied(%.40q) = %q, %d, %d, want %d, %d", text, s, e1, at1, e, at)
		}
		if s, e1, at1 := Moved(text, true, -1, 0); s != "" || e1 != e || at1 != at {
			t.Errorf("E5: Moved(%.40q) = %q, %d, %d, want %d, %d", text, s, e1, at1, e, at)
		}
	}
}

// spoil changes all that can be changed of a tree.
func spoil(n *api.Node) {
	kids := n.Kids[:cap(n.Kids)]
	for i := range kids {
		spoil(&kids[i])
		kids[i] = api.Node{Op: "spoiled"}
	}
}

func TestG4AnswersShareNothing(t *testing.T) {
	const text = "SUM(A1,B2:C3,-1,(1+2)*3,IF(TRUE,1%,NA()))+A1"
	first, _, _ := Parse(text)
	second, _, _ := Parse(text)
	areas, _, _ := Areas(text)
	spoil(&first)
	for i := range areas {
		areas[i] = api.Area{To: api.Ref{Col: 9}}
	}
	third, _, _ := Parse(text)
	if !reflect.DeepEqual(second, third) {
		t.Error("G4: two trees share a list")
	}
	if again, _, _ := Areas(text); len(again) != 3 || again[1] != (api.Area{From: api.Ref{Col: 1, Row: 1}, To: api.Ref{Col: 2, Row: 2}}) {
		t.Errorf("G4: two lists of areas share one: %v", again)
	}
	// One list of a tree is spoiled, and the others are to be as they were.
	sum := second.Kids[0].Kids
	for i := range sum[3].Kids {
		sum[3].Kids[i] = api.Node{}
	}
	_ = append(sum[4].Kids, api.Node{Op: "spoiled"})
	for _, i := range []int{0, 1, 2, 4} {
		if !reflect.DeepEqual(sum[i], third.Kids[0].Kids[i]) {
			t.Errorf("G4: argument %d shares a list with another", i)
		}
	}
}

func TestE2CellsAreThoseOfChapter3(t *testing.T) {
	for col := range 64 {
		for _, row := range []int{0, 8, 9, 98, 99, 998, 999, 1023} {
			r := api.Ref{Col: col, Row: row, FixCol: row%2 == 0, FixRow: col%3 == 0}
			text := ref.Print(r)
			if got, e, _ := Parse(strings.ToLower(text)); e != api.OK || got.Op != "cell" || got.Area.From != r || got.Area.To != r {
				t.Errorf("E2: Parse(%q) = %v, %d", text, got, e)
			}
		}
	}
}
