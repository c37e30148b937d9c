package eval

import (
	"math"
	"math/rand"
	"reflect"
	"strings"
	"testing"

	"sheet/api"
	"sheet/formula"
)

func TestF3Lazily(t *testing.T) {
	check(t, "F3", sample(), map[string]api.Value{
		"IF(TRUE,1,2)": whole(1), "IF(FALSE,1,2)": whole(2), "IF(A1,1/0,2)": bad(1), "IF(D1,1/0,2)": whole(2), "IF(TRUE,1,1/0)": whole(1), "IF(FALSE,1/0,1)": whole(1), "IF(FALSE,1)": no, "IF(FALSE,1/0)": no, "IF(TRUE,1)": whole(1), "IF(A3,1,2)": bad(3), "IF(C4,1,2)": bad(1), "IF(B1,1)": bad(5), "IF(B3,A3,A4)": words("abc"), `IF("false",A3,A4)`: yes, "IF(0.000001,1,2)": whole(1), "IF(TRUE,D1,2)": nothingV, "IF(FALSE,1,D1)": nothingV, "IF(TRUE,A1:A2,2)": bad(3), "IF(A1:A2,1,2)": bad(3), "IF(TRUE,B1)": bad(5), "IF(1=2,NA(),\"no\")": words("no"), "IF(FALSE,1,IF(TRUE,5,1/0))": whole(5),
		"CHOOSE(1,7,1/0)": whole(7), `CHOOSE(2,1/0,"b")`: words("b"), "CHOOSE(2,1,2,1/0)": whole(2), "CHOOSE(3,1,2)": bad(3), "CHOOSE(0,1,2)": bad(3), "CHOOSE(-1,1,2)": bad(3), "CHOOSE(1.5,1,2)": bad(3), "CHOOSE(0.5,1,2)": bad(3), "CHOOSE(A3,1,2)": bad(3), "CHOOSE(B1,1,2)": bad(5), "CHOOSE(1,D1)": nothingV, "CHOOSE(TRUE,4)": whole(4), `CHOOSE("2",4,5)`: whole(5), "CHOOSE(1,C4,2)": bad(1), "CHOOSE(9223372036854,1,2)": bad(3), "CHOOSE(-9223372036854,1,2)": bad(3), "CHOOSE(2,1)": bad(3), "CHOOSE(9,1/0,NA())": bad(3),
		"IFERROR(1/0,7)": whole(7), "IFERROR(A1,1/0)": whole(1), "IFERROR(B1,C4)": bad(1), "IFERROR(D1,7)": nothingV, "IFERROR(A3,7)": words("abc"), "IFERROR(A4,7)": yes, "IFERROR(A1:A2,7)": whole(7), "IFERROR(NA(),D1)": nothingV, "IFERROR(IFERROR(1/0,NA()),\"x\")": words("x"), "IFERROR(#CYCLE!,1)": whole(1), "IFERROR(LEFT(1,-1),8)": whole(8),
	})
	choices := strings.TrimSuffix(strings.Repeat("1/0,", 28), ",")
	check(t, "F3", nil, map[string]api.Value{"CHOOSE(29," + choices + ",8)": whole(8), "CHOOSE(28," + choices + ",8)": bad(1), "CHOOSE(30," + choices + ",8)": bad(3)})
}

func TestF5Numbers(t *testing.T) {
	check(t, "F5", sample(), map[string]api.Value{
		"NOT(TRUE)": no, "NOT(FALSE)": yes, "NOT(0)": yes, "NOT(-2)": no,
		"ABS(-2)": whole(2), "ABS(2.5)": millionths(2_500_000), "ABS(0)": whole(0), "ABS(C6)": millionths(math.MaxInt), "ABS(B6)": millionths(math.MaxInt),
		"INT(1.5)": whole(1), "INT(-1.5)": whole(-2), "INT(3)": whole(3), "INT(-3)": whole(-3), "INT(0.999999)": whole(0), "INT(-0.000001)": whole(-1), "INT(B6)": whole(9223372036854), "INT(C6)": bad(2),
		"SIGN(-3)": whole(-1), "SIGN(0)": whole(0), "SIGN(0.000001)": whole(1), "SIGN(-0.000001)": whole(-1), "SIGN(B6)": whole(1), "SIGN(C6)": whole(-1),
		"MOD(7,3)": whole(1), "MOD(-7,3)": whole(2), "MOD(7,-3)": whole(-2), "MOD(-7,-3)": whole(-1), "MOD(7.5,2)": millionths(1_500_000), "MOD(6,3)": whole(0), "MOD(1,0)": bad(1), "MOD(0,D1)": bad(1), "MOD(B6,0.000002)": millionths(1),
		"ROUND(2.5,0)": whole(2), "ROUND(3.5,0)": whole(4), "ROUND(1.235,2)": millionths(1_240_000), "ROUND(-2.5,0)": whole(-2), "ROUND(1234,-2)": whole(1200), "ROUND(1.5,9223372036854)": millionths(1_500_000), "ROUND(1.5,-9223372036854)": whole(0), "ROUND(B6,-12)": whole(9_000_000_000_000), "ROUND(B6,-13)": bad(2), "ROUND(B6,0)": bad(2), "ROUND(1,0.5)": bad(3), "ROUND(1,\"1\")": whole(1), "ROUND(1.25,1)": millionths(1_200_000), "ROUND(1.999999,7)": millionths(1_999_999),
		"VALUE(B2)": whole(12), `VALUE("-1.5")`: millionths(-1_500_000), "VALUE(A4)": whole(1), "VALUE(D1)": whole(0), "VALUE(A1)": whole(1), "VALUE(A3)": bad(3), "VALUE(B3)": bad(3), "VALUE(C3)": bad(3), `VALUE(" 1")`: bad(3), "VALUE(B1)": bad(5), "VALUE(A1:A1)": bad(3),
		"NA()": bad(5), "NA()+1": bad(5),
	})
}

func TestF5Texts(t *testing.T) {
	check(t, "F5", sample(), map[string]api.Value{
		"LEN(A3)": whole(3), `LEN("é")`: whole(2), `LEN("")`: whole(0), "LEN(C5)": whole(1000), "LEN(-1.5)": whole(4), `LEN("a""b")`: whole(3),
		`UPPER("aé1zAZ@[` + "`" + `{")`: words("Aé1ZAZ@[`{"), `UPPER("ſ")`: words("ſ"), `UPPER("")`: words(""), "UPPER(C5)": words(strings.ToUpper(long)), `LOWER("AbZaz@[` + "`" + `{É")`: words("abzaz@[`{É"), "UPPER(\"\xff\x00k\")": words("\xff\x00K"), "LOWER(\"\xc1A\")": words("\xc1a"), "LOWER(\"\u0130\u212aK\")": words("\u0130\u212ak"),
		`TRIM("  a  b ")`: words("a b"), `TRIM("a b")`: words("a b"), `TRIM("   ")`: words(""), `TRIM("")`: words(""), `TRIM("a   b    c")`: words("a b c"), "TRIM(\" \ta\t \n\")": words("\ta\t \n"), "TRIM(\" \u00a0 x\")": words("\u00a0 x"), `TRIM(" x")`: words("x"), `TRIM("x ")`: words("x"),
		"LEFT(A3)": words("a"), "LEFT(A3,0)": words(""), "LEFT(A3,2)": words("ab"), "LEFT(A3,3)": words("abc"), "LEFT(A3,9)": words("abc"), "LEFT(A3,-1)": bad(3), "LEFT(C3)": words(""), "LEFT(D1,5)": words(""), "LEFT(12.5,3)": words("12."), "LEFT(A3,9223372036854)": words("abc"), "LEFT(A3,-9223372036854)": bad(3), `LEFT("é")`: words("\xc3"),
		"RIGHT(A3)": words("c"), "RIGHT(A3,0)": words(""), "RIGHT(A3,2)": words("bc"), "RIGHT(A3,3)": words("abc"), "RIGHT(A3,9)": words("abc"), "RIGHT(A3,-1)": bad(3), "RIGHT(C3)": words(""), "RIGHT(A3,9223372036854)": words("abc"), "RIGHT(TRUE,2)": words("UE"), "RIGHT(A3,1.5)": bad(3), "LEFT(C4,-1)": bad(1), "RIGHT(C4,-1)": bad(1),
		"MID(A3,1,1)": words("a"), "MID(A3,2,1)": words("b"), "MID(A3,2,2)": words("bc"), "MID(A3,2,9)": words("bc"), "MID(A3,3,1)": words("c"), "MID(A3,4,1)": words(""), "MID(A3,9,1)": words(""), "MID(A3,1,0)": words(""), "MID(A3,0,1)": bad(3), "MID(A3,-1,1)": bad(3), "MID(A3,1,-1)": bad(3), "MID(A3,9,-1)": bad(3), "MID(A3,1.5,1)": bad(3), "MID(A3,1,1.5)": bad(3), "MID(A3,9223372036854,9223372036854)": words(""), "MID(A3,1,9223372036854)": words("abc"), "MID(A3,2,9223372036854)": words("bc"), "MID(12345,2,3)": words("234"),
		`EXACT("a","A")`: no, `EXACT("a","a")`: yes, "EXACT(1,\"1\")": yes, "EXACT(D1,\"\")": yes, "EXACT(TRUE,\"TRUE\")": yes, "EXACT(1.0,1)": yes, "EXACT(A3,B5)": no, `EXACT("a","a ")`: no, "EXACT(A3,A3)": yes,
		`FIND("c",A3)`: whole(3), `FIND("a",A3)`: whole(1), `FIND("",A3)`: whole(1), `FIND("","")`: whole(1), `FIND("x",A3)`: bad(3), `FIND("A",A3)`: bad(3), `FIND("bc",A3)`: whole(2), `FIND("abcd",A3)`: bad(3), `FIND("b","abab")`: whole(2), "FIND(5,12.5)": whole(4), `FIND("x","")`: bad(3), `FIND("aab","aaab")`: whole(2),
		`REPT("ab",3)`: words("ababab"), `REPT("ab",0)`: words(""), `REPT("ab",1)`: words("ab"), `REPT("",999999)`: words(""), `REPT("",9223372036854)`: words(""), `REPT("",-1)`: bad(3), `REPT("a",1000)`: words(strings.Repeat("a", 1000)), `REPT("a",1001)`: bad(3), `REPT("ab",500)`: words(strings.Repeat("ab", 500)), `REPT("ab",501)`: bad(3), `REPT("abc",334)`: bad(3), `REPT("a",9223372036854)`: bad(3), "REPT(C5,9223372036854)": bad(3), "REPT(C5,1)": words(long), "REPT(C5,2)": bad(3), "REPT(C5,0)": words(""), `REPT("a",-1)`: bad(3), `REPT("a",1.5)`: bad(3), "REPT(1,3)": words("111"), `REPT("a",-9223372036854)`: bad(3), "REPT(\" \",3)": words("   "),
	})
}

func TestF5Kinds(t *testing.T) {
	for kind, names := range []string{"D1 A6 A9 IF(TRUE,D1)", "A1 A5 1 1+1 ABS(TRUE)", "A3 B2 C3 \"\" B3 1&2", "A4 B4 TRUE 1=2 NOT(1)", "B1 C4 1/0 #N/A NA() A1:A2 LEFT(A3,-1) ABS(A3) A1:A1 C5&1"} {
		for _, arg := range strings.Fields(names) {
			for i, name := range []string{"ISBLANK", "ISNUMBER", "ISTEXT", "", "ISERROR"} {
				if name != "" {
					check(t, "F5", sample(), map[string]api.Value{name + "(" + arg + ")": map[bool]api.Value{true: yes, false: no}[i == kind]})
				}
			}
		}
	}
}

func TestF6Areas(t *testing.T) {
	check(t, "F6", sample(), map[string]api.Value{
		"ROWS(A1:C4)": whole(4), "COLUMNS(A1:C4)": whole(3), "ROWS(C4:A1)": whole(4), "COLUMNS(C1:A4)": whole(3), "ROWS(A1)": whole(1), "COLUMNS(A1)": whole(1), "ROWS((A1))": whole(1), "ROWS(B1)": whole(1), "COLUMNS(B1:C4)": whole(2), "ROWS(A1:BL1024)": whole(1024), "COLUMNS(A1:BL1024)": whole(64), "ROWS(D9)": whole(1), "ROWS($A$1:B2)": whole(2),
		"ROWS(1)": bad(3), "ROWS(A1+0)": bad(3), `COLUMNS("A1")`: bad(3), "ROWS(1/0)": bad(3), "COLUMNS(NA())": bad(3), "ROWS(#REF!)": bad(3), "ROWS(-A1)": bad(3), "COLUMNS(IF(TRUE,A1:A2))": bad(3), "ROWS(#N/A)": bad(3),
		"INDEX(A1:B2,2,1)": millionths(2_500_000), "INDEX(A1:B2,1,1)": whole(1), "INDEX(A1:B2,2,2)": words("12"), "INDEX(A1:B2,1,2)": bad(5), "INDEX(B2:A1,1,1)": whole(1), "INDEX(B1:A2,2,1)": millionths(2_500_000), "INDEX(A1,1,1)": whole(1), "INDEX(D1:D9,9,1)": nothingV, "INDEX(B2:C3,1,2)": whole(-4), "INDEX(A1:BL1024,1024,64)": nothingV, "INDEX(A1:C4,3,1)": words("abc"),
		"INDEX(A1:B2,3,1)": bad(4), "INDEX(A1:B2,1,3)": bad(4), "INDEX(A1:B2,0,1)": bad(4), "INDEX(A1:B2,1,0)": bad(4), "INDEX(A1:B2,-1,1)": bad(4), "INDEX(A1:B2,1,-1)": bad(4), "INDEX(A1,2,1)": bad(4), "INDEX(A1:B2,9223372036854,9223372036854)": bad(4), "INDEX(A1:B2,-9223372036854,1)": bad(4), "INDEX(A1:B2,1.5,1)": bad(3), "INDEX(A1:B2,1,1.5)": bad(3), "INDEX(A1:B2,\"2\",TRUE)": millionths(2_500_000), "INDEX(A1:B2,D1,1)": bad(4), "INDEX(A1:B2,B1,C4)": bad(5), "INDEX(A1:B2,C4,B1)": bad(1), "INDEX(A1:B2,A3,1)": bad(3),
		"INDEX(1,1,1)": bad(3), "INDEX(1,1/0,NA())": bad(3), "INDEX(NA(),1,1)": bad(3), `INDEX("x",9,9)`: bad(3), "INDEX(A1:A2&1,1,1)": bad(3),
	})
}

func TestF6Looking(t *testing.T) {
	check(t, "F6", sample(), map[string]api.Value{
		`MATCH("ABC",A1:A4)`: whole(3), `MATCH("abc",A1:A4)`: whole(3), "MATCH(1,A1:A4)": whole(1), "MATCH(2.5,A1:A4)": whole(2), "MATCH(TRUE,A1:A4)": whole(4), "MATCH(0,A1:A9)": whole(5), "MATCH(D1,A1:A9)": whole(6), "MATCH(D1,A1:A5)": bad(5), "MATCH(FALSE,A1:A9)": bad(5), `MATCH("",A1:A9)`: bad(5), `MATCH("",C1:C9)`: whole(3), "MATCH(9,A1:A4)": bad(5), `MATCH("1",A1:A4)`: bad(5), "MATCH(12,B1:B9)": bad(5), `MATCH("12",B1:B9)`: whole(2), "MATCH(3,A1:C1)": whole(3), "MATCH(3,C1:A1)": whole(3), "MATCH(1,A1)": whole(1), "MATCH(2,A1)": bad(5), "MATCH(-4,C9:C1)": whole(2), "MATCH(3,C1:C4)": whole(1), `MATCH("Abc",B1:B9)`: whole(5),
		"MATCH(1,A1:B2)": bad(5), "MATCH(1/0,A1:A2)": bad(1), "MATCH(1/0,A1:B2)": bad(1), "MATCH(B1,B1:B2)": bad(5), "MATCH(C4,C1:C4)": bad(1), "MATCH(A1:A2,A1:A2)": bad(3), "MATCH(#CYCLE!,A1:A2)": bad(6),
		"MATCH(1,1)": bad(3), "MATCH(1/0,1)": bad(3), "MATCH(NA(),NA())": bad(3), `MATCH("x","x")`: bad(3), "MATCH(1,C4+0)": bad(3),
		`COUNTIF(A1:B4,"12")`: whole(1), "COUNTIF(A1:B4,12)": whole(0), `COUNTIF(A1:C6,"ABC")`: whole(2), "COUNTIF(A1:C6,1)": whole(1), "COUNTIF(A1:C6,TRUE)": whole(1), `COUNTIF(A1:C6,"true")`: whole(1), "COUNTIF(A1:C6,D1)": whole(1), "COUNTIF(A1:D9,D1)": whole(19), `COUNTIF(A1:D9,"")`: whole(1), "COUNTIF(A1:D9,0)": whole(1), "COUNTIF(A1:D9,FALSE)": whole(1), "COUNTIF(A1,1)": whole(1), "COUNTIF(A1,2)": whole(0), "COUNTIF(D1,D2)": whole(1), "COUNTIF(C6:A1,3)": whole(1), "COUNTIF(A1:BL1024,D1)": whole(65536 - 17),
		"COUNTIF(A1:B4,1/0)": bad(1), "COUNTIF(A1:C4,C4)": bad(1), "COUNTIF(B1,B1)": bad(5), "COUNTIF(A1:B2,A1:A2)": bad(3), "COUNTIF(B1:C4,#NUM!)": bad(2),
		"COUNTIF(1,1)": bad(3), "COUNTIF(1,1/0)": bad(3), "COUNTIF(NA(),NA())": bad(3), `COUNTIF("x","x")`: bad(3), "COUNTIF(A1+0,1)": bad(3), "COUNTIF(1/0,1)": bad(3),
	})
}

// isPlain tells whether a value is one as it counts.
func isPlain(v api.Value) bool {
	switch v.Kind {
	case 0:
		return v == nothingV
	case 1:
		return v.Num != math.MinInt && v.Text == ""
	case 2:
		return v.Num == 0 && len(v.Text) <= 1000
	case 3:
		return v == yes || v == no
	case 4:
		return v.Num >= 1 && v.Num <= 6 && v.Text == ""
	}
	return false
}

func randomFormula(r *rand.Rand, deep int) string {
	leaves := strings.Split(`1|0|-1|2.5|0.000001|9223372036854|-9223372036854|""|"x"|"12"|"true"|TRUE|FALSE|#N/A|A1|B2|C3|D4|A1:C3|B2:B4|C1:A1|A6:F6|1001`, "|")
	if deep == 0 || r.Intn(6) == 0 {
		return leaves[r.Intn(len(leaves))]
	}
	kid := func() string { return randomFormula(r, deep-1) }
	if r.Intn(3) == 0 {
		return "(" + kid() + ")" + strings.Split("+|-|*|/|^|&|=|<|>|<>|<=|>=", "|")[r.Intn(12)] + "(" + kid() + ")"
	}
	names := strings.Fields("SUM,2 COUNT,2 MIN,2 MAX,2 AVERAGE,2 AND,2 OR,2 CONCAT,3 CHOOSE,3 NA,0 NOT,1 ABS,1 INT,1 SIGN,1 LEN,1 UPPER,1 LOWER,1 TRIM,1 ISBLANK,1 ISNUMBER,1 ISTEXT,1 ISERROR,1 VALUE,1 ROWS,1 COLUMNS,1 MOD,2 ROUND,2 EXACT,2 FIND,2 REPT,2 IFERROR,2 MATCH,2 COUNTIF,2 LEFT,2 LEFT,1 RIGHT,2 RIGHT,1 IF,2 IF,3 MID,3 INDEX,3")
	name, count, _ := strings.Cut(names[r.Intn(len(names))], ",")
	var args []string
	for range int(count[0] - '0') {
		args = append(args, kid())
	}
	return name + "(" + strings.Join(args, ",") + ")"
}

func TestG1RandomFormulasAreWorthPlainValues(t *testing.T) {
	r := rand.New(rand.NewSource(3))
	odd := []api.Value{{Kind: 1, Num: math.MinInt}, {Kind: 2, Text: long + "y"}, {Kind: 2, Text: long}, {Kind: 3, Num: 7}, {Kind: 4, Num: 9}, {Kind: 4, Num: 6}, {Kind: 8, Num: 8}, {Kind: 1, Num: math.MaxInt}, {Kind: 1, Num: -math.MaxInt, Text: "x"}, words("3"), whole(2), nothingV}
	errors := 0
	for range 30_000 {
		cells := make([]api.Cell, r.Intn(20))
		for i := range cells {
			cells[i] = api.Cell{Col: r.Intn(6), Row: r.Intn(6), Value: odd[r.Intn(len(odd))]}
		}
		before := append([]api.Cell(nil), cells...)
		text := randomFormula(r, 1+r.Intn(3))
		v, e, at := Eval(text, cells)
		if len(text) > 1000 {
			continue
		}
		if e != api.OK || at != 0 || !isPlain(v) {
			t.Fatalf("G1, F1: Eval(%q) = %s, %d, %d", text, show(v), e, at)
		}
		if v.Kind == 4 {
			errors++
		}
		if again, _, _ := Eval(text, cells); again != v {
			t.Fatalf("G3: Eval(%q) is once %s and once %s", text, show(v), show(again))
		}
		if len(cells) > 0 && !reflect.DeepEqual(cells, before) {
			t.Fatalf("G4: Eval(%q) has changed the cells", text)
		}
	}
	if errors < 1000 || errors > 29_000 {
		t.Errorf("of 30000 formulas %d are worth an error", errors)
	}
}

func TestF2EachFunctionIsKnown(t *testing.T) {
	known := functions()
	for name := range known {
		if _, e, _ := formula.Parse(name + "()"); e != api.ErrArgs && name != "NA" {
			t.Errorf("%s is no function of chapter 4", name)
		}
	}
	if len(known) != 38 {
		t.Errorf("there are %d functions", len(known))
	}
}
