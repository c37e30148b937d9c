package calc

import (
	"math"
	"slices"
	"strings"
	"testing"

	"sheet/api"
	"sheet/ref"
	"sheet/value"
)

var (
	nothing = api.Value{}
	cycle   = api.Value{Kind: 4, Num: api.Cycle}
)

func number(n int) api.Value { return api.Value{Kind: 1, Num: n * 1000000} }

func text(s string) api.Value { return api.Value{Kind: 2, Text: s} }

func fault(n int) api.Value { return api.Value{Kind: 4, Num: n} }

// at is the number of the cell of that name.
func at(name string) int {
	r, ok := ref.Parse(name)
	if !ok {
		panic(name)
	}
	return r.Row*64 + r.Col
}

// sets puts contents into cells, told as `A1 content`.
func sets(t *testing.T, e *Engine, lines ...string) {
	t.Helper()
	for _, line := range lines {
		name, content, _ := strings.Cut(line, " ")
		if fault, place := e.Set(at(name), content); fault != api.OK || place != 0 {
			t.Fatalf("Set of %q: %d, %d", line, fault, place)
		}
	}
}

// shows asks what cells are worth, told as `A1 what Show writes`.
func shows(t *testing.T, e *Engine, lines ...string) {
	t.Helper()
	for _, line := range lines {
		name, want, _ := strings.Cut(line, " ")
		if got := value.Show(e.Value(at(name))); got != want {
			t.Errorf("%s is worth %q, not %q", name, got, want)
		}
	}
}

func worked(t *testing.T, e *Engine, least int, most int) {
	t.Helper()
	if n := e.Worked(); n < least || n > most {
		t.Errorf("%d formulas worked out, not %d to %d", n, least, most)
	}
}

func same(t *testing.T, what string, got []int, want ...int) {
	t.Helper()
	if !slices.Equal(got, want) || len(want) == 0 && got != nil {
		t.Errorf("%s: %v, not %v", what, got, want)
	}
}

func TestJ1NewEngineIsEmpty(t *testing.T) {
	e := New()
	same(t, "Used", e.Used())
	worked(t, e, 0, 0)
	for _, cell := range []int{0, 1, 64, 65535} {
		if e.Content(cell) != "" || e.Value(cell) != nothing {
			t.Errorf("the cell %d has something", cell)
		}
	}
}

func TestJ1Refusals(t *testing.T) {
	long := strings.Repeat("x", 1002)
	for _, test := range []struct {
		cell    int
		content string
		fault   api.Errno
		place   int
	}{
		{-1, "1", api.ErrPlace, 0},
		{65536, "1", api.ErrPlace, 0},
		{math.MinInt, "", api.ErrPlace, 0},
		{math.MaxInt, "", api.ErrPlace, 0},
		{-1, long, api.ErrPlace, 0},
		{65536, "=1+", api.ErrPlace, 0},
		{0, long, api.ErrLong, 0},
		{0, "=" + long[1:], api.ErrLong, 0},
		{0, "=" + strings.Repeat(" ", 1001), api.ErrLong, 0},
		{0, strings.Repeat("0", 1002), api.ErrLong, 0},
		{0, strings.Repeat("x", 100000), api.ErrLong, 0},
		{0, "=", api.ErrForm, 1},
		{0, "==1", api.ErrForm, 1},
		{0, "=1+", api.ErrForm, 3},
		{0, "=1 2", api.ErrForm, 3},
		{0, "= A1:", api.ErrForm, 5},
		{0, "=\x00", api.ErrForm, 1},
		{0, "=" + strings.Repeat(" ", 1000), api.ErrForm, 1001},
		{0, "=1+0.1234567", api.ErrRange, 3},
		{0, "=2+FOO(1)", api.ErrName, 3},
		{0, "=" + strings.Repeat("(", 21) + "1" + strings.Repeat(")", 21), api.ErrDeep, 21},
		{0, "=1+IF(1)", api.ErrArgs, 3},
	} {
		e := New()
		sets(t, e, "A1 =B1+1", "B1 7")
		if fault, place := e.Set(test.cell, test.content); fault != test.fault || place != test.place {
			t.Errorf("Set(%d, %.20q): %d, %d, not %d, %d", test.cell, test.content, fault, place, test.fault, test.place)
		}
		worked(t, e, 0, 0)
		same(t, "Used", e.Used(), 0, 1)
		if e.Content(0) != "=B1+1" || e.Content(1) != "7" {
			t.Errorf("Set(%d, %.20q) changes contents", test.cell, test.content)
		}
		shows(t, e, "A1 8", "B1 7")
		sets(t, e, "B1 9")
		shows(t, e, "A1 10")
	}
}

func TestJ1LongestContents(t *testing.T) {
	e := New()
	for _, test := range []struct {
		content string
		worth   api.Value
	}{
		{strings.Repeat("x", 1000), text(strings.Repeat("x", 1000))},
		{strings.Repeat("x", 1001), fault(api.Wrong)},
		{"'" + strings.Repeat("x", 1000), text(strings.Repeat("x", 1000))},
		{strings.Repeat("0", 1000) + "7", number(7)},
		{"=1" + strings.Repeat("+1", 499) + "%", api.Value{Kind: 1, Num: 499010000}},
	} {
		if fault, place := e.Set(65535, test.content); fault != api.OK || place != 0 {
			t.Errorf("Set(%.20q): %d, %d", test.content, fault, place)
		}
		if e.Content(65535) != test.content || e.Value(65535) != test.worth {
			t.Errorf("%.20q is worth %v", test.content, e.Value(65535))
		}
	}
	spaced := "=1" + strings.Repeat(" ", 998) + "1"
	if fault, place := e.Set(0, spaced); fault != api.ErrForm || place != 1000 {
		t.Errorf("%d, %d", fault, place)
	}
}

func TestJ1SetAnewAndEmpty(t *testing.T) {
	e := New()
	sets(t, e, "A1 1", "A2 x", "A1 2")
	if e.Content(0) != "2" || e.Value(0) != number(2) {
		t.Error("the old content stays")
	}
	sets(t, e, "A1 ", "A1 ", "BL1024 ")
	if e.Content(0) != "" || e.Value(0) != nothing {
		t.Error("an empty content is one")
	}
	same(t, "Used", e.Used(), 64)
	sets(t, e, "A2 ")
	same(t, "Used", e.Used())
	if e.cells != (cells{}) {
		t.Error("the engine keeps what it does not need any more")
	}
}

func TestJ1EmptyContentOfAFormula(t *testing.T) {
	e := New()
	sets(t, e, "A1 5", "B1 =A1", "C1 =B1+1", "B1 ")
	shows(t, e, "B1 ", "C1 1")
	worked(t, e, 1, 1)
	sets(t, e, "A1 6")
	worked(t, e, 0, 0)
	shows(t, e, "C1 1")
}

func TestG3EnginesShareNothing(t *testing.T) {
	a, b := New(), New()
	sets(t, a, "A1 1", "B1 =A1")
	sets(t, b, "A1 =B1")
	shows(t, a, "A1 1", "B1 1")
	shows(t, b, "A1 ", "B1 ")
	same(t, "Used", b.Used(), 0)
	sets(t, b, "B1 2")
	shows(t, a, "A1 1", "B1 1")
	shows(t, b, "A1 2")
	worked(t, b, 1, 1)
}

func TestJ2Contents(t *testing.T) {
	e := New()
	for _, test := range [][2]string{
		{"12", "12"}, {" 12 ", " 12 "}, {"007.50", "007.50"}, {"true", "true"}, {"'=1", "'=1"}, {"'", "'"}, {" =1", " =1"},
		{"#N/A", "#N/A"}, {"\x00\n\xff\t", "\x00\n\xff\t"}, {"+1", "+1"}, {" ", " "},
		{"= a1 * 3", "=A1*3"}, {"=((1+2))*(3)", "=(1+2)*3"}, {"=sum( $a$1 : b2 , 1.50 )", "=SUM($A$1:B2,1.5)"},
		{"=\"a \"\"b\"", "=\"a \"\"b\""}, {"=true", "=TRUE"}, {"=#REF! ", "=#REF!"}, {"=1=1", "=1=1"},
	} {
		sets(t, e, "C3 "+test[0])
		if got := e.Content(at("C3")); got != test[1] {
			t.Errorf("the content of %q: %q, not %q", test[0], got, test[1])
		}
	}
}

func TestJ2NoSuchCell(t *testing.T) {
	e := New()
	sets(t, e, "A1 1", "BL1024 2", "BL1 3", "A2 4")
	for _, cell := range []int{-1, 65536, -64, math.MinInt, math.MaxInt} {
		if e.Content(cell) != "" {
			t.Errorf("the cell %d has a content", cell)
		}
		if e.Value(cell) != nothing {
			t.Errorf("the cell %d has a value", cell)
		}
	}
	if e.Content(65535) != "2" || e.Content(63) != "3" || e.Content(64) != "4" {
		t.Error("contents at the edges")
	}
}

func TestJ2UsedRises(t *testing.T) {
	e := New()
	for _, cell := range []int{65535, 3, 64, 63, 0, 1000, 2, 3} {
		e.Set(cell, "x")
	}
	same(t, "Used", e.Used(), 0, 2, 3, 63, 64, 1000, 65535)
	e.Set(63, "")
	e.Set(2, "=A1")
	e.Set(5, "=")
	e.Set(6, "=G1")
	list := e.Used()
	same(t, "Used", list, 0, 2, 3, 6, 64, 1000, 65535)
	list[0] = 9
	same(t, "Used", e.Used(), 0, 2, 3, 6, 64, 1000, 65535)
}

func TestJ3ValuesWithoutAFormula(t *testing.T) {
	e := New()
	for content, worth := range map[string]api.Value{
		"12": number(12), "-0.5": {Kind: 1, Num: -500000}, "x": text("x"), "'12": text("12"), "'=A1": text("=A1"), "'": text(""),
		"tRue": {Kind: 3, Num: 1}, "FALSE": {Kind: 3}, "#DIV/0!": fault(api.Div), "#CYCLE!": cycle, " 1": text(" 1"),
	} {
		e.Set(7, content)
		if got := e.Value(7); got != worth {
			t.Errorf("%q is worth %v, not %v", content, got, worth)
		}
		worked(t, e, 0, 0)
	}
}

func TestJ3FormulasFollow(t *testing.T) {
	e := New()
	sets(t, e, "C1 =A1+B1", "D1 =C1*2", "BL1024 =SUM(D1:A1)&\"x\"")
	shows(t, e, "C1 0", "D1 0", "BL1024 0x")
	sets(t, e, "A1 1", "B1 2")
	shows(t, e, "C1 3", "D1 6", "BL1024 12x")
	sets(t, e, "B1 =A1*10")
	shows(t, e, "B1 10", "C1 11", "D1 22", "BL1024 44x")
	sets(t, e, "A1 =1/0")
	shows(t, e, "B1 #DIV/0!", "D1 #DIV/0!", "BL1024 #DIV/0!")
	sets(t, e, "A1 'y")
	shows(t, e, "B1 #VALUE!", "D1 #VALUE!", "BL1024 #VALUE!")
	sets(t, e, "A1 ", "D1 =ISBLANK(A1)")
	shows(t, e, "B1 0", "C1 0", "D1 TRUE", "BL1024 0x")
}

func TestJ3EachCellOfAnAreaOnce(t *testing.T) {
	e := New()
	sets(t, e, "A1 1", "B1 2", "A2 3", "B2 4", "C1 100", "A3 100")
	sets(t, e, "D5 =SUM(A1:B2)+SUM(B2:A1)+A1+$A$1", "D6 =SUM(B1:A2,A1:A2)&CONCAT(A1:B2)")
	shows(t, e, "D5 22", "D6 141234")
	sets(t, e, "B2 5")
	shows(t, e, "D5 24", "D6 151235")
	sets(t, e, "C1 7", "A3 7")
	worked(t, e, 0, 0)
	shows(t, e, "D5 24")
}

func TestJ3Rings(t *testing.T) {
	e := New()
	sets(t, e, "A1 =B1", "B1 =A1+1", "C1 =B1")
	shows(t, e, "A1 #CYCLE!", "B1 #CYCLE!", "C1 #CYCLE!")
	worked(t, e, 0, 1)
	sets(t, e, "B1 4")
	shows(t, e, "A1 4", "B1 4", "C1 4")
	worked(t, e, 2, 2)
}

func TestJ3RingsByWhatIsSpokenOfNotByWhatIsAsked(t *testing.T) {
	e := New()
	sets(t, e, "A1 =IF(TRUE,1,A1)", "B1 =ROWS(B1:B9)", "C1 =IFERROR(C1,7)", "D1 =0*SUM(E1:E3)", "E2 =D1")
	shows(t, e, "A1 #CYCLE!", "B1 #CYCLE!", "C1 #CYCLE!", "D1 #CYCLE!", "E2 #CYCLE!")
}

func TestJ3HangsOnARing(t *testing.T) {
	e := New()
	sets(t, e, "A1 =A1", "B1 =IFERROR(A1,1)", "C1 =IF(TRUE,2,B1)", "D1 =COUNT(A1:C1)", "E1 =C2")
	shows(t, e, "B1 #CYCLE!", "C1 #CYCLE!", "D1 #CYCLE!", "E1 ")
	sets(t, e, "A1 3")
	shows(t, e, "A1 3", "B1 3", "C1 2", "D1 3")
	worked(t, e, 3, 3)
}

func TestJ3HangsOnARingElsewhere(t *testing.T) {
	e := New()
	sets(t, e, "A1 =A2", "A2 =A1", "C1 =B1+IFERROR(A1,0)", "D1 =IFERROR(C1,0)", "E1 =B1+1", "B1 5")
	shows(t, e, "C1 #CYCLE!", "D1 #CYCLE!", "E1 6")
	worked(t, e, 1, 3)
	sets(t, e, "A2 2")
	shows(t, e, "C1 7", "D1 7")
	sets(t, e, "B1 =A1", "A1 =IFERROR(B1,9)")
	shows(t, e, "A1 #CYCLE!", "B1 #CYCLE!", "C1 #CYCLE!", "D1 #CYCLE!", "E1 #CYCLE!", "A2 2")
}

func TestJ3TheErrorAloneIsNoRing(t *testing.T) {
	e := New()
	sets(t, e, "A1 #CYCLE!", "B1 =#CYCLE!", "C1 =IFERROR(A1,1)+IFERROR(B1,2)", "D1 =A1", "E1 =ISERROR(D1)")
	shows(t, e, "A1 #CYCLE!", "B1 #CYCLE!", "C1 3", "D1 #CYCLE!", "E1 TRUE")
	worked(t, e, 1, 1)
}

func TestJ3RingsThatPart(t *testing.T) {
	e := New()
	sets(t, e, "A1 =A2+A3", "A2 =A1", "A3 =A1", "A4 =A3+1")
	sets(t, e, "A2 1")
	shows(t, e, "A1 #CYCLE!", "A2 1", "A3 #CYCLE!", "A4 #CYCLE!")
	sets(t, e, "A3 1")
	shows(t, e, "A1 2", "A3 1", "A4 2")
	sets(t, e, "A1 =A4", "A3 =A2")
	shows(t, e, "A1 2", "A3 1", "A4 2")
	sets(t, e, "A2 =A1")
	shows(t, e, "A1 #CYCLE!", "A2 #CYCLE!", "A3 #CYCLE!", "A4 #CYCLE!")
	sets(t, e, "A4 ")
	shows(t, e, "A1 ", "A2 ", "A3 ", "A4 ")
	if e.Value(at("A1")) != nothing || e.Value(at("A3")) != nothing {
		t.Error("a cell that speaks of an empty one is worth something")
	}
}

func TestJ4Worked(t *testing.T) {
	e := New()
	sets(t, e, "A1 1")
	worked(t, e, 0, 0)
	sets(t, e, "B1 =A1+1")
	worked(t, e, 1, 1)
	sets(t, e, "C1 =A1+B1", "D1 =C1+B1+A1", "E1 =7", "F1 =E1")
	worked(t, e, 1, 1)
	sets(t, e, "A1 2")
	worked(t, e, 3, 3)
	sets(t, e, "C1 9")
	worked(t, e, 1, 1)
	e.Set(0, "=")
	worked(t, e, 0, 0)
	sets(t, e, "C1 8")
	e.Set(65536, "")
	worked(t, e, 0, 0)
	sets(t, e, "C1 =D1")
	worked(t, e, 0, 0)
	sets(t, e, "Z9 9")
	worked(t, e, 0, 0)
	sets(t, e, "Z9 =1/0")
	worked(t, e, 1, 1)
}

func TestJ4ALongChainAndAFan(t *testing.T) {
	e := New()
	sets(t, e, "A1 1")
	for row := 1; row < 1024; row++ {
		name := ref.Print(api.Ref{Row: row - 1})
		e.Set(row*64, "="+name+"+1")
		e.Set(row*64+1, "=SUM(A$1:"+name+")")
	}
	worked(t, e, 1, 1)
	shows(t, e, "A1024 1024", "B1024 523776")
	sets(t, e, "A1 2")
	worked(t, e, 2046, 2046)
	shows(t, e, "A1024 1025", "B1024 524799")
	sets(t, e, "A1 =A1024")
	worked(t, e, 0, 0)
	shows(t, e, "A2 #CYCLE!", "B2 #CYCLE!", "B1024 #CYCLE!")
	sets(t, e, "A1 ")
	worked(t, e, 2046, 2046)
	shows(t, e, "A1024 1023", "B2 0", "B1024 522753")
}

func TestG1AllCellsHaveContents(t *testing.T) {
	e := New()
	for cell := range 65536 {
		e.Set(cell, "1")
	}
	sets(t, e, "A1 =SUM(B1:BL1,A2:BL1024)+SUM(B2:BL1024)*0", "B1 2")
	shows(t, e, "A1 65536")
	worked(t, e, 1, 1)
	if n := len(e.Used()); n != 65536 {
		t.Errorf("%d cells are used", n)
	}
}
