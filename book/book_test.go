package book

import (
	"math"
	"slices"
	"strings"
	"testing"

	"sheet/api"
	"sheet/calc"
	"sheet/ref"
	"sheet/value"
)

// at is the number of the cell of that name.
func at(name string) int {
	r, ok := ref.Parse(name)
	if !ok {
		panic(name)
	}
	return r.Row*64 + r.Col
}

// area is the area of two names with `:` between.
func area(names string) api.Area {
	first, second, _ := strings.Cut(names, ":")
	from, okFrom := ref.Parse(first)
	to, okTo := ref.Parse(second)
	if !okFrom || !okTo {
		panic(names)
	}
	return api.Area{From: from, To: to}
}

// with is a book with contents, told as `A1 content`.
func with(t *testing.T, lines ...string) *Book {
	t.Helper()
	b := New()
	sets(t, b, lines...)
	return b
}

func sets(t *testing.T, b *Book, lines ...string) {
	t.Helper()
	for _, line := range lines {
		name, content, _ := strings.Cut(line, " ")
		if fault, place := b.Set(at(name), content); fault != api.OK || place != 0 {
			t.Fatalf("Set of %q: %d, %d", line, fault, place)
		}
	}
}

// has asks for all contents of a book, told as `A1 content`, by what it saves; and whether each cell is worth what it is in an engine with these.
func has(t *testing.T, b *Book, lines ...string) {
	t.Helper()
	e := calc.New()
	var want strings.Builder
	for _, line := range lines {
		name, content, _ := strings.Cut(line, " ")
		want.WriteString(name + "\t" + content + "\n")
		e.Set(at(name), content)
	}
	if got := b.Save(); got != want.String() {
		t.Errorf("the book has %q, not %q", got, want.String())
	}
	if !slices.Equal(b.Used(), e.Used()) {
		t.Errorf("used: %v, not %v", b.Used(), e.Used())
	}
	for cell := range 65536 {
		if b.Content(cell) != e.Content(cell) || b.Value(cell) != e.Value(cell) {
			t.Fatalf("the cell %d has %q, worth %v, not %q, worth %v", cell, b.Content(cell), b.Value(cell), e.Content(cell), e.Value(cell))
		}
	}
}

// is asks what became of a call.
func is(t *testing.T, what string, got api.Errno, want api.Errno) {
	t.Helper()
	if got != want {
		t.Errorf("%s: %d, not %d", what, got, want)
	}
}

// shows asks what cells are worth, told as `A1 what Show writes`.
func shows(t *testing.T, b *Book, lines ...string) {
	t.Helper()
	for _, line := range lines {
		name, want, _ := strings.Cut(line, " ")
		if got := value.Show(b.Value(at(name))); got != want {
			t.Errorf("%s is worth %q, not %q", name, got, want)
		}
	}
}

func TestK1NewBookIsEmpty(t *testing.T) {
	b := New()
	has(t, b)
	if b.Used() != nil {
		t.Error("a list of no cells is no nil")
	}
	is(t, "Undo", b.Undo(), api.ErrNone)
	is(t, "Redo", b.Redo(), api.ErrNone)
	has(t, b)
}

func TestK1SetIsAsAnEngines(t *testing.T) {
	b, e := New(), calc.New()
	for _, test := range []struct {
		cell    int
		content string
	}{
		{0, "12"}, {1, "= a1 * 3"}, {1, "=A1+"}, {1, "=FOO(1)"}, {1, "=IF(1)"}, {1, "=1+0.1234567"}, {-1, "1"}, {65536, "=1+"},
		{math.MinInt, "1"}, {math.MaxInt, "1"}, {65535, "=B1&\"x\""}, {2, strings.Repeat("x", 1002)}, {2, strings.Repeat("x", 1001)},
		{2, "=" + strings.Repeat("(", 21)}, {2, "'=1"}, {3, "=D1"}, {4, "=D1"}, {3, ""}, {0, "\x00\n\xff\\"}, {0, ""}, {0, "=" + strings.Repeat(" ", 1001)},
	} {
		wantFault, wantPlace := e.Set(test.cell, test.content)
		if fault, place := b.Set(test.cell, test.content); fault != wantFault || place != wantPlace {
			t.Errorf("Set(%d, %.20q): %d, %d, not %d, %d", test.cell, test.content, fault, place, wantFault, wantPlace)
		}
		for _, cell := range []int{0, 1, 2, 3, 4, 65535, -1, 65536, math.MinInt, math.MaxInt} {
			if b.Content(cell) != e.Content(cell) || b.Value(cell) != e.Value(cell) {
				t.Errorf("Set(%d, %.20q): the cell %d has %.20q", test.cell, test.content, cell, b.Content(cell))
			}
		}
		if !slices.Equal(b.Used(), e.Used()) {
			t.Errorf("Set(%d, %.20q): used %v", test.cell, test.content, b.Used())
		}
	}
}

func TestK1ContentsAndValues(t *testing.T) {
	b := with(t, "A1 2", "B1 = a1 * 3", "BL1024 'x", "C1 =C1")
	has(t, b, "A1 2", "B1 =A1*3", "C1 =C1", "BL1024 'x")
	shows(t, b, "A1 2", "B1 6", "BL1024 x", "C1 #CYCLE!", "D1 ")
	list := b.Used()
	list[0] = 77
	has(t, b, "A1 2", "B1 =A1*3", "C1 =C1", "BL1024 'x")
}

func TestG3BooksShareNothing(t *testing.T) {
	a := with(t, "A1 1", "B1 =A1")
	b := with(t, "A1 5")
	c, _, _ := Load(a.Save())
	sets(t, a, "A1 2")
	is(t, "Copy", b.Copy(area("A1:A1"), at("C1")), api.OK)
	is(t, "Shift", c.Shift(false, 0, 1), api.OK)
	has(t, a, "A1 2", "B1 =A1")
	has(t, b, "A1 5", "C1 5")
	has(t, c, "B1 1", "C1 =B1")
	is(t, "Undo", a.Undo(), api.OK)
	has(t, a, "A1 1", "B1 =A1")
	has(t, b, "A1 5", "C1 5")
	has(t, c, "B1 1", "C1 =B1")
}

func TestK2Copy(t *testing.T) {
	b := with(t, "A1 1", "B1 '=A1", "A2 =A1+$A1+A$1+$A$1", "B2 A1")
	is(t, "Copy", b.Copy(area("A1:B2"), at("C4")), api.OK)
	has(t, b, "A1 1", "B1 '=A1", "A2 =A1+$A1+A$1+$A$1", "B2 A1", "C4 1", "D4 '=A1", "C5 =C4+$A4+C$1+$A$1", "D5 A1")
}

func TestK2EndsOfTheAreaInAnyOrderFixedOrNot(t *testing.T) {
	for _, names := range []string{"B2:C3", "C3:B2", "B3:C2", "C2:B3", "$B$2:C3", "$C3:B$2"} {
		b := with(t, "A1 0", "B2 1", "C2 2", "B3 3", "C3 =B2", "D4 0")
		is(t, names, b.Copy(area(names), at("F8")), api.OK)
		has(t, b, "A1 0", "B2 1", "C2 2", "B3 3", "C3 =B2", "D4 0", "F8 1", "G8 2", "F9 3", "G9 =F8")
	}
}

func TestK2EmptyCellsEmptyOthers(t *testing.T) {
	b := with(t, "A1 1", "B2 2", "D1 x", "E1 =D1", "D2 =E1", "E2 y", "F1 z", "C2 =SUM(D1:E2)")
	is(t, "Copy", b.Copy(area("A1:B2"), at("D1")), api.OK)
	has(t, b, "A1 1", "D1 1", "F1 z", "B2 2", "C2 =SUM(D1:E2)", "E2 2")
	shows(t, b, "C2 3")
	is(t, "Copy", b.Copy(area("J10:K11"), at("A1")), api.OK)
	has(t, b, "D1 1", "F1 z", "C2 =SUM(D1:E2)", "E2 2")
}

func TestK2AllIsLookedAtBeforeAnyIsChanged(t *testing.T) {
	lines := []string{"A1 1", "B1 =A1", "A2 3", "B2 =B1+A2", "C3 5"}
	for _, test := range []struct {
		names, to string
		want      []string
	}{
		{"A1:B2", "B1", []string{"A1 1", "B1 1", "C1 =B1", "A2 3", "B2 3", "C2 =C1+B2", "C3 5"}},
		{"A1:B2", "A2", []string{"A1 1", "B1 =A1", "A2 1", "B2 =A2", "A3 3", "B3 =B2+A3", "C3 5"}},
		{"A1:B2", "B2", []string{"A1 1", "B1 =A1", "A2 3", "B2 1", "C2 =B2", "B3 3", "C3 =C2+B3"}},
		{"B1:C3", "A1", []string{"A1 =#REF!", "A2 =A1+#REF!", "B3 5", "C3 5"}},
		{"A2:C3", "A1", []string{"A1 3", "B1 =#REF!+A1", "C2 5", "C3 5"}},
		{"B2:C3", "A1", []string{"A1 =#REF!+#REF!", "B2 5", "C3 5"}},
		{"A1:C3", "A1", lines},
	} {
		b := with(t, lines...)
		is(t, test.names, b.Copy(area(test.names), at(test.to)), api.OK)
		has(t, b, test.want...)
	}
}

func TestK2ARowDownAColumn(t *testing.T) {
	b := with(t, "A1 1", "B1 =A1*2", "B2 =B1+A2", "A2 4")
	for row := 1; row < 1023; row++ {
		is(t, "Copy", b.Copy(api.Area{From: api.Ref{Row: row}, To: api.Ref{Col: 1, Row: row}}, (row+1)*64), api.OK)
	}
	if got := b.Content(at("B1024")); got != "=B1023+A1024" {
		t.Errorf("B1024 has %q", got)
	}
	shows(t, b, "B1024 4094")
	sets(t, b, "A1 100")
	shows(t, b, "B1024 4292")
}

func TestK2NoPlace(t *testing.T) {
	out := api.Area{From: api.Ref{Col: 64}, To: api.Ref{Col: 1}}
	for _, test := range []struct {
		area api.Area
		cell int
		want api.Errno
	}{
		{area("A1:A1"), -1, api.ErrPlace}, {area("A1:A1"), 65536, api.ErrPlace}, {area("A1:A1"), math.MinInt, api.ErrPlace}, {area("A1:A1"), math.MaxInt, api.ErrPlace},
		{out, 0, api.ErrPlace}, {api.Area{From: out.To, To: out.From}, 0, api.ErrPlace}, {out, -1, api.ErrPlace},
		{api.Area{From: api.Ref{Row: -1}}, 0, api.ErrPlace}, {api.Area{To: api.Ref{Row: 1024}}, 0, api.ErrPlace}, {api.Area{To: api.Ref{Col: math.MinInt, Row: math.MaxInt}}, 0, api.ErrPlace},
		{area("A1:B1"), at("BL1"), api.ErrPlace}, {area("A1:B1"), at("BK1"), api.OK}, {area("B1:A1"), at("BL1024"), api.ErrPlace},
		{area("A1:A2"), at("A1024"), api.ErrPlace}, {area("A1:A2"), at("A1023"), api.OK}, {area("C9:D10"), at("BK1024"), api.ErrPlace}, {area("C9:D10"), at("BK1023"), api.OK},
		{area("A1:A1"), at("BL1024"), api.OK}, {area("BL1024:BL1024"), at("A1"), api.OK}, {area("A1:BL1024"), at("A1"), api.OK},
		{area("A1:BL1024"), at("B1"), api.ErrPlace}, {area("A1:BL1024"), at("A2"), api.ErrPlace}, {area("A1:BK1024"), at("B1"), api.OK},
	} {
		b := with(t, "C3 7", "D4 =C3")
		before := b.Save()
		is(t, "Copy", b.Copy(test.area, test.cell), test.want)
		if test.want != api.OK && b.Save() != before {
			t.Errorf("Copy(%v, %d) changes %q", test.area, test.cell, b.Save())
		}
		if test.want != api.OK {
			is(t, "Undo", b.Undo(), api.OK)
			has(t, b, "C3 7")
		}
	}
}

// sum is a formula of that length, in which a cell stands ahead of digits.
func sum(cell string, length int) string {
	return cell + "+" + strings.Repeat("1", 10) + strings.Repeat("+1", (length-len(cell)-11)/2) + strings.Repeat("%", (length-len(cell)-11)%2)
}

func TestK2FormulasThatGrowTooLong(t *testing.T) {
	for _, length := range []int{998, 999, 1000} {
		if text := sum("A9", length); len(text) != length {
			t.Fatalf("%d bytes, not %d", len(text), length)
		}
		b := with(t, "A1 ="+sum("A9", length), "B1 2", "C5 x", "D5 =C5")
		want := api.OK
		if length == 1000 {
			want = api.ErrLong
		}
		is(t, "Copy", b.Copy(area("A1:B1"), at("A2")), want)
		if want == api.OK {
			has(t, b, "A1 ="+sum("A9", length), "B1 2", "A2 ="+sum("A10", length+1), "B2 2", "C5 x", "D5 =C5")
		} else {
			has(t, b, "A1 ="+sum("A9", length), "B1 2", "C5 x", "D5 =C5")
		}
	}
}

func TestK2NothingChangesWhereTheLastFormulaIsTooLong(t *testing.T) {
	lines := []string{"A1 1", "B1 =A1", "C5 x", "B6 =" + sum("A1", 1000), "C6 y"}
	b := with(t, lines...)
	is(t, "as long as before", b.Copy(area("A1:B6"), at("B1")), api.OK)
	is(t, "Undo", b.Undo(), api.OK)
	is(t, "longer in the last cell", b.Copy(area("B1:B6"), at("A1")), api.ErrLong)
	has(t, b, lines...)
	is(t, "Redo", b.Redo(), api.OK)
	is(t, "Undo", b.Undo(), api.OK)
	has(t, b, lines...)
}

func TestK3RowsPutIn(t *testing.T) {
	lines := []string{"A1 1", "A2 2", "B2 =A1+A2", "A3 =SUM(A1:A2)+$A$2", "C1 =B2&A3"}
	for _, test := range []struct {
		at, n int
		want  []string
	}{
		{0, 1, []string{"A2 1", "C2 =B3&A4", "A3 2", "B3 =A2+A3", "A4 =SUM(A2:A3)+$A$3"}},
		{1, 2, []string{"A1 1", "C1 =B4&A5", "A4 2", "B4 =A1+A4", "A5 =SUM(A1:A4)+$A$4"}},
		{2, 5, []string{"A1 1", "C1 =B2&A8", "A2 2", "B2 =A1+A2", "A8 =SUM(A1:A2)+$A$2"}},
		{3, 5, []string{"A1 1", "C1 =B2&A3", "A2 2", "B2 =A1+A2", "A3 =SUM(A1:A2)+$A$2"}},
		{1, 0, []string{"A1 1", "C1 =B2&A3", "A2 2", "B2 =A1+A2", "A3 =SUM(A1:A2)+$A$2"}},
		{0, 1021, []string{"A1022 1", "C1022 =B1023&A1024", "A1023 2", "B1023 =A1022+A1023", "A1024 =SUM(A1022:A1023)+$A$1023"}},
		{0, 1022, []string{"A1023 1", "C1023 =B1024&#REF!", "A1024 2", "B1024 =A1023+A1024"}},
		{1, 1022, []string{"A1 1", "C1 =B1024&#REF!", "A1024 2", "B1024 =A1+A1024"}},
		{1, 1023, []string{"A1 1", "C1 =#REF!&#REF!"}},
		{2, 1024, []string{"A1 1", "C1 =B2&#REF!", "A2 2", "B2 =A1+A2"}},
		{0, 1024, nil},
	} {
		b := with(t, lines...)
		is(t, "Shift", b.Shift(true, test.at, test.n), api.OK)
		has(t, b, test.want...)
	}
}

func TestK3RowsTakenOut(t *testing.T) {
	lines := []string{"A1 1", "C1 =B2&A5", "A2 2", "B2 =A1+A2", "A5 =SUM(A1:A4)+$A$2", "BL1024 =A5"}
	for _, test := range []struct {
		at, n int
		want  []string
	}{
		{0, -1, []string{"A1 2", "B1 =#REF!+A1", "A4 =SUM(A1:A3)+$A$1", "BL1023 =A4"}},
		{1, -1, []string{"A1 1", "C1 =#REF!&A4", "A4 =SUM(A1:A3)+#REF!", "BL1023 =A4"}},
		{2, -2, []string{"A1 1", "C1 =B2&A3", "A2 2", "B2 =A1+A2", "A3 =SUM(A1:A2)+$A$2", "BL1022 =A3"}},
		{2, -3, []string{"A1 1", "C1 =B2&#REF!", "A2 2", "B2 =A1+A2", "BL1021 =#REF!"}},
		{0, -4, []string{"A1 =SUM(#REF!)+#REF!", "BL1020 =A1"}},
		{1023, -1, []string{"A1 1", "C1 =B2&A5", "A2 2", "B2 =A1+A2", "A5 =SUM(A1:A4)+$A$2"}},
		{1023, -1024, []string{"A1 1", "C1 =B2&A5", "A2 2", "B2 =A1+A2", "A5 =SUM(A1:A4)+$A$2"}},
		{5, -1018, []string{"A1 1", "C1 =B2&A5", "A2 2", "B2 =A1+A2", "A5 =SUM(A1:A4)+$A$2", "BL6 =A5"}},
		{0, -1023, []string{"BL1 =#REF!"}},
		{0, -1024, nil},
		{1, -1023, []string{"A1 1", "C1 =#REF!&#REF!"}},
	} {
		b := with(t, lines...)
		is(t, "Shift", b.Shift(true, test.at, test.n), api.OK)
		has(t, b, test.want...)
	}
}

func TestK3Columns(t *testing.T) {
	lines := []string{"A1 1", "B1 2", "D1 =SUM(A1:C1)+$B$1", "BL1 =D1", "A9 =B1&BL1"}
	for _, test := range []struct {
		at, n int
		want  []string
	}{
		{0, 1, []string{"B1 1", "C1 2", "E1 =SUM(B1:D1)+$C$1", "B9 =C1&#REF!"}},
		{1, 2, []string{"A1 1", "D1 2", "F1 =SUM(A1:E1)+$D$1", "A9 =D1&#REF!"}},
		{4, 60, []string{"A1 1", "B1 2", "D1 =SUM(A1:C1)+$B$1", "A9 =B1&#REF!"}},
		{0, 63, []string{"BL1 1", "BL9 =#REF!&#REF!"}},
		{0, 64, nil},
		{0, 1024, nil},
		{63, 1024, []string{"A1 1", "B1 2", "D1 =SUM(A1:C1)+$B$1", "A9 =B1&#REF!"}},
		{0, 0, lines},
		{0, -1, []string{"A1 2", "C1 =SUM(A1:B1)+$A$1", "BK1 =C1"}},
		{1, -1, []string{"A1 1", "C1 =SUM(A1:B1)+#REF!", "BK1 =C1", "A9 =#REF!&BK1"}},
		{1, -3, []string{"A1 1", "BI1 =#REF!", "A9 =#REF!&BI1"}},
		{4, -59, []string{"A1 1", "B1 2", "D1 =SUM(A1:C1)+$B$1", "E1 =D1", "A9 =B1&E1"}},
		{63, -1, []string{"A1 1", "B1 2", "D1 =SUM(A1:C1)+$B$1", "A9 =B1&#REF!"}},
		{0, -63, []string{"A1 =#REF!"}},
		{0, -1024, nil},
	} {
		b := with(t, lines...)
		is(t, "Shift", b.Shift(false, test.at, test.n), api.OK)
		has(t, b, test.want...)
	}
}

func TestK3Refusals(t *testing.T) {
	for _, test := range []struct {
		rows bool
		at   int
		n    int
		want api.Errno
	}{
		{true, -1, 1, api.ErrPlace}, {true, 1024, 1, api.ErrPlace}, {true, math.MinInt, 0, api.ErrPlace}, {true, math.MaxInt, 0, api.ErrPlace},
		{false, -1, 1, api.ErrPlace}, {false, 64, 1, api.ErrPlace}, {false, 1023, 1, api.ErrPlace}, {false, math.MaxInt, -1, api.ErrPlace},
		{true, 0, 1025, api.ErrRange}, {true, 0, -1025, api.ErrRange}, {false, 63, 1025, api.ErrRange}, {false, 0, -1025, api.ErrRange},
		{true, 1023, math.MinInt, api.ErrRange}, {false, 0, math.MaxInt, api.ErrRange},
		{true, 1024, 1025, api.ErrPlace}, {false, -1, math.MinInt, api.ErrPlace}, {false, 64, math.MaxInt, api.ErrPlace},
	} {
		b := with(t, "A1 1", "B2 =A1")
		is(t, "Shift", b.Shift(test.rows, test.at, test.n), test.want)
		has(t, b, "A1 1", "B2 =A1")
		is(t, "Undo", b.Undo(), api.OK)
		is(t, "Shift", b.Shift(test.rows, test.at, test.n), test.want)
		is(t, "Redo", b.Redo(), api.OK)
		has(t, b, "A1 1", "B2 =A1")
	}
}

func TestK3FormulasThatGrowTooLong(t *testing.T) {
	for length, want := range map[int]api.Errno{999: api.OK, 1000: api.ErrLong} {
		b := with(t, "A1 ="+sum("A9", length), "A9 7")
		is(t, "Shift", b.Shift(true, 8, 1), want)
		if want == api.OK {
			has(t, b, "A1 ="+sum("A10", length+1), "A10 7")
		} else {
			has(t, b, "A1 ="+sum("A9", length), "A9 7")
		}
	}
	long := "=" + sum("A1", 1000)
	b := with(t, "A1 1", "A2 2", "C9 "+long)
	is(t, "a cell that is lost is longer", b.Shift(true, 0, -1), api.ErrLong)
	has(t, b, "A1 1", "A2 2", "C9 "+long)
	is(t, "a formula that is taken out", b.Shift(false, 2, -1), api.OK)
	has(t, b, "A1 1", "A2 2")
	is(t, "Undo", b.Undo(), api.OK)
	is(t, "a formula that would be outside", b.Shift(false, 0, 62), api.OK)
	has(t, b, "BK1 1", "BK2 2")
}

func TestG2TheErrorNamedFirst(t *testing.T) {
	b := with(t, "A1 ="+sum("A9", 1000))
	is(t, "too long, and no room", b.Copy(area("A1:B1"), at("BL2")), api.ErrPlace)
	is(t, "too long alone", b.Copy(area("A1:B1"), at("BK2")), api.ErrLong)
	is(t, "too long, and too far", b.Shift(true, 8, 1025), api.ErrRange)
	is(t, "too long, too far, and nowhere", b.Shift(true, 1024, 1025), api.ErrPlace)
	is(t, "too long alone", b.Shift(true, 8, 1), api.ErrLong)
	has(t, b, "A1 ="+sum("A9", 1000))
}

func TestK4UndoAndRedo(t *testing.T) {
	b := New()
	states := []string{b.Save()}
	for _, change := range []func() api.Errno{
		func() api.Errno { e, _ := b.Set(0, "1"); return e },
		func() api.Errno { e, _ := b.Set(1, "=A1+1"); return e },
		func() api.Errno { e, _ := b.Set(0, "5"); return e },
		func() api.Errno { return b.Copy(area("A1:B1"), at("B2")) },
		func() api.Errno { return b.Shift(true, 1, 3) },
		func() api.Errno { return b.Shift(false, 1, -1) },
		func() api.Errno { e, _ := b.Set(0, ""); return e },
		func() api.Errno { return b.Copy(area("J1:K9"), at("A1")) },
		func() api.Errno { return b.Shift(true, 0, 1024) },
	} {
		is(t, "a change", change(), api.OK)
		states = append(states, b.Save())
	}
	for range 2 {
		for i := len(states) - 2; i >= 0; i-- {
			is(t, "Undo", b.Undo(), api.OK)
			same(t, b, states[i])
		}
		is(t, "Undo", b.Undo(), api.ErrNone)
		same(t, b, states[0])
		for _, state := range states[1:] {
			is(t, "Redo", b.Redo(), api.OK)
			same(t, b, state)
		}
		is(t, "Redo", b.Redo(), api.ErrNone)
		same(t, b, states[len(states)-1])
	}
}

// same asks whether a book is as one that is loaded from text.
func same(t *testing.T, b *Book, text string) {
	t.Helper()
	if b.Save() != text {
		t.Fatalf("the book has %q, not %q", b.Save(), text)
	}
	c, fault, _ := Load(text)
	is(t, "Load", fault, api.OK)
	for _, cell := range b.Used() {
		if b.Value(cell) != c.Value(cell) {
			t.Errorf("the cell %d is worth %v, not %v", cell, b.Value(cell), c.Value(cell))
		}
	}
}

func TestK4ChangesOfNothingAreChanges(t *testing.T) {
	b := with(t, "A1 1", "A1 1", "B1 ", "C1 =A1", "C1 = a1")
	is(t, "Copy", b.Copy(area("A1:C1"), at("A1")), api.OK)
	is(t, "Copy", b.Copy(area("J1:J9"), at("K1")), api.OK)
	is(t, "Shift", b.Shift(true, 5, 0), api.OK)
	is(t, "Shift", b.Shift(false, 5, 3), api.OK)
	is(t, "Shift", b.Shift(true, 1023, -1024), api.OK)
	for range 6 {
		is(t, "Undo", b.Undo(), api.OK)
		has(t, b, "A1 1", "C1 =A1")
	}
	is(t, "Undo", b.Undo(), api.OK)
	has(t, b, "A1 1")
	is(t, "Undo", b.Undo(), api.OK)
	has(t, b, "A1 1")
	is(t, "Undo", b.Undo(), api.OK)
	has(t, b, "A1 1")
	is(t, "Undo", b.Undo(), api.OK)
	has(t, b)
	is(t, "Undo", b.Undo(), api.ErrNone)
	for range 10 {
		is(t, "Redo", b.Redo(), api.OK)
	}
	has(t, b, "A1 1", "C1 =A1")
	is(t, "Redo", b.Redo(), api.ErrNone)
}

func TestK4AChangeForgetsWhatWasUndone(t *testing.T) {
	for _, change := range []func(b *Book) api.Errno{
		func(b *Book) api.Errno { e, _ := b.Set(0, "1"); return e },
		func(b *Book) api.Errno { return b.Copy(area("A1:A1"), 0) },
		func(b *Book) api.Errno { return b.Shift(false, 63, 0) },
	} {
		b := with(t, "A1 1", "A1 2", "A1 3")
		is(t, "Undo", b.Undo(), api.OK)
		is(t, "Undo", b.Undo(), api.OK)
		is(t, "a change", change(b), api.OK)
		is(t, "Redo", b.Redo(), api.ErrNone)
		has(t, b, "A1 1")
		is(t, "Undo", b.Undo(), api.OK)
		has(t, b, "A1 1")
		is(t, "Redo", b.Redo(), api.OK)
		is(t, "Undo", b.Undo(), api.OK)
		is(t, "Undo", b.Undo(), api.OK)
		has(t, b)
		is(t, "Undo", b.Undo(), api.ErrNone)
	}
}

func TestK4AnErrorForgetsNothing(t *testing.T) {
	b := with(t, "A1 1", "A1 =B1", "A1 3")
	is(t, "Undo", b.Undo(), api.OK)
	if fault, place := b.Set(0, "=1+"); fault != api.ErrForm || place != 3 {
		t.Errorf("%d, %d", fault, place)
	}
	b.Set(-1, "1")
	is(t, "Copy", b.Copy(area("A1:B1"), at("BL1")), api.ErrPlace)
	is(t, "Shift", b.Shift(false, 64, 1), api.ErrPlace)
	is(t, "Shift", b.Shift(false, 0, 1025), api.ErrRange)
	has(t, b, "A1 =B1")
	is(t, "Redo", b.Redo(), api.OK)
	has(t, b, "A1 3")
	is(t, "Redo", b.Redo(), api.ErrNone)
	is(t, "Undo", b.Undo(), api.OK)
	is(t, "Undo", b.Undo(), api.OK)
	has(t, b, "A1 1")
}

func TestK4WhatCannotBeUndoneIsNotKept(t *testing.T) {
	b := with(t, "A1 x", "A2 y")
	is(t, "Copy", b.Copy(area("A1:BL1023"), 0), api.OK)
	if last := b.done[len(b.done)-1]; len(last) != 0 {
		t.Errorf("a change of nothing keeps %v", last)
	}
	is(t, "Undo", b.Undo(), api.OK)
	is(t, "Undo", b.Undo(), api.OK)
	sets(t, b, "A3 z")
	if len(b.done) != 2 || len(b.undone) != 0 || cap(b.undone) != 0 {
		t.Errorf("%d and %d changes are kept", len(b.done), len(b.undone))
	}
	is(t, "Undo", b.Undo(), api.OK)
	if rest := b.done[:2][1]; rest != nil {
		t.Errorf("a change that was undone is kept twice: %v", rest)
	}
}

func TestK4ValuesFollow(t *testing.T) {
	b := with(t, "A1 1", "B1 =A1*2", "C1 =SUM(A1:B1)", "A1 =C1")
	shows(t, b, "A1 #CYCLE!", "B1 #CYCLE!", "C1 #CYCLE!")
	is(t, "Undo", b.Undo(), api.OK)
	shows(t, b, "A1 1", "B1 2", "C1 3")
	is(t, "Redo", b.Redo(), api.OK)
	shows(t, b, "A1 #CYCLE!", "B1 #CYCLE!", "C1 #CYCLE!")
	is(t, "Shift", b.Shift(false, 0, -1), api.OK)
	shows(t, b, "A1 #REF!", "B1 #REF!")
	is(t, "Undo", b.Undo(), api.OK)
	is(t, "Undo", b.Undo(), api.OK)
	is(t, "Undo", b.Undo(), api.OK)
	shows(t, b, "A1 1", "B1 2", "C1 ")
}

func TestK4GreatChangesAreWorkedOutAsSmallOnesAre(t *testing.T) {
	var lines, shifted []string
	for row := 1; row <= 40; row++ {
		n := itoa(row)
		lines = append(lines, "A"+n+" "+n, "B"+n+" =SUM(A$1:A"+n+")", "C"+n+" =B"+itoa(row%40+1)+"*2")
		n = itoa(row + 1)
		shifted = append(shifted, "A"+n+" "+itoa(row), "B"+n+" =SUM(A$2:A"+n+")", "C"+n+" =B"+itoa(row%40+2)+"*2")
	}
	b := with(t, lines...)
	is(t, "Shift", b.Shift(true, 0, 1), api.OK)
	has(t, b, shifted...)
	is(t, "Undo", b.Undo(), api.OK)
	has(t, b, lines...)
	is(t, "Redo", b.Redo(), api.OK)
	has(t, b, shifted...)
}

func TestK4GreatChangesAloneAreWorkedOutAnew(t *testing.T) {
	b := New()
	for row := range 40 {
		sets(t, b, "A"+itoa(row+1)+" 1", "B"+itoa(row+1)+" 2", "C"+itoa(row+1)+" =SUM(A$1:A$40)")
	}
	for _, test := range []struct {
		what  string
		call  func() api.Errno
		great bool
	}{
		{"a cell on which much hangs", func() api.Errno { e, _ := b.Set(0, "7"); return e }, false},
		{"that undone", b.Undo, false},
		{"some on which nothing hangs", func() api.Errno { return b.Copy(area("A1:A29"), at("B2")) }, false},
		{"those undone", b.Undo, false},
		{"one on which much hangs", func() api.Errno { return b.Copy(area("B1:B1"), at("A1")) }, false},
		{"that undone", b.Undo, false},
		{"some on which much hangs", func() api.Errno { return b.Copy(area("B1:B5"), at("A1")) }, true},
		{"those undone", b.Undo, true},
		{"many on which nothing hangs", func() api.Errno { return b.Copy(area("A1:A35"), at("B2")) }, true},
		{"most cells", func() api.Errno { return b.Shift(true, 0, 1) }, true},
		{"those undone", b.Undo, true},
	} {
		before := b.Engine
		is(t, test.what, test.call(), api.OK)
		if anew := b.Engine != before; anew != test.great {
			t.Errorf("%s: worked out anew: %v", test.what, anew)
		}
	}
}
