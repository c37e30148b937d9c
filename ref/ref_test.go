package ref

import (
	"math"
	"regexp"
	"strconv"
	"strings"
	"testing"

	"sheet/api"
)

// names are the columns' names, told one by one.
func names() []string {
	const alphabet = "ABCDEFGHIJKLMNOPQRSTUVWXYZ"
	var out []string
	for _, first := range []string{"", "A", "B"} {
		for _, c := range alphabet {
			out = append(out, first+string(c))
		}
	}
	return out[:64]
}

// outsiders are Refs of no cell.
func outsiders() []api.Ref {
	var out []api.Ref
	for _, n := range []int{-1, math.MinInt, math.MaxInt, -64, -1024} {
		out = append(out, api.Ref{Col: n}, api.Ref{Row: n}, api.Ref{Col: n, Row: n, FixCol: true, FixRow: true})
	}
	return append(out, api.Ref{Col: 64}, api.Ref{Row: 1024}, api.Ref{Col: 64, Row: 1024}, api.Ref{Col: 63, Row: 1024}, api.Ref{Col: 64, Row: 1023}, api.Ref{Col: 1023})
}

func TestD1AndD2EachCellHasItsName(t *testing.T) {
	for col, name := range names() {
		for row := range 1024 {
			for fixed := range 4 {
				r := api.Ref{Col: col, Row: row, FixCol: fixed&1 != 0, FixRow: fixed&2 != 0}
				s := []string{"", "$"}[fixed&1] + name + []string{"", "$"}[fixed>>1] + strconv.Itoa(row+1)
				if got := Print(r); got != s {
					t.Fatalf("D1, D2: Print(%v) = %q, want %q", r, got, s)
				}
				if got, ok := Parse(s); got != r || !ok {
					t.Fatalf("D2: Parse(%q) = %v, %v", s, got, ok)
				}
				if got, ok := Parse(strings.ToLower(s)); got != r || !ok {
					t.Fatalf("D2: Parse(%q) = %v, %v", strings.ToLower(s), got, ok)
				}
			}
		}
	}
}

func TestD1OutsideThereIsNoCell(t *testing.T) {
	for _, r := range outsiders() {
		if s := Print(r); s != "" {
			t.Errorf("D1, D2: Print(%v) = %q", r, s)
		}
		for _, s := range []api.Ref{{}, r} {
			for _, a := range []api.Area{{From: r, To: s}, {From: s, To: r}} {
				if b, c, d, e := Bounds(a); b != -1 || c != -1 || d != -1 || e != -1 {
					t.Errorf("D1, D3: Bounds(%v) = %d, %d, %d, %d", a, b, c, d, e)
				}
				for _, rows := range []bool{false, true} {
					for _, n := range []int{-1, 0, 1} {
						if got, ok := Moved(a, rows, 0, n); ok || got != (api.Area{}) {
							t.Errorf("D1, D5: Moved(%v, %v, 0, %d) = %v, %v", a, rows, n, got, ok)
						}
					}
				}
			}
		}
		// Not even a step back inside makes a cell of it.
		for _, step := range []int{0, 1, -1, 1024, -1024, math.MaxInt, math.MinInt} {
			if got, ok := Copied(r, step, step); ok || got != (api.Ref{}) {
				t.Errorf("D1, D4: Copied(%v, %d) = %v, %v", r, step, got, ok)
			}
		}
	}
}

func TestD2MixedLetters(t *testing.T) {
	for s, want := range map[string]api.Ref{"aA1": {Col: 26}, "Aa1": {Col: 26}, "$bL$1024": {Col: 63, Row: 1023, FixCol: true, FixRow: true}, "z9": {Col: 25, Row: 8}} {
		if r, ok := Parse(s); r != want || !ok {
			t.Errorf("D2: Parse(%q) = %v, %v", s, r, ok)
		}
	}
}

func TestD2OtherTexts(t *testing.T) {
	for _, s := range []string{
		"", "$", "$$", "A", "$A", "A$", "$A$", "1", "$1", "A0", "A00", "A01", "A001024", "A1025", "A9999", "A10240", "BM1", "BZ1", "CA1", "ZZ1", "AAA1", "A1 ", " A1", "A 1", "$$A1", "A$$1", "A1$", "$A$1$", "A1B", "1A", "A-1", "A+1", "A1.0", "A1:A1", "A\x00", "A1\x00", "\x00A1", "\u00c41", "\u212a1", "\u017f1", "A\u0661", "[1", "@1", "`1", "{1", "A/", "A:", "A1/", "A1:", "\xff1", "A\xff",
		"A18446744073709551617", "A4294967297", "A" + strings.Repeat("1", 5000), strings.Repeat("A", 5000) + "1", strings.Repeat("A", 14) + "1", "A" + strings.Repeat("0", 5000) + "1", strings.Repeat("$", 5000),
	} {
		if r, ok := Parse(s); ok || r != (api.Ref{}) {
			t.Errorf("D2: Parse(%.40q) = %v, %v", s, r, ok)
		}
	}
}

// TestD2ShortTexts holds all texts of some bytes against a pattern.
func TestD2ShortTexts(t *testing.T) {
	pattern := regexp.MustCompile(`^\$?([A-Za-z]|[Aa][A-Za-z]|[Bb][A-La-l])\$?([1-9][0-9]{0,2}|10[01][0-9]|102[0-4])$`)
	texts := []string{""}
	for i := 0; i < len(texts); i++ {
		s := texts[i]
		if len(s) < 5 {
			for _, c := range []byte("$abLMz019@") {
				texts = append(texts, s+string(c))
			}
		}
		if r, ok := Parse(s); ok != pattern.MatchString(s) || !ok && r != (api.Ref{}) {
			t.Fatalf("D2: Parse(%q) = %v, %v", s, r, ok)
		}
	}
	for n := range 20_000 {
		s := "C" + strconv.Itoa(n)
		if r, ok := Parse(s); ok != (n >= 1 && n <= 1024) || ok && r != (api.Ref{Col: 2, Row: n - 1}) {
			t.Fatalf("D2: Parse(%q) = %v, %v", s, r, ok)
		}
	}
}

func TestD3Bounds(t *testing.T) {
	for _, c := range []struct{ fromCol, fromRow, toCol, toRow int }{{1, 2, 3, 4}, {3, 2, 1, 4}, {1, 4, 3, 2}, {3, 4, 1, 2}, {5, 5, 5, 5}, {0, 0, 63, 1023}, {63, 1023, 0, 0}, {0, 1023, 63, 0}, {7, 9, 7, 1}} {
		a := api.Area{From: api.Ref{Col: c.fromCol, Row: c.fromRow, FixRow: true}, To: api.Ref{Col: c.toCol, Row: c.toRow, FixCol: true}}
		x, y, z, w := Bounds(a)
		if x != min(c.fromCol, c.toCol) || y != min(c.fromRow, c.toRow) || z != max(c.fromCol, c.toCol) || w != max(c.fromRow, c.toRow) {
			t.Errorf("D3: Bounds(%v) = %d, %d, %d, %d", a, x, y, z, w)
		}
	}
}

func TestD4Copied(t *testing.T) {
	fixed := func(col, row bool) api.Ref { return api.Ref{Col: 10, Row: 20, FixCol: col, FixRow: row} }
	for _, c := range []struct {
		r          api.Ref
		cols, rows int
		col, row   int
	}{
		{fixed(false, false), 0, 0, 10, 20}, {fixed(false, false), 5, -7, 15, 13}, {fixed(false, false), -10, -20, 0, 0}, {fixed(false, false), 53, 1003, 63, 1023},
		{fixed(true, false), 5, -7, 10, 13}, {fixed(true, false), math.MaxInt, 1, 10, 21}, {fixed(true, false), math.MinInt, 1, 10, 21},
		{fixed(false, true), 5, -7, 15, 20}, {fixed(false, true), 5, math.MaxInt, 15, 20}, {fixed(false, true), 5, math.MinInt, 15, 20},
		{fixed(true, true), 64, 1024, 10, 20}, {fixed(true, true), math.MaxInt, math.MinInt, 10, 20},
	} {
		want := c.r
		want.Col, want.Row = c.col, c.row
		if got, ok := Copied(c.r, c.cols, c.rows); got != want || !ok {
			t.Errorf("D4: Copied(%v, %d, %d) = %v, %v, want %v", c.r, c.cols, c.rows, got, ok, want)
		}
	}
}

func TestD4CopiedToOutside(t *testing.T) {
	for _, c := range []struct {
		r          api.Ref
		cols, rows int
	}{
		{api.Ref{}, -1, 0}, {api.Ref{}, 0, -1}, {api.Ref{}, 64, 0}, {api.Ref{}, 0, 1024}, {api.Ref{Col: 63, Row: 1023}, 1, 0}, {api.Ref{Col: 63, Row: 1023}, 0, 1},
		{api.Ref{FixRow: true}, -1, 0}, {api.Ref{FixCol: true}, 0, -1}, {api.Ref{FixCol: true}, 5, 1024}, {api.Ref{FixRow: true}, 64, 5},
		{api.Ref{Col: 1, Row: 1}, math.MaxInt, 0}, {api.Ref{Col: 1, Row: 1}, 0, math.MaxInt}, {api.Ref{Col: 63, Row: 1023}, math.MaxInt, math.MaxInt}, {api.Ref{}, math.MaxInt, 0}, {api.Ref{Col: 63}, math.MinInt, 0}, {api.Ref{Row: 1023}, 0, math.MinInt},
	} {
		if got, ok := Copied(c.r, c.cols, c.rows); ok || got != (api.Ref{}) {
			t.Errorf("D4: Copied(%v, %d, %d) = %v, %v", c.r, c.cols, c.rows, got, ok)
		}
	}
}

// moved tells by looking at each row (column) on its own what becomes of those from low to high.
func moved(low, high, at, n, size int) (int, int, bool) {
	first, last := -1, -1
	for i := low; i <= high; i++ {
		to := i
		switch {
		case n > 0 && i >= at:
			to = i + n
		case n < 0 && i >= at && i < at-n:
			continue // taken out
		case n < 0 && i >= at:
			to = i + n
		}
		if to >= size {
			// What is put in ahead of this one is within the area, as far as there is room.
			if first >= 0 {
				last = size - 1
			}
			break
		}
		if first < 0 {
			first = to
		}
		last = to
	}
	return first, last, first >= 0
}

func TestD5AgainstRowsOneByOne(t *testing.T) {
	for _, rows := range []bool{false, true} {
		size, step := 64, 1
		if rows {
			size, step = 1024, 61
		}
		var places []int
		for p := 0; p < size; p += 9 * step {
			places = append(places, p, min(p+1, size-1))
		}
		places = append(places, size-2, size-1)
		numbers := []int{-1024, -1023, -1000, -size, -size + 1, -64, -63, -20, -10, -9, -3, -2, -1, 0, 1, 2, 3, 9, 10, 20, 62, 63, 64, size - 1, size, 1000, 1023, 1024}
		for _, from := range places {
			for _, to := range places {
				for _, at := range places {
					for _, n := range numbers {
						checkMoved(t, rows, from, to, at, n, size)
					}
				}
			}
		}
	}
}

// area has these rows (columns), and parts beside them that must stay.
func area(rows bool, from, to int) api.Area {
	a := api.Area{From: api.Ref{Col: 12, Row: 12, FixCol: true}, To: api.Ref{Col: 11, Row: 11, FixRow: true}}
	if rows {
		a.From.Row, a.To.Row = from, to
	} else {
		a.From.Col, a.To.Col = from, to
	}
	return a
}

func checkMoved(t *testing.T, rows bool, from, to, at, n, size int) {
	t.Helper()
	low, high, left := moved(min(from, to), max(from, to), at, n, size)
	var want api.Area
	switch {
	case left && from <= to:
		want = area(rows, low, high)
	case left:
		want = area(rows, high, low)
	}
	if got, ok := Moved(area(rows, from, to), rows, at, n); got != want || ok != left {
		t.Fatalf("D5: Moved(%v, %v, %d, %d) = %v, %v, want %v, %v", area(rows, from, to), rows, at, n, got, ok, want, left)
	}
}

func TestD5OfHandPickedAreas(t *testing.T) {
	for _, c := range []struct {
		rows             bool
		from, to, at, n  int
		wantFrom, wantTo int
	}{
		{true, 2, 4, 3, 2, 2, 6}, {true, 2, 4, 2, 1, 3, 5}, {true, 2, 4, 5, 1, 2, 4}, {true, 4, 2, 3, 2, 6, 2}, {true, 2, 4, 4, 1, 2, 5}, {true, 3, 3, 3, 2, 5, 5}, {true, 3, 3, 4, 2, 3, 3},
		{true, 2, 4, 3, 0, 2, 4}, {true, 4, 2, 0, 0, 4, 2},
		{true, 2, 1020, 0, 10, 12, 1023}, {true, 1020, 2, 0, 10, 1023, 12}, {true, 2, 1023, 3, 1024, 2, 1023}, {true, 1022, 1023, 0, 1, 1023, 1023}, {false, 2, 60, 3, 1024, 2, 63}, {false, 62, 5, 5, 58, 63, 63},
		{true, 2, 4, 3, -1, 2, 3}, {true, 2, 4, 1, -2, 1, 2}, {true, 2, 4, 4, -9, 2, 3}, {true, 2, 4, 2, -2, 2, 2}, {true, 2, 4, 5, -3, 2, 4}, {true, 2, 4, 0, -2, 0, 2}, {true, 2, 4, 0, -1, 1, 3}, {true, 4, 2, 1, -2, 2, 1}, {true, 2, 4, 3, -1024, 2, 2}, {true, 3, 3, 2, -1, 2, 2}, {false, 10, 63, 63, -1, 10, 62},
	} {
		want := area(c.rows, c.wantFrom, c.wantTo)
		if got, ok := Moved(area(c.rows, c.from, c.to), c.rows, c.at, c.n); got != want || !ok {
			t.Errorf("D5: rows %v, %d to %d, at %d, %d: %v, %v, want %v", c.rows, c.from, c.to, c.at, c.n, got, ok, want)
		}
	}
}

func TestD5LostAndWrong(t *testing.T) {
	for _, c := range []struct {
		rows            bool
		from, to, at, n int
	}{
		{true, 2, 4, 2, -3}, {true, 4, 2, 2, -3}, {true, 2, 4, 0, -5}, {true, 3, 3, 3, -1}, {true, 2, 4, 0, -1024}, {true, 0, 1023, 0, -1024}, {true, 1020, 1023, 0, 10}, {true, 1023, 1023, 1023, 1}, {true, 5, 5, 0, 1019}, {false, 60, 63, 60, 4}, {false, 0, 63, 0, 64}, {false, 0, 63, 0, -64}, {false, 63, 63, 63, -1},
		{true, 2, 4, 1024, 1}, {true, 2, 4, 1024, 0}, {true, 2, 4, -1, 1}, {true, 2, 4, math.MaxInt, 1}, {true, 2, 4, math.MinInt, -1}, {true, 2, 4, -1, 0}, {false, 2, 4, 64, 1}, {false, 2, 4, 64, 0}, {false, 2, 4, 1023, 1}, {false, 2, 4, -1, -1},
		{true, 2, 4, 9, 1025}, {true, 2, 4, 9, -1025}, {true, 2, 4, 9, math.MaxInt}, {true, 2, 4, 9, math.MinInt}, {false, 2, 4, 9, 1025}, {false, 2, 4, 9, -1025}, {false, 2, 4, 9, math.MinInt},
	} {
		if got, ok := Moved(area(c.rows, c.from, c.to), c.rows, c.at, c.n); ok || got != (api.Area{}) {
			t.Errorf("D5: rows %v, %d to %d, at %d, %d: %v, %v", c.rows, c.from, c.to, c.at, c.n, got, ok)
		}
	}
	// Behind the area nothing changes, however many are put in or taken out.
	for _, n := range []int{1024, -1024} {
		for _, rows := range []bool{false, true} {
			if got, ok := Moved(area(rows, 2, 4), rows, 9, n); got != area(rows, 2, 4) || !ok {
				t.Errorf("D5: at 9, %d: %v, %v", n, got, ok)
			}
		}
	}
}
