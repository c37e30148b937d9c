package book

import (
	"strconv"
	"strings"
	"testing"

	"sheet/api"
)

func itoa(n int) string { return strconv.Itoa(n) }

func TestK5Save(t *testing.T) {
	b := New()
	for _, test := range []struct {
		cell    int
		content string
	}{
		{65535, "last"}, {64, "=  sum( a1 : $b$2 )"}, {63, "a\tb"}, {1, `a\b`}, {2, "a\nb"}, {3, `\n`}, {4, "\\\n\\\\n"}, {5, "'=1"}, {6, " "}, {7, "\x00\xff\r"}, {8, `="\` + "\n\"\"\""}, {9, "1"}, {9, ""},
	} {
		b.Set(test.cell, test.content)
	}
	want := "B1\ta\\\\b\nC1\ta\\nb\nD1\t\\\\n\nE1\t\\\\\\n\\\\\\\\n\nF1\t'=1\nG1\t \nH1\t\x00\xff\r\nI1\t=\"\\\\\\n\"\"\"\nBL1\ta\tb\nA2\t=SUM(A1:$B$2)\nBL1024\tlast\n"
	if got := b.Save(); got != want {
		t.Errorf("%q, not %q", got, want)
	}
	same(t, b, want)
	c, _, _ := Load(want)
	for _, cell := range b.Used() {
		if c.Content(cell) != b.Content(cell) {
			t.Errorf("the cell %d has %q, not %q", cell, c.Content(cell), b.Content(cell))
		}
	}
}

func TestK5LoadedBooksHaveNothingToUndo(t *testing.T) {
	b, fault, place := Load("A1\t1\nB1\t=A1+1\n")
	if fault != api.OK || place != 0 {
		t.Fatalf("%d, %d", fault, place)
	}
	is(t, "Undo", b.Undo(), api.ErrNone)
	is(t, "Redo", b.Redo(), api.ErrNone)
	has(t, b, "A1 1", "B1 =A1+1")
	sets(t, b, "A1 5")
	shows(t, b, "B1 6")
	is(t, "Undo", b.Undo(), api.OK)
	is(t, "Undo", b.Undo(), api.ErrNone)
	has(t, b, "A1 1", "B1 =A1+1")
}

func TestK5LoadOfNothing(t *testing.T) {
	b, fault, place := Load("")
	if fault != api.OK || place != 0 {
		t.Fatalf("%d, %d", fault, place)
	}
	has(t, b)
	sets(t, b, "A1 1")
	has(t, b, "A1 1")
}

func TestK5LoadWorksOutWhatSpeaksOfLaterCells(t *testing.T) {
	b, fault, _ := Load("A1\t=B1+C1\nB1\t=C1*2\nC1\t4\nD1\t=E1\nE1\t=D1\nF1\t=IFERROR(D1,1)\nA2\t=SUM(A1:C1)\n")
	is(t, "Load", fault, api.OK)
	shows(t, b, "A1 12", "B1 8", "C1 4", "D1 #CYCLE!", "E1 #CYCLE!", "F1 #CYCLE!", "A2 24")
	sets(t, b, "E1 7")
	shows(t, b, "D1 7", "E1 7", "F1 7")
}

func TestK5LoadOfALongChain(t *testing.T) {
	var text strings.Builder
	for cell := range 20000 {
		text.WriteString(entry{cell, "=" + name(cell+1) + "+1"}.line())
	}
	text.WriteString(entry{20000, "5"}.line())
	b, fault, _ := Load(text.String())
	is(t, "Load", fault, api.OK)
	shows(t, b, "A1 20005")
	is(t, "Shift", b.Shift(true, 0, 1), api.OK)
	shows(t, b, "A1 ", "A2 20005")
	is(t, "Undo", b.Undo(), api.OK)
	shows(t, b, "A1 20005")
	if b.Save() != text.String() {
		t.Error("the book is another one")
	}
}

// name is the name of the cell of that number.
func name(cell int) string {
	letters := string(rune('A' + cell%64%26))
	if col := cell % 64; col >= 26 {
		letters = string(rune('A'+col/26-1)) + letters
	}
	return letters + itoa(cell/64+1)
}

func TestK5NoBooks(t *testing.T) {
	good := "A1\t1\nB1\t=A1\nA2\tx\\\\y\n"
	long := strings.Repeat("x", 1002)
	for _, line := range []string{
		"C1", "C1\t1", "C1\t", "\t", "C", "\x00", // no byte 10
		"\n", "C1\n", "C1 1\n", "x\n", // no byte 9
		"\t1\n", "A2\t1\n", "A1\t1\n", "B1\t1\n", "BL1\t1\n", // no cell behind
		"c3\t1\n", "$C3\t1\n", "C$3\t1\n", "$C$3\t1\n", "C03\t1\n", "C0\t1\n", "C1025\t1\n", "BM3\t1\n", "3\t1\n", "C\t1\n", "C3 \t1\n", " C3\t1\n", "C3:C3\t1\n", "C3\r\t1\n", "C99999999999999999999\t1\n", "CCC3\t1\n",
		"C3\t\n", "C3\t" + long + "\n", "C3\t=" + long[1:] + "\n", "C3\t=" + strings.Repeat("1+", 500) + "1\n", // no contents
		"C3\t=\n", "C3\t=1+\n", "C3\t= 1\n", "C3\t=1 \n", "C3\t=a1\n", "C3\t=(1)\n", "C3\t=01\n", "C3\t=1.0\n", "C3\t=sum(1)\n", "C3\t=FOO(1)\n", "C3\t=true\n", "C3\t=IF(1)\n", "C3\t==1\n",
		"C3\t\\\n", "C3\t\\x\n", "C3\tx\\\n", "C3\t\\\\\\\n", "C3\t\\N\n", "C3\t\\n\\\n", "C3\t\\t\n", "C3\t\\x\\\\\n", "C3\t\\\\\\x\n", "C3\t\\n\\x\\n\n", "C3\t=\"\\\"\n", // not as Save writes them
	} {
		for _, behind := range []string{"", "D9\t1\n", "zzz"} {
			if behind != "" && !strings.HasSuffix(line, "\n") {
				continue
			}
			b, fault, place := Load(good + line + behind)
			if b != nil || fault != api.ErrData || place != len(good) {
				t.Errorf("Load with %.30q: %d, %d, not %d, %d", line, fault, place, api.ErrData, len(good))
			}
		}
	}
}

func TestK5GoodLines(t *testing.T) {
	for _, line := range []string{
		"B2\t1\n", "BL2\t1\n", "BL1024\t1\n", "A1024\t1\n", "AA3\t1\n", "C3\t\t\n", "C3\t\\\\\n", "C3\t\\n\n", "C3\t\\\\n\n", "C3\t\\\\\\n\n", "C3\t \n", "C3\t\xff\x00\r\n",
		"C3\t" + strings.Repeat("x", 1001) + "\n", "C3\t" + strings.Repeat("\\n", 1001) + "\n", "C3\t=" + strings.Repeat("1+", 499) + "1%\n", "C3\t=\"\\n\"\n", "C3\t=#REF!\n", "C3\tb\tc\td\n",
	} {
		text := "A1\t1\nB1\t=A1\nA2\tx\\\\y\n" + line
		b, fault, place := Load(text)
		if fault != api.OK || place != 0 {
			t.Errorf("Load with %.30q: %d, %d", line, fault, place)
			continue
		}
		if b.Save() != text {
			t.Errorf("%q, not %q", b.Save(), text)
		}
	}
}

func TestK5TheFirstBadLineCounts(t *testing.T) {
	for text, want := range map[string]int{
		"x": 0, "\nx": 0, "A1\t1\nx": 5, "A1\t1\n\nx": 5, "A1\t1\nA1\t2\nB1\t": 5, "B1\t1\nC1\t1\nA1\t1\n": 10, "A1\t1\nC1\t1\nB1\t1\nD1\t1\n": 10, "A1\t1\nB1\t1": 5, "A1\t1\\nB1\t1": 0, "A1\t1\\\nB1\t1\n": 0,
	} {
		if b, fault, place := Load(text); b != nil || fault != api.ErrData || place != want {
			t.Errorf("Load(%q): %d, %d, not %d", text, fault, place, want)
		}
	}
}
