package sheet

import (
	"runtime"
	"slices"
	"strconv"
	"strings"
	"testing"
	"time"

	"sheet/api"
)

// answers runs lines, each with the answer that it shall have behind `->`.
func answers(t *testing.T, script ...string) {
	t.Helper()
	var lines, want []string
	for _, step := range script {
		line, answer, ok := strings.Cut(step, "->")
		if !ok {
			t.Fatalf("%q has no answer", step)
		}
		lines, want = append(lines, line), append(want, answer)
	}
	got := Run(lines)
	if len(got) != len(want) {
		t.Fatalf("%d answers to %d lines", len(got), len(want))
	}
	for i, line := range lines {
		if got[i] != want[i] {
			t.Errorf("%.40q is answered %.60q, not %.60q", line, got[i], want[i])
		}
	}
}

func TestM1ExamplesOfTheWhole(t *testing.T) {
	answers(t, "SET A1 2->OK", "SET B1 =A1*3->OK", "SHOW B1->6", "SET A1 5->OK", "SHOW B1->15", "UNDO->OK", "SHOW B1->6")
	answers(t, "SET A1 =B1->OK", "SET B1 =A1+1->OK", "SET C1 =B1->OK", "SHOW A1->#CYCLE!", "SHOW B1->#CYCLE!", "SHOW C1->#CYCLE!", "SET B1 4->OK", "SHOW A1->4", "SHOW B1->4", "SHOW C1->4")
	answers(t, "SET A1 1->OK", "SET A2 2->OK", "SET A3 =SUM(A1:A2)->OK", "ROWS 1 1->OK", "GET A4->=SUM(A1:A3)", "ROWS 0 -1->OK", "GET A3->=SUM(A1:A2)")
	answers(t, "SET A1 =1/3*3->OK", "SHOW A1->0.999999", "SET A1 =ROUND(2.5,0)&\"x\"->OK", "SHOW A1->2x")
}

func TestM1NoLines(t *testing.T) {
	if got := Run(nil); got != nil {
		t.Errorf("%v", got)
	}
	if got := Run([]string{}); len(got) != 0 {
		t.Errorf("%v", got)
	}
}

func TestM1Set(t *testing.T) {
	answers(t,
		"SET A1 x->OK", "GET A1->x", "SET $b$2 =a1&\"y\"->OK", "GET B2->=A1&\"y\"", "SHOW b2->xy", "SET bl1024 7->OK", "SHOW BL1024->7",
		"SET A1  two  blanks  ->OK", "GET A1-> two  blanks  ", "SET A1 \t->OK", "GET A1->\t", "SET A1 a\nb->OK", "GET A1->a\nb", "SET A1 SET A1 x->OK", "GET A1->SET A1 x",
		"SET A1 ->OK", "GET A1->", "SHOW A1->", "SET A1  ->OK", "GET A1-> ", "SET A1 '=1->OK", "GET A1->'=1", "SHOW A1->=1", "SET A1  =1->OK", "SHOW A1-> =1", "SET A1 #N/A->OK", "SHOW A1->#N/A", "SET A1 true->OK", "GET A1->true", "SHOW A1->TRUE",
	)
}

func TestM1SetErrors(t *testing.T) {
	long := strings.Repeat("x", 1002)
	answers(t,
		"SET A1 7->OK",
		"SET A1 =->ERR 2 1", "SET A1 =1+->ERR 2 3", "SET A1 = 1 1->ERR 2 4", "SET A1 =1+ ->ERR 2 4", "SET A1 =((1)->ERR 2 5", "SET A1 =#X->ERR 2 1",
		"SET A1 =FOO(1)->ERR 4 1", "SET A1 =1+IF(1)->ERR 5 3", "SET A1 =1*0.1234567->ERR 6 3", "SET A1 ="+strings.Repeat("(", 21)+"->ERR 3 21",
		"SET A1 "+long+"->ERR 1", "SET A1 ="+long+"->ERR 1", "SET A1 ="+strings.Repeat(" ", 1000)+"->ERR 2 1001", "SET A1 "+strings.Repeat(" ", 1002)+"->ERR 1",
		"GET A1->7", "UNDO->OK", "UNDO->ERR 9",
		"SET A1 "+long[1:]+"->OK", "SHOW A1->#VALUE!", "SET A1 "+long[2:]+"->OK", "SHOW A1->"+long[2:],
	)
}

func TestM1ClearGetShow(t *testing.T) {
	answers(t,
		"SET A1 5->OK", "SET B1 =A1+1->OK", "GET $A1->5", "GET a$1->5", "GET b1->=A1+1", "SHOW $B$1->6", "CLEAR $a$1->OK", "GET A1->", "SHOW A1->", "SHOW B1->1",
		"CLEAR A1->OK", "CLEAR BL1024->OK", "UNDO->OK", "UNDO->OK", "UNDO->OK", "SHOW B1->6", "REDO->OK", "SHOW B1->1", "GET BL1024->", "SHOW BL1024->",
	)
}

func TestM1Copy(t *testing.T) {
	answers(t,
		"SET A1 1->OK", "SET B1 =A1+$A$1->OK", "COPY A1:B1 A2->OK", "GET A2->1", "GET B2->=A2+$A$1", "COPY $b$1:a1 c3->OK", "GET D3->=C3+$A$1", "SHOW D3->2",
		"COPY B1:B1 A1->OK", "GET A1->=#REF!+$A$1", "COPY A1:B1 BL1->ERR 8", "COPY A1:A2 A1024->ERR 8", "COPY A1:A1 BL1024->OK", "COPY A1:BL1024 A1->OK", "COPY A1:BL1024 A2->ERR 8",
		"SET A9 ="+strings.Repeat("1+", 499)+"A1->OK", "COPY A9:A9 A17->OK", "COPY A9:A9 A18->ERR 1", "GET A18->", "UNDO->OK", "GET A17->",
	)
}

func TestM1RowsAndCols(t *testing.T) {
	answers(t,
		"SET A1 1->OK", "SET B2 =A1->OK", "ROWS 0 1->OK", "GET B3->=A2", "COLS 0 2->OK", "GET D3->=C2", "COLS 2 -1->OK", "GET C3->=#REF!", "ROWS 1023 -1024->OK", "ROWS 0 0->OK", "COLS 63 1024->OK",
		"ROWS -1 1->ERR 8", "ROWS 1024 1->ERR 8", "ROWS 999999999 1->ERR 8", "ROWS -999999999 1->ERR 8", "COLS 64 1->ERR 8", "COLS -1 1->ERR 8", "ROWS 64 1->OK",
		"ROWS 0 1025->ERR 6", "ROWS 0 -1025->ERR 6", "COLS 0 999999999->ERR 6", "COLS 0 -999999999->ERR 6", "COLS 64 -1025->ERR 8", "GET C3->=#REF!",
		"ROWS 002 -000000001->OK", "GET C3->", "UNDO->OK", "ROWS -0 -0->OK", "GET C3->=#REF!",
		"SET A9 ="+strings.Repeat("1+", 499)+"C9->OK", "ROWS 5 2->ERR 1", "COLS 2 24->ERR 1", "COLS 2 23->OK", "GET Z3->=#REF!",
	)
}

func TestM1UndoRedo(t *testing.T) {
	answers(t,
		"UNDO->ERR 9", "REDO->ERR 9", "SET A1 1->OK", "COPY A1:A1 B1->OK", "ROWS 0 1->OK", "CLEAR C9->OK", "DUMP->A2\t1\nB2\t1\n",
		"UNDO->OK", "DUMP->A2\t1\nB2\t1\n", "UNDO->OK", "DUMP->A1\t1\nB1\t1\n", "UNDO->OK", "DUMP->A1\t1\n", "REDO->OK", "DUMP->A1\t1\nB1\t1\n", "UNDO->OK", "UNDO->OK", "DUMP->", "UNDO->ERR 9",
		"REDO->OK", "SET A1 =->ERR 2 1", "NO->ERR 2", "ROWS 0 5000->ERR 6", "GET A1->1", "REDO->OK", "SET D1 4->OK", "REDO->ERR 9", "DUMP->A1\t1\nB1\t1\nD1\t4\n",
	)
}

func TestM1Dump(t *testing.T) {
	answers(t, "DUMP->", "SET B1 a\\b\nc->OK", "SET A2 = 1 + 1->OK", "SET A1 \t->OK", "DUMP->A1\t\t\nB1\ta\\\\b\\nc\nA2\t=1+1\n")
}

func TestM1LinesOfAnotherForm(t *testing.T) {
	for _, line := range []string{
		"", " ", "  ", "\n", "\t", "\x00", "X", "set A1 1", "Set A1 1", "get A1", "undo", "SETA1 1", "NOP A1",
		"SET", "SET ", "SET  ", "SET A1", "SET  A1 1", " SET A1 1", "SET\tA1 1", "SET A1\t1", "SET A0 1", "SET A01 1", "SET A1025 1", "SET BM1 1", "SET AAA1 1", "SET 1 1", "SET A 1", "SET $$A1 1", "SET A1$ 1", "SET A1:A1 1", "SET A1= 1", "SET Á1 1", "SET A1\n 1",
		"CLEAR", "CLEAR ", "CLEAR A1 ", "CLEAR  A1", " CLEAR A1", "CLEAR A1 1", "CLEAR A0", "CLEAR A1:A2", "CLEAR A1\n",
		"GET", "GET ", "GET A1 ", "GET A1 A2", "GET  A1", " GET A1", "GET A1025", "GET BM1", "GET A-1", "GET A1\x00",
		"SHOW", "SHOW ", "SHOW A1 ", "SHOW A1 x", "SHOW  A1", "SHOW 1A", "SHOW $1",
		"COPY", "COPY ", "COPY A1", "COPY A1:A1", "COPY A1:A1 ", "COPY A1 A1", "COPY A1:A1 A1:A1", "COPY A1:A1 B1 ", "COPY A1:A1  B1", "COPY  A1:A1 B1", "COPY A1:A1 B1 C1", "COPY A1: B1", "COPY :A1 B1", "COPY : B1", "COPY A1:A1:A1 B1", "COPY A1:BM1 A1", "COPY A1::A1 B1", "COPY A1;A1 B1", "COPY A1 : A1 B1", "COPY A1:A1 BM1", "COPY A1:A1025 B1",
		"ROWS", "ROWS ", "ROWS 0", "ROWS 0 ", "ROWS 0  1", "ROWS  0 1", "ROWS 0 1 ", "ROWS 0 1 1", "ROWS A 1", "ROWS 0 A", "ROWS - 1", "ROWS 0 -", "ROWS --0 1", "ROWS 0 --1", "ROWS +0 1", "ROWS 0 +1", "ROWS 0 1.0", "ROWS 0 1e1", "ROWS 0 0x1", "ROWS 0 1_0", "ROWS 0000000000 1", "ROWS 0 0000000001", "ROWS 0 -0000000001", "ROWS 9999999999999999999999 1", "ROWS 0 -1-", "ROWS 1-1 0", "ROWS 0 ١", "ROWS 0 -\xff",
		"COLS", "COLS 0", "COLS 0 1 ", "COLS A 1", "COLS 0 1000000000", "COLS 1234567890 1", "cols 0 1", "COLS 0\t1",
		"UNDO ", "UNDO 1", " UNDO", "UNDO\n", "REDO ", "REDO 1", " REDO", "REDO\x00", "DUMP ", "DUMP A1", " DUMP", "DUMPS",
	} {
		script := []string{"SET A1 1", "SET B2 =A1", "SET C3 x", "UNDO", line, "DUMP", "REDO"}
		want := []string{"OK", "OK", "OK", "OK", "ERR 2", "A1\t1\nB2\t=A1\n", "OK"}
		if got := Run(script); !slices.Equal(got, want) {
			t.Errorf("%q: %q", line, got)
		}
	}
}

func TestG4LinesAreLeftAsTheyAre(t *testing.T) {
	lines := []string{"SET A1 1", "x", "GET A1", "DUMP"}
	kept := slices.Clone(lines)
	first, second := Run(lines), Run(lines)
	if !slices.Equal(lines, kept) {
		t.Errorf("%q", lines)
	}
	first[2] = "y"
	if second[2] != "1" {
		t.Error("two answers share memory")
	}
}

// scripts are some that have more to do than others.
func scripts(n int) [][]string {
	var list [][]string
	for i := range n {
		script := []string{"SET A1 " + strconv.Itoa(i), "SET B1 =A1*A1"}
		for row := range i % 7 * 5 {
			script = append(script, "COPY A1:B1 A"+strconv.Itoa(row+2), "ROWS 0 1", "SHOW B2")
		}
		list = append(list, append(script, "DUMP", "SHOW B1", "WRONG"))
	}
	return list
}

func TestM2ManyScripts(t *testing.T) {
	list := scripts(50)
	var want [][]string
	for _, script := range list {
		want = append(want, Run(script))
	}
	for workers := 1; workers <= 16; workers++ {
		got, fault := RunAll(list, workers)
		if fault != api.OK || !slices.EqualFunc(got, want, slices.Equal[[]string]) {
			t.Errorf("%d workers: %d, %q", workers, fault, got)
		}
	}
}

func TestM2Workers(t *testing.T) {
	for _, workers := range []int{0, -1, 17, 1 << 40, -1 << 63, 1<<63 - 1} {
		for _, list := range [][][]string{nil, scripts(3)} {
			if got, fault := RunAll(list, workers); got != nil || fault != api.ErrRange {
				t.Errorf("%d workers: %d, %q", workers, fault, got)
			}
		}
	}
}

func TestM2FewScripts(t *testing.T) {
	for _, workers := range []int{1, 2, 16} {
		for _, list := range [][][]string{nil, {}} {
			if got, fault := RunAll(list, workers); got != nil || fault != api.OK {
				t.Errorf("%d workers: %d, %q", workers, fault, got)
			}
		}
		got, fault := RunAll([][]string{nil, {"DUMP"}, {}}, workers)
		if fault != api.OK || len(got) != 3 || got[0] != nil || !slices.Equal(got[1], []string{""}) || len(got[2]) != 0 {
			t.Errorf("%d workers: %d, %q", workers, fault, got)
		}
	}
}

func TestM2NothingGoesOn(t *testing.T) {
	list := scripts(30)
	before := runtime.NumGoroutine()
	for range 20 {
		RunAll(list, 16)
	}
	for range 1000 {
		if runtime.NumGoroutine() <= before {
			return
		}
		time.Sleep(time.Millisecond)
	}
	t.Errorf("%d goroutines, not %d", runtime.NumGoroutine(), before)
}

func TestG4ScriptsAreLeftAndAnswersAreNew(t *testing.T) {
	script := []string{"SET A1 1", "GET A1"}
	list := [][]string{script, script, script}
	got, _ := RunAll(list, 3)
	got[0][1] = "x"
	got[1] = append(got[1][:1], "y")
	if !slices.Equal(script, []string{"SET A1 1", "GET A1"}) || !slices.Equal(got[2], []string{"OK", "1"}) {
		t.Errorf("%q, %q", script, got)
	}
}
