package sheet

import (
	"math/rand"
	"regexp"
	"slices"
	"strconv"
	"strings"
	"testing"

	"sheet/api"
	"sheet/book"
	"sheet/ref"
	"sheet/value"
)

const cellForm = `(\$?[A-Za-z]{1,2}\$?[1-9][0-9]{0,3})`

// forms are the lines of the table, each told by a pattern.
var forms = regexp.MustCompile(`(?s)^(?:(SET) ` + cellForm + ` (.*)|(CLEAR|GET|SHOW) ` + cellForm + `|(COPY) ` + cellForm + `:` + cellForm + ` ` + cellForm + `|(ROWS|COLS) (-?[0-9]{1,9}) (-?[0-9]{1,9})|(UNDO|REDO|DUMP))$`)

func known(names ...string) bool {
	return !slices.ContainsFunc(names, func(name string) bool { _, ok := ref.Parse(name); return !ok })
}

func number(name string) int {
	r, _ := ref.Parse(name)
	return r.Row*64 + r.Col
}

func outcome(fault api.Errno) string {
	if fault == api.OK {
		return "OK"
	}
	return "ERR " + strconv.Itoa(int(fault))
}

// expected is what a line is to be answered, which it does to a book.
func expected(b *book.Book, line string) string {
	m := forms.FindStringSubmatch(line)
	switch {
	case m == nil:
	case m[1] == "SET" && known(m[2]):
		fault, at := b.Set(number(m[2]), m[3])
		if fault != api.OK && strings.HasPrefix(m[3], "=") && len(m[3]) <= 1001 {
			return outcome(fault) + " " + strconv.Itoa(at)
		}
		return outcome(fault)
	case m[4] != "" && known(m[5]):
		switch m[4] {
		case "GET":
			return b.Content(number(m[5]))
		case "SHOW":
			return value.Show(b.Value(number(m[5])))
		}
		b.Set(number(m[5]), "")
		return "OK"
	case m[6] != "" && known(m[7:10]...):
		from, _ := ref.Parse(m[7])
		to, _ := ref.Parse(m[8])
		return outcome(b.Copy(api.Area{From: from, To: to}, number(m[9])))
	case m[10] != "":
		at, _ := strconv.Atoi(m[11])
		n, _ := strconv.Atoi(m[12])
		return outcome(b.Shift(m[10] == "ROWS", at, n))
	case m[13] == "UNDO":
		return outcome(b.Undo())
	case m[13] == "REDO":
		return outcome(b.Redo())
	case m[13] == "DUMP":
		return b.Save()
	}
	return "ERR 2"
}

func pick(r *rand.Rand, list ...string) string { return list[r.Intn(len(list))] }

func someCell(r *rand.Rand) string {
	return pick(r, "A1", "a2", "B1", "$B$2", "c$1", "$A3", "BL1024", "BK1", "A1024")
}

func someContent(r *rand.Rand) string {
	return pick(r, "", "1", "22", " x ", "a\\b\nc", "="+someCell(r)+"+1", "= "+someCell(r)+" & "+someCell(r), "=SUM("+someCell(r)+":"+someCell(r)+")", "=1+", "=IF(1)", "=NO()")
}

func someNumber(r *rand.Rand) string {
	return pick(r, "0", "1", "2", "-1", "-2", "00", "-0", "3", "64", "1023", "1024", "-1024", "1025", "1234567890")
}

// someLine is one of the table, or one with a fault.
func someLine(r *rand.Rand) string {
	line := pick(r, "SET "+someCell(r)+" "+someContent(r), "SET "+someCell(r)+" "+someContent(r), "SET "+someCell(r)+" "+someContent(r),
		"CLEAR "+someCell(r), "GET "+someCell(r), "SHOW "+someCell(r), "COPY "+someCell(r)+":"+someCell(r)+" "+someCell(r), "COPY A1:B2 "+someCell(r),
		"ROWS "+someNumber(r)+" "+someNumber(r), "COLS "+someNumber(r)+" "+someNumber(r), "UNDO", "UNDO", "REDO", "DUMP")
	if r.Intn(5) > 0 {
		return line
	}
	at := r.Intn(len(line) + 1)
	if r.Intn(2) == 0 && at < len(line) {
		return line[:at] + line[at+1:]
	}
	return line[:at] + pick(r, " ", "$", ":", "A", "1", "-", "=", "\n", "\xff") + line[at:]
}

func someScript(r *rand.Rand, length int) []string {
	var lines []string
	for range length {
		lines = append(lines, someLine(r))
	}
	return lines
}

func TestM1AgainstPatterns(t *testing.T) {
	r := rand.New(rand.NewSource(9))
	for range 400 {
		script := someScript(r, 60)
		b := book.New()
		got := Run(script)
		for i, line := range script {
			if want := expected(b, line); got[i] != want {
				t.Fatalf("%q: %q is answered %q, not %q", script[:i], line, got[i], want)
			}
		}
	}
}

func TestM2RandomScripts(t *testing.T) {
	r := rand.New(rand.NewSource(10))
	var list, want [][]string
	for range 60 {
		script := someScript(r, r.Intn(50))
		list, want = append(list, script), append(want, Run(script))
	}
	for _, workers := range []int{1, 3, 16} {
		got, fault := RunAll(list, workers)
		if fault != api.OK || !slices.EqualFunc(got, want, slices.Equal[[]string]) {
			t.Errorf("%d workers: %d", workers, fault)
		}
	}
}

func TestM3FirstLinesDoNotHangOnLaterOnes(t *testing.T) {
	r := rand.New(rand.NewSource(11))
	for range 20 {
		script := someScript(r, 40)
		all := Run(script)
		for n := range len(script) {
			if first := Run(script[:n]); !slices.Equal(first, all[:n]) {
				t.Fatalf("%q: %q, not %q", script[:n], first, all[:n])
			}
		}
	}
}

// asked are lines that change nothing.
func asked() []string {
	lines := []string{"DUMP"}
	for _, name := range []string{"A1", "A2", "A3", "A4", "B1", "B2", "B3", "C1", "C2", "BL1024", "BK1", "A1024", "BL1", "A1023"} {
		lines = append(lines, "GET "+name, "SHOW "+name)
	}
	return lines
}

func TestM3AnswersHangOnContentsAlone(t *testing.T) {
	r := rand.New(rand.NewSource(12))
	unescape := strings.NewReplacer(`\\`, `\`, `\n`, "\n")
	for range 300 {
		script := someScript(r, 50)
		behind := Run(slices.Concat(script, asked()))[len(script):]
		var sets []string
		for line := range strings.Lines(behind[0]) {
			name, content, _ := strings.Cut(strings.TrimSuffix(line, "\n"), "\t")
			sets = append(sets, "SET "+name+" "+unescape.Replace(content))
		}
		r.Shuffle(len(sets), func(i int, j int) { sets[i], sets[j] = sets[j], sets[i] })
		if other := Run(slices.Concat(sets, asked()))[len(sets):]; !slices.Equal(other, behind) {
			t.Fatalf("%q: %q, not %q", script, behind, other)
		}
	}
}
