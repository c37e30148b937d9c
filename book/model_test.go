package book

import (
	"maps"
	"math/rand"
	"slices"
	"strings"
	"testing"

	"sheet/api"
	"sheet/calc"
	"sheet/formula"
	"sheet/ref"
)

// place is a column and a row.
type place struct{ col, row int }

// state is contents by their places.
type state map[place]string

// model has all states, and where it is among these.
type model struct {
	states []state
	at     int
}

func (m *model) now() state { return m.states[m.at] }

func (m *model) change(next state) {
	m.states = append(m.states[:m.at+1:m.at+1], next)
	m.at++
}

func (m *model) undo() api.Errno {
	if m.at == 0 {
		return api.ErrNone
	}
	m.at--
	return api.OK
}

func (m *model) redo() api.Errno {
	if m.at == len(m.states)-1 {
		return api.ErrNone
	}
	m.at++
	return api.OK
}

func (m *model) set(p place, content string) (api.Errno, int) {
	next := maps.Clone(m.now())
	delete(next, p)
	if text, ok := strings.CutPrefix(content, "="); ok {
		plain, fault, place := formula.Print(text)
		if fault != api.OK {
			return fault, place + 1
		}
		next[p] = "=" + plain
	} else if content != "" {
		next[p] = content
	}
	m.change(next)
	return api.OK, 0
}

// copied lays each cell between two places a step further on.
func (m *model) copied(first place, last place, step place) api.Errno {
	next := maps.Clone(m.now())
	for row := first.row; row <= last.row; row++ {
		for col := first.col; col <= last.col; col++ {
			target := place{col + step.col, row + step.row}
			if target.col > 63 || target.row > 1023 {
				return api.ErrPlace
			}
			content := m.now()[place{col, row}]
			delete(next, target)
			if text, ok := strings.CutPrefix(content, "="); ok {
				text, _, _ = formula.Copied(text, step.col, step.row)
				if len(text) > 1000 {
					return api.ErrLong
				}
				content = "=" + text
			}
			if content != "" {
				next[target] = content
			}
		}
	}
	m.change(next)
	return api.OK
}

// shifted goes through the lines of the sheet as they come to lie: a list of them, in which some are put or of which some are taken.
func (m *model) shifted(rows bool, at int, n int) api.Errno {
	size := 64
	if rows {
		size = 1024
	}
	var lines []int
	for i := range size {
		lines = append(lines, i)
	}
	for ; n > 0; n-- {
		lines = slices.Insert(lines, at, -1)
	}
	for ; n < 0 && len(lines) > at; n++ {
		lines = slices.Delete(lines, at, at+1)
	}
	next := state{}
	for p, content := range m.now() {
		line := &p.col
		if rows {
			line = &p.row
		}
		*line = slices.Index(lines, *line)
		if *line < 0 || *line >= size {
			continue
		}
		next[p] = content
	}
	m.change(next)
	return api.OK
}

// moved gives the formulas that a Shift left their new texts.
func (m *model) moved(rows bool, at int, n int) api.Errno {
	if fault := m.shifted(rows, at, n); fault != api.OK {
		return fault
	}
	for p, content := range m.now() {
		if text, ok := strings.CutPrefix(content, "="); ok {
			text, _, _ = formula.Moved(text, rows, at, n)
			m.now()[p] = "=" + text
		}
	}
	return api.OK
}

// agrees holds a book against contents, in an engine of its own.
func agrees(t *testing.T, b *Book, s state) {
	t.Helper()
	e := calc.New()
	for p, content := range s {
		e.Set(p.row*64+p.col, content)
	}
	var saved strings.Builder
	for _, cell := range e.Used() {
		saved.WriteString(name(cell) + "\t" + strings.ReplaceAll(strings.ReplaceAll(e.Content(cell), "\\", "\\\\"), "\n", "\\n") + "\n")
		if b.Value(cell) != e.Value(cell) {
			t.Fatalf("%s with %q is worth %v, not %v", name(cell), e.Content(cell), b.Value(cell), e.Value(cell))
		}
	}
	if b.Save() != saved.String() {
		t.Fatalf("the book has %q, not %q", b.Save(), saved.String())
	}
	if !slices.Equal(b.Used(), e.Used()) {
		t.Fatalf("used: %v, not %v", b.Used(), e.Used())
	}
}

// somewhere lies near a corner of the sheet, so that cells often meet, and often come to its edges.
func somewhere(r *rand.Rand, size int) place {
	p := place{r.Intn(size), r.Intn(size)}
	if r.Intn(6) == 0 {
		p.col = 63 - p.col
	}
	if r.Intn(6) == 0 {
		p.row = 1023 - p.row
	}
	return p
}

func somename(r *rand.Rand, size int) string {
	p := somewhere(r, size)
	cell := name(p.row*64 + p.col)
	if r.Intn(3) == 0 {
		cell = "$" + cell
	}
	if r.Intn(3) == 0 {
		i := strings.IndexAny(cell, "0123456789")
		cell = cell[:i] + "$" + cell[i:]
	}
	return cell
}

func somecontent(r *rand.Rand, size int) string {
	switch r.Intn(9) {
	case 0:
		return ""
	case 1:
		return "a\\n\nb\t"
	case 2, 3:
		return itoa(r.Intn(100))
	case 4:
		return "=" + somename(r, size)
	case 5:
		return "= " + somename(r, size) + " * 2 + " + somename(r, size)
	case 6:
		return "=SUM(" + somename(r, size) + ":" + somename(r, size) + ",1)"
	case 7:
		return "=IFERROR(" + somename(r, size) + "&\"\\\",COUNT(" + somename(r, size) + ":" + somename(r, size) + "))"
	}
	return "=" + somename(r, size) + "+"
}

// step makes the same random call of a book and of a model.
func step(t *testing.T, r *rand.Rand, b *Book, m *model, size int) {
	t.Helper()
	switch r.Intn(8) {
	case 0, 1, 2:
		p, content := somewhere(r, size), somecontent(r, size)
		wantFault, wantAt := m.set(p, content)
		if fault, at := b.Set(p.row*64+p.col, content); fault != wantFault || at != wantAt {
			t.Fatalf("Set of %q: %d, %d, not %d, %d", content, fault, at, wantFault, wantAt)
		}
	case 3:
		first, target := somewhere(r, size), somewhere(r, size)
		last := place{min(63, first.col+r.Intn(size)), min(1023, first.row+r.Intn(size))}
		area := api.Area{From: api.Ref{Col: first.col, Row: last.row}, To: api.Ref{Col: last.col, Row: first.row, FixCol: true}}
		is(t, "Copy", b.Copy(area, target.row*64+target.col), m.copied(first, last, place{target.col - first.col, target.row - first.row}))
	case 4:
		rows, p, n := r.Intn(2) == 0, somewhere(r, size), r.Intn(2*size)-size
		if r.Intn(20) == 0 {
			n = r.Intn(2049) - 1024
		}
		line := p.col
		if rows {
			line = p.row
		}
		is(t, "Shift", b.Shift(rows, line, n), m.moved(rows, line, n))
	case 5, 6:
		is(t, "Undo", b.Undo(), m.undo())
	case 7:
		is(t, "Redo", b.Redo(), m.redo())
	}
}

func TestK1ToK5AgainstAModel(t *testing.T) {
	for _, size := range []int{2, 3, 5, 9} {
		r := rand.New(rand.NewSource(int64(size)))
		for range 40 {
			b, m := New(), &model{states: []state{{}}}
			for range 60 {
				step(t, r, b, m, size)
				agrees(t, b, m.now())
			}
			loaded, fault, _ := Load(b.Save())
			is(t, "Load", fault, api.OK)
			agrees(t, loaded, m.now())
		}
	}
}

func TestK5RandomTexts(t *testing.T) {
	r := rand.New(rand.NewSource(5))
	pieces := []string{"A1", "B1", "A2", "BL1024", "\t", "\t", "\n", "\n", "\\", "\\n", "\\\\", "n", "=", "A1+1", "(", "1", "\"", "$", " "}
	books := 0
	for range 200000 {
		var text strings.Builder
		for range r.Intn(9) {
			text.WriteString(pieces[r.Intn(len(pieces))])
		}
		b, fault, place := Load(text.String())
		if fault == api.OK {
			books++
			if b.Save() != text.String() || place != 0 {
				t.Fatalf("%q, not %q", b.Save(), text.String())
			}
		} else if want := firstBad(text.String()); b != nil || fault != api.ErrData || place != want {
			t.Fatalf("Load(%q): %d, %d, not %d", text.String(), fault, place, want)
		}
	}
	if books < 1000 {
		t.Errorf("only %d books", books)
	}
}

// firstBad is the place of the first line with which what is ahead of it is no book, found by setting the cells.
func firstBad(text string) int {
	b := New()
	for at := 0; at < len(text); {
		end := strings.Index(text[at:], "\n") + at + 1
		if end == at {
			return at
		}
		setLine(b, text[at:end-1])
		if b.Save() != text[:end] {
			return at
		}
		at = end
	}
	return -1
}

// setLine sets what a line tells, if it tells anything.
func setLine(b *Book, line string) {
	cell, content, _ := strings.Cut(line, "\t")
	p, ok := ref.Parse(cell)
	if !ok || name(p.Row*64+p.Col) != cell {
		return
	}
	var plain []byte
	for i := 0; i < len(content); i++ {
		if strings.HasPrefix(content[i:], "\\n") {
			plain, i = append(plain, '\n'), i+1
		} else if strings.HasPrefix(content[i:], "\\\\") {
			plain, i = append(plain, '\\'), i+1
		} else {
			plain = append(plain, content[i])
		}
	}
	b.Set(p.Row*64+p.Col, string(plain))
}
