package calc

import (
	"math/rand"
	"slices"
	"strings"
	"testing"

	"sheet/api"
	"sheet/eval"
	"sheet/formula"
	"sheet/ref"
	"sheet/value"
)

// model is contents alone: what cells are worth is worked out anew each time, by the chapter's words.
type model struct {
	names    []string
	contents map[string]string
}

// spoken are the cells of which a cell speaks.
func (m *model) spoken(name string) []string {
	text, ok := strings.CutPrefix(m.contents[name], "=")
	if !ok {
		return nil
	}
	areas, _, _ := formula.Areas(text)
	var list []string
	for _, other := range m.names {
		r, _ := ref.Parse(other)
		if slices.ContainsFunc(areas, func(a api.Area) bool {
			firstCol, firstRow, lastCol, lastRow := ref.Bounds(a)
			return firstCol <= r.Col && r.Col <= lastCol && firstRow <= r.Row && r.Row <= lastRow
		}) {
			list = append(list, other)
		}
	}
	return list
}

// hangs tells whether a cell hangs on another one.
func (m *model) hangs(name string, on string, seen map[string]bool) bool {
	for _, other := range m.spoken(name) {
		if other == on {
			return true
		}
		if !seen[other] {
			seen[other] = true
			if m.hangs(other, on, seen) {
				return true
			}
		}
	}
	return false
}

func (m *model) inRing(name string) bool {
	return slices.ContainsFunc(m.names, func(other string) bool {
		return m.hangs(other, other, map[string]bool{}) && (name == other || m.hangs(name, other, map[string]bool{}))
	})
}

// values are those of all cells.
func (m *model) values() map[string]api.Value {
	values := map[string]api.Value{}
	rings := map[string]bool{}
	for _, name := range m.names {
		rings[name] = m.inRing(name)
	}
	for _, name := range m.names {
		m.value(name, values, rings)
	}
	return values
}

func (m *model) value(name string, values map[string]api.Value, rings map[string]bool) api.Value {
	if v, ok := values[name]; ok {
		return v
	}
	v := value.Read(m.contents[name])
	if text, ok := strings.CutPrefix(m.contents[name], "="); ok {
		v = cycle
		if !rings[name] {
			var cells []api.Cell
			for _, other := range m.spoken(name) {
				r, _ := ref.Parse(other)
				cells = append(cells, api.Cell{Col: r.Col, Row: r.Row, Value: m.value(other, values, rings)})
			}
			v, _, _ = eval.Eval(text, cells)
		}
	}
	values[name] = v
	return v
}

// bounds tells how many formulas J4 lets be worked out at least and at most when a cell was set.
func (m *model) bounds(set string, before map[string]api.Value, behind map[string]api.Value) (least int, most int) {
	for _, name := range m.names {
		if !strings.HasPrefix(m.contents[name], "=") || name != set && !m.hangs(name, set, map[string]bool{}) {
			continue
		}
		most++
		if before[name] != behind[name] && behind[name] != cycle {
			least++
		}
	}
	return least, most
}

func randomContent(random *rand.Rand, names []string) string {
	name := func() string { return names[random.Intn(len(names))] }
	switch random.Intn(14) {
	case 0, 1:
		return ""
	case 2, 3:
		return string(rune('0' + random.Intn(10)))
	case 4:
		return "x"
	case 5:
		return "#CYCLE!"
	case 6:
		return "=SUM(" + name() + ":" + name() + ")"
	case 7:
		return "=IFERROR(" + name() + "," + name() + "+1)"
	case 8:
		return "=IF(" + name() + "," + name() + "," + name() + ")"
	case 9:
		return "=COUNT(" + name() + ":" + name() + ")+" + name()
	case 10:
		return "=IFERROR(#CYCLE!,7)&" + name()
	case 11:
		return "=ISBLANK(" + name() + ")"
	}
	return "=" + name()
}

func TestJ1J2J3J4AgainstAModel(t *testing.T) {
	random := rand.New(rand.NewSource(3))
	for _, names := range [][]string{
		{"A1", "B1", "C1", "A2", "B2", "C2"},
		{"BK1023", "BL1023", "BK1024", "BL1024"},
		{"A1", "D1", "BL1", "A5", "D5", "BL5", "A1024", "D1024", "BL1024"},
	} {
		for range 25 {
			checkModel(t, random, names)
		}
	}
}

func checkModel(t *testing.T, random *rand.Rand, names []string) {
	m := &model{names: names, contents: map[string]string{}}
	e := New()
	before := m.values()
	for range 60 {
		name, content := names[random.Intn(len(names))], randomContent(random, names)
		sets(t, e, name+" "+content)
		m.contents[name] = content
		behind := m.values()
		var used []int
		for _, other := range names {
			if got := e.Value(at(other)); got != behind[other] {
				t.Fatalf("%v: %s is worth %v, not %v", m.contents, other, got, behind[other])
			}
			if got := e.Content(at(other)); got != m.contents[other] {
				t.Fatalf("the content of %s: %q, not %q", other, got, m.contents[other])
			}
			if m.contents[other] != "" {
				used = append(used, at(other))
			}
		}
		same(t, "Used", e.Used(), used...)
		least, most := m.bounds(name, before, behind)
		worked(t, e, least, most)
		before = behind
	}
}
