package graph

import (
	"math/rand"
	"slices"
	"testing"

	"sheet/api"
)

// model is a graph of few cells by the chapter's words: speaks[a][b] tells whether a speaks of b.
type model struct {
	cells  []int
	speaks map[int]map[int]bool
}

func (m *model) set(cell int, areas []api.Area) {
	m.speaks[cell] = map[int]bool{}
	for _, other := range m.cells {
		for _, a := range areas {
			if inside(a, other) {
				m.speaks[cell][other] = true
			}
		}
	}
}

// hangs tells for all pairs whether the first one hangs on the second one: rounds go on until nothing is new.
func (m *model) hangs() map[[2]int]bool {
	hangs := map[[2]int]bool{}
	for more := true; more; {
		more = false
		for _, a := range m.cells {
			for _, b := range m.cells {
				if !hangs[[2]int{a, b}] && m.hangsNow(hangs, a, b) {
					hangs[[2]int{a, b}] = true
					more = true
				}
			}
		}
	}
	return hangs
}

func (m *model) hangsNow(hangs map[[2]int]bool, a int, b int) bool {
	if m.speaks[a][b] {
		return true
	}
	for _, c := range m.cells {
		if m.speaks[a][c] && hangs[[2]int{c, b}] {
			return true
		}
	}
	return false
}

func (m *model) hanging(hangs map[[2]int]bool, cell int) []int {
	var list []int
	for _, c := range m.cells {
		if c == cell || hangs[[2]int{c, cell}] {
			list = append(list, c)
		}
	}
	return list
}

func (m *model) rings(hangs map[[2]int]bool) []int {
	var list []int
	for _, c := range m.cells {
		for _, d := range m.cells {
			if hangs[[2]int{d, d}] && (c == d || hangs[[2]int{c, d}]) {
				list = append(list, c)
				break
			}
		}
	}
	return list
}

func (m *model) order(cells []int) []int {
	left := slices.Compact(sorted(slices.Clone(cells)...))
	var list []int
	for {
		next := slices.IndexFunc(left, func(c int) bool {
			return !slices.ContainsFunc(left, func(d int) bool { return m.speaks[c][d] })
		})
		if next < 0 {
			return list
		}
		list = append(list, left[next])
		left = slices.Delete(left, next, next+1)
	}
}

// patch are the cells of some rows and columns, rising.
func patch(cols []int, rows []int) []int {
	var list []int
	for _, row := range rows {
		for _, col := range cols {
			list = append(list, row*64+col)
		}
	}
	return list
}

func TestH2H3H4AgainstAModel(t *testing.T) {
	random := rand.New(rand.NewSource(2))
	for _, cells := range [][]int{
		patch([]int{0, 1, 2, 3}, []int{0, 1, 2}),
		patch([]int{60, 61, 62, 63}, []int{1021, 1022, 1023}),
		patch([]int{0, 31, 32, 63}, []int{0, 511, 512, 1023}),
		patch([]int{7, 8}, []int{3, 4, 255, 256, 900}),
	} {
		for range 15 {
			checkModel(t, random, cells)
		}
	}
}

func checkModel(t *testing.T, random *rand.Rand, cells []int) {
	m := &model{cells: cells, speaks: map[int]map[int]bool{}}
	g := New()
	pick := func() int { return cells[random.Intn(len(cells))] }
	for range 30 {
		cell := pick()
		var areas []api.Area
		for range random.Intn(3) {
			from := pick()
			to := from
			if random.Intn(3) == 0 {
				to = pick()
			}
			areas = append(areas, area(from, to))
		}
		g.Set(cell, areas)
		m.set(cell, areas)
		hangs := m.hangs()
		asked := pick()
		same(t, "Hanging", g.Hanging(asked), m.hanging(hangs, asked)...)
		same(t, "Rings", g.Rings(), m.rings(hangs)...)
		var list []int
		for range random.Intn(2 * len(cells)) {
			list = append(list, pick())
		}
		same(t, "Order", g.Order(list), m.order(list)...)
		same(t, "Order of all", g.Order(cells), m.order(cells)...)
	}
}
