package graph

import (
	"math"
	"math/rand"
	"slices"
	"testing"

	"sheet/api"
)

const none = -1 // no cell

func refOf(cell int) api.Ref { return api.Ref{Col: cell % 64, Row: cell / 64} }

// area is that from one cell to another one.
func area(from int, to int) api.Area { return api.Area{From: refOf(from), To: refOf(to)} }

// only are areas of one cell each.
func only(cells ...int) []api.Area {
	var list []api.Area
	for _, c := range cells {
		list = append(list, area(c, c))
	}
	return list
}

// speaking is a graph in which each cell speaks of single ones.
func speaking(of map[int][]int) *Graph {
	g := New()
	for cell, others := range of {
		g.Set(cell, only(others...))
	}
	return g
}

// upTo are the numbers from first to last.
func upTo(first int, last int) []int {
	var list []int
	for n := first; n <= last; n++ {
		list = append(list, n)
	}
	return list
}

func same(t *testing.T, what string, got []int, want ...int) {
	t.Helper()
	if !slices.Equal(got, want) {
		t.Errorf("%s: %v, not %v", what, got, want)
	}
	if len(want) == 0 && got != nil {
		t.Errorf("%s: an empty list that is not nil", what)
	}
}

func TestH1NewGraphSpeaksOfNothing(t *testing.T) {
	g := New()
	for _, cell := range []int{0, 63, 64, 65535} {
		same(t, "Hanging", g.Hanging(cell), cell)
	}
	same(t, "Rings", g.Rings())
	same(t, "Order", g.Order([]int{9, 0, 65535, 64}), 0, 9, 64, 65535)
}

func TestH1NumbersOfCells(t *testing.T) {
	for _, test := range []struct {
		cell     int
		col, row int
	}{{0, 0, 0}, {1, 1, 0}, {63, 63, 0}, {64, 0, 1}, {130, 2, 2}, {65472, 0, 1023}, {65535, 63, 1023}} {
		g := New()
		r := api.Ref{Col: test.col, Row: test.row}
		if !g.Set(500, []api.Area{{From: r, To: r}}) {
			t.Errorf("a cell cannot speak of %d", test.cell)
		}
		same(t, "Hanging", g.Hanging(test.cell), sorted(test.cell, 500)...)
	}
}

func sorted(list ...int) []int {
	slices.Sort(list)
	return list
}

func TestH1FirstAndLastCellSpeak(t *testing.T) {
	for _, cell := range []int{0, 65535} {
		g := New()
		if !g.Set(cell, only(100)) {
			t.Errorf("there is no cell %d", cell)
		}
		same(t, "Hanging", g.Hanging(100), sorted(100, cell)...)
	}
}

func TestH1RefusesCellsThatThereAreNot(t *testing.T) {
	g := speaking(map[int][]int{5: {6}})
	for _, cell := range []int{-1, 65536, math.MinInt, math.MaxInt, -65536} {
		if g.Set(cell, only(1)) || g.Set(cell, nil) {
			t.Errorf("Set takes the cell %d", cell)
		}
	}
	same(t, "Hanging", g.Hanging(1), 1)
	same(t, "Hanging", g.Hanging(6), 5, 6)
}

func TestH1RefusesAreasOutsideAndChangesNothing(t *testing.T) {
	for _, r := range []api.Ref{{Col: -1}, {Col: 64}, {Row: -1}, {Row: 1024}, {Col: math.MinInt}, {Row: math.MaxInt}, {Col: 64, Row: 1024}} {
		for _, a := range []api.Area{{From: r}, {To: r}, {From: r, To: r}} {
			g := speaking(map[int][]int{5: {6}})
			for _, areas := range [][]api.Area{{a}, {a, area(1, 1)}, {area(1, 1), a}} {
				if g.Set(5, areas) {
					t.Errorf("Set takes %v", areas)
				}
			}
			same(t, "Hanging of one that was asked for", g.Hanging(1), 1)
			same(t, "Hanging of one that was spoken of", g.Hanging(6), 5, 6)
		}
	}
}

func TestH1SpeaksOfAllCellsOfAreasAndOfNoOthers(t *testing.T) {
	random := rand.New(rand.NewSource(1))
	for range 200 {
		from, to := random.Intn(65536), random.Intn(65536)
		if random.Intn(2) == 0 { // small ones, and those at the edges
			to = min(65535, from+random.Intn(5)*64+random.Intn(3))
		}
		a := area(from, to)
		a.From.FixCol, a.To.FixRow = random.Intn(2) == 0, random.Intn(2) == 0
		g := New()
		speaker := random.Intn(65536)
		g.Set(speaker, []api.Area{a})
		for range 50 {
			checkSpoken(t, g, speaker, a, random.Intn(65536))
		}
		for _, corner := range []int{from, to, from/64*64 + to%64, to/64*64 + from%64} {
			for _, beside := range []int{0, 1, -1, 64, -64} {
				checkSpoken(t, g, speaker, a, corner+beside)
			}
		}
	}
}

func checkSpoken(t *testing.T, g *Graph, speaker int, a api.Area, cell int) {
	t.Helper()
	if cell < 0 || cell > 65535 || cell == speaker {
		return
	}
	if got, want := slices.Contains(g.Hanging(cell), speaker), inside(a, cell); got != want {
		t.Fatalf("%d speaks of %d: %v, not %v: %v", speaker, cell, got, want, a)
	}
}

// inside tells whether a cell is one of an area, by D3's words.
func inside(a api.Area, cell int) bool {
	between := func(n int, a int, b int) bool { return a <= n && n <= b || b <= n && n <= a }
	return between(cell%64, a.From.Col, a.To.Col) && between(cell/64, a.From.Row, a.To.Row)
}

func TestH1EveryCellOfAnArea(t *testing.T) {
	for _, a := range []api.Area{
		area(0, 65535), area(65535, 0), area(63, 65472), area(65, 65470), area(0, 63), area(0, 65472),
		area(130, 130), area(1*64+1, 13*64+7), area(5*64+62, 7*64+3),
	} {
		g := New()
		g.Set(0, []api.Area{a})
		for cell := 1; cell < 65536; cell++ {
			checkSpoken(t, g, 0, a, cell)
		}
	}
}

func TestH1SeveralAreas(t *testing.T) {
	g := New()
	g.Set(1000, []api.Area{area(0, 65), area(1, 130), area(0, 65), area(500, 500)})
	for _, cell := range []int{0, 1, 64, 65, 2, 66, 128 + 1, 128 + 2, 500} {
		same(t, "Hanging", g.Hanging(cell), cell, 1000)
	}
	for _, cell := range []int{3, 128, 128 + 3, 499, 501} {
		same(t, "Hanging", g.Hanging(cell), cell)
	}
}

func TestH1SetAnew(t *testing.T) {
	g := speaking(map[int][]int{5: {1, 2}, 6: {1}})
	g.Set(5, only(2, 3))
	same(t, "no more", g.Hanging(1), 1, 6)
	same(t, "still", g.Hanging(2), 2, 5)
	same(t, "now", g.Hanging(3), 3, 5)
	g.Set(5, []api.Area{})
	same(t, "of none", g.Hanging(2), 2)
	g.Set(6, nil)
	same(t, "of none", g.Hanging(1), 1)
	if len(g.spoken.of) != 0 || len(g.spoken.by) != 0 {
		t.Error("the graph keeps what it does not need any more")
	}
}

func TestG4SetKeepsNoList(t *testing.T) {
	g := New()
	areas := only(1, 2)
	g.Set(5, areas)
	if !slices.Equal(areas, only(1, 2)) {
		t.Error("Set changes the list that it is handed")
	}
	areas[0] = area(9, 9)
	same(t, "Hanging", g.Hanging(1), 1, 5)
	same(t, "Hanging", g.Hanging(9), 9)
}

func TestG3GraphsShareNothing(t *testing.T) {
	a, b := New(), New()
	a.Set(1, only(0))
	b.Set(2, only(0))
	same(t, "a", a.Hanging(0), 0, 1)
	same(t, "b", b.Hanging(0), 0, 2)
}

func TestG4AnswersAreNewMemory(t *testing.T) {
	g := speaking(map[int][]int{1: {2}, 2: {1}, 3: {2}, 4: {9}})
	for _, ask := range []func() []int{
		func() []int { return g.Hanging(1) },
		g.Rings,
		func() []int { return g.Order([]int{4, 9}) },
	} {
		first := ask()
		kept := slices.Clone(first)
		for i := range first {
			first[i] = 77
		}
		same(t, "asked again", ask(), kept...)
	}
}

func TestH2ThroughOthers(t *testing.T) {
	g := speaking(map[int][]int{70: {7}, 7: {700}, 700: {3, 9}, 8: {9}})
	same(t, "Hanging", g.Hanging(3), 3, 7, 70, 700)
	same(t, "Hanging", g.Hanging(9), 7, 8, 9, 70, 700)
	same(t, "Hanging", g.Hanging(7), 7, 70)
	same(t, "Hanging", g.Hanging(70), 70)
}

func TestH2EachOnce(t *testing.T) {
	g := speaking(map[int][]int{1: {0}, 2: {0}, 3: {1, 2, 0}, 4: {3, 1}})
	same(t, "Hanging", g.Hanging(0), 0, 1, 2, 3, 4)
	g.Set(0, only(4, 0))
	for cell := range 5 {
		same(t, "Hanging in a ring", g.Hanging(cell), 0, 1, 2, 3, 4)
	}
}

func TestH2NoSuchCell(t *testing.T) {
	g := New()
	g.Set(0, []api.Area{area(0, 65535)})
	for _, cell := range []int{none, 65536, math.MinInt, math.MaxInt} {
		same(t, "Hanging", g.Hanging(cell))
	}
}

func TestH3HangsOnItself(t *testing.T) {
	same(t, "one that speaks of itself", speaking(map[int][]int{9: {9}}).Rings(), 9)
	same(t, "two", speaking(map[int][]int{3: {70}, 70: {3}}).Rings(), 3, 70)
	g := New()
	g.Set(66, []api.Area{area(0, 130)})
	same(t, "one within its own area", g.Rings(), 66)
	same(t, "none", speaking(map[int][]int{1: {0}, 2: {0, 1}, 3: {2, 1, 0}}).Rings())
}

func TestH3HangsOnOneThatDoes(t *testing.T) {
	// 1 and 2 are a ring; 0 and 5 hang on it, through one another; 3 is what it hangs on.
	g := speaking(map[int][]int{1: {2}, 2: {1, 3}, 5: {1, 3}, 0: {5}, 3: {4}, 6: {3}})
	same(t, "Rings", g.Rings(), 0, 1, 2, 5)
	g.Set(2, only(3))
	same(t, "Rings", g.Rings())
	g.Set(3, only(6))
	same(t, "Rings", g.Rings(), 0, 1, 2, 3, 5, 6)
}

func TestH3AllCellsOfASheet(t *testing.T) {
	g := New()
	for cell := range 65536 {
		g.Set(cell, only((cell+1)%65536))
	}
	same(t, "one ring", g.Rings(), upTo(0, 65535)...)
	g.Set(65535, nil)
	same(t, "no ring", g.Rings())
	same(t, "what hangs on the last cell", g.Hanging(65535), upTo(0, 65535)...)
	order := g.Order(upTo(0, 65535))
	slices.Reverse(order)
	same(t, "order", order, upTo(0, 65535)...)
	g.Set(0, []api.Area{area(0, 65535)})
	same(t, "one that speaks of all", g.Rings(), 0)
}

func TestH4LeastFirst(t *testing.T) {
	g := speaking(map[int][]int{1: {90}, 2: {50}, 60: {2}, 70: {1}})
	same(t, "those that become ready go ahead of greater ones", g.Order([]int{90, 70, 60, 50, 2, 1, 95, 55}), 50, 2, 55, 60, 90, 1, 70, 95)
}

func TestH4EachCountsOnceAndNumbersOfNoneDoNot(t *testing.T) {
	g := speaking(map[int][]int{1: {2}})
	same(t, "Order", g.Order([]int{1, none, 2, 65536, 1, 2, math.MinInt, 1, math.MaxInt, 65535}), 2, 1, 65535)
	same(t, "Order of none", g.Order([]int{none, 65536}))
	same(t, "Order of an empty list", g.Order([]int{}))
	same(t, "Order of nil", g.Order(nil))
}

func TestH4OnlyThoseInTheListCount(t *testing.T) {
	// 1 hangs on 3 through 2, but does not speak of it.
	g := speaking(map[int][]int{1: {2}, 2: {3}})
	same(t, "all", g.Order([]int{1, 2, 3}), 3, 2, 1)
	same(t, "without the middle", g.Order([]int{1, 3}), 1, 3)
	g.Set(3, only(1))
	same(t, "a ring", g.Order([]int{1, 2, 3}))
	same(t, "a ring of which one is not in the list", g.Order([]int{1, 2}), 2, 1)
}

func TestH4RingsAreLeftOut(t *testing.T) {
	g := speaking(map[int][]int{1: {2}, 2: {1}, 3: {1}, 4: {4}, 5: {4, 6}, 6: {7}, 0: {8, 3}})
	same(t, "Order", g.Order(upTo(0, 8)), 7, 6, 8)
	same(t, "one that speaks of itself", g.Order([]int{4}))
	same(t, "without what it speaks of", g.Order([]int{5, 6}), 6, 5)
}

func TestG4OrderKeepsItsList(t *testing.T) {
	g := speaking(map[int][]int{1: {2}})
	list := []int{2, none, 1, 2}
	order := g.Order(list)
	if !slices.Equal(list, []int{2, none, 1, 2}) {
		t.Error("Order changes the list that it is handed")
	}
	list[0], list[2] = 7, 7
	same(t, "Order", order, 2, 1)
}

func TestH1SetDoesNotHangOnHowTheGraphCameToBe(t *testing.T) {
	g := New()
	whole := []api.Area{area(0, 65535)}
	for range 3 {
		g.Set(9, whole)
		g.Set(9, whole)
		same(t, "whole", g.Rings(), 9)
		g.Set(9, only(8))
		same(t, "one", g.Rings())
		same(t, "one", g.Hanging(8), 8, 9)
		same(t, "one", g.Hanging(7), 7)
	}
}

func TestG1ManyAreas(t *testing.T) {
	g := New()
	g.Set(0, slices.Repeat([]api.Area{area(1*64+1, 1022*64+62), area(3, 9)}, 1000))
	same(t, "Hanging", g.Hanging(65), 0, 65)
	same(t, "Hanging", g.Hanging(10), 10)
	for cell := 65000; cell < 65536; cell++ {
		g.Set(cell, []api.Area{area(0, 65535)})
	}
	same(t, "Rings", g.Rings(), append([]int{0}, upTo(65000, 65535)...)...)
}
