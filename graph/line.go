package graph

import "container/heap"

// line is cells that wait for those of which they speak (H4).
type line struct {
	graph *Graph
	left  map[block]int // how many of those left are in a block of which any cell speaks
	waits map[int]int   // for how many blocks a cell waits: those that have some left
	ready *least
}

func newLine(g *Graph, cells set[int]) *line {
	l := &line{graph: g, left: make(map[block]int), waits: make(map[int]int, len(cells)), ready: &least{}}
	for cell := range cells {
		for b := range blocksAround(cell) {
			if len(g.spoken.by[b]) > 0 {
				l.left[b]++
			}
		}
	}
	for cell := range cells {
		for b := range g.spoken.of[cell] {
			if l.left[b] > 0 {
				l.waits[cell]++
			}
		}
		if l.waits[cell] == 0 {
			heap.Push(l.ready, cell)
		}
	}
	return l
}

// order takes the least cell that waits for none, again and again.
func (l *line) order() []int {
	var order []int
	for l.ready.Len() > 0 {
		cell := heap.Pop(l.ready).(int)
		order = append(order, cell)
		l.leave(cell)
	}
	return order
}

// leave takes a cell out of its blocks; who waited for a block waits no more when none is left in it.
func (l *line) leave(cell int) {
	for b := range blocksAround(cell) {
		if l.left[b] == 0 {
			continue
		}
		l.left[b]--
		if l.left[b] == 0 {
			l.free(b)
		}
	}
}

func (l *line) free(b block) {
	for speaker := range l.graph.spoken.by[b] {
		if _, ok := l.waits[speaker]; !ok {
			continue
		}
		l.waits[speaker]--
		if l.waits[speaker] == 0 {
			heap.Push(l.ready, speaker)
		}
	}
}

// least is a heap of cells, the least one first; its methods are for package heap.
type least []int

func (h least) Len() int { return len(h) }

func (h least) Less(i int, j int) bool { return h[i] < h[j] }

func (h least) Swap(i int, j int) { h[i], h[j] = h[j], h[i] }

func (h *least) Push(cell any) { *h = append(*h, cell.(int)) }

func (h *least) Pop() any {
	last := len(*h) - 1
	cell := (*h)[last]
	*h = (*h)[:last]
	return cell
}
