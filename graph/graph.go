// Package graph tells what hangs on what: see doc/06-graph.md.
package graph

import (
	"sheet/api"
	"sheet/ref"
)

const cellCount = api.Rows * api.Cols

// Graph knows of which cells each cell speaks. Make it by New.
type Graph struct {
	spoken relation[int, block] // cells, and the blocks of all cells of which they speak
}

// New makes a graph (H1).
func New() *Graph { return &Graph{spoken: newRelation[int, block]()} }

// Set lets a cell speak of areas (H1).
func (g *Graph) Set(cell int, areas []api.Area) bool {
	blocks, ok := blocksOf(areas)
	if !isCell(cell) || !ok {
		return false
	}
	g.spoken.become(cell, blocks)
	return true
}

// Hanging tells what hangs on a cell (H2).
func (g *Graph) Hanging(cell int) []int {
	if !isCell(cell) {
		return nil
	}
	found := set[int]{cell: {}}
	done := make(set[block])
	queue := []int{cell}
	for i := 0; i < len(queue); i++ {
		for b := range blocksAround(queue[i]) {
			if len(g.spoken.by[b]) == 0 || done.has(b) {
				continue
			}
			done.add(b) // who speaks of one cell of a block speaks of all
			for speaker := range g.spoken.by[b] {
				if !found.has(speaker) {
					found.add(speaker)
					queue = append(queue, speaker)
				}
			}
		}
	}
	return found.rising()
}

// Rings tells which cells come to a ring (H3): those that have no place in an order of all, since each of these speaks of one of them.
func (g *Graph) Rings() []int {
	speaking := make(set[int])
	for cell := range g.spoken.of {
		speaking.add(cell)
	}
	for _, cell := range g.Order(speaking.rising()) {
		speaking.drop(cell)
	}
	return speaking.rising()
}

// Order tells in which order cells can be worked out (H4).
func (g *Graph) Order(cells []int) []int {
	counted := make(set[int])
	for _, cell := range cells {
		if isCell(cell) {
			counted.add(cell)
		}
	}
	return newLine(g, counted).order()
}

func isCell(cell int) bool { return cell >= 0 && cell < cellCount }

// blocksOf tells the blocks of all cells of areas; false, if one is outside.
func blocksOf(areas []api.Area) (set[block], bool) {
	blocks := make(set[block])
	for _, a := range areas {
		firstCol, firstRow, lastCol, lastRow := ref.Bounds(a)
		if firstCol < 0 {
			return nil, false
		}
		cols := spans(firstCol, lastCol, api.Cols)
		for _, row := range spans(firstRow, lastRow, api.Rows) {
			for _, col := range cols {
				blocks.add(blockOf(row, col))
			}
		}
	}
	return blocks, true
}
