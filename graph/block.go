package graph

import (
	"iter"

	"sheet/api"
)

// A block is a span of rows by a span of columns. A span is the whole, a quarter of it, a quarter of that, and so on, down to a single one: so each cell is in few blocks, and each area is made of few, and neither has to be gone through cell by cell.
//
// The whole has the number 1, the quarters of the span n have those from 4n on, and single ones those from the size on (which is a power of 4).
type block int

const quarters = 4

func blockOf(rows int, cols int) block { return block(rows*2*api.Cols + cols) }

// blocksAround tells all blocks that a cell is in.
func blocksAround(cell int) iter.Seq[block] {
	return func(yield func(block) bool) {
		for rows := api.Rows + cell/api.Cols; rows > 0; rows /= quarters {
			for cols := api.Cols + cell%api.Cols; cols > 0; cols /= quarters {
				if !yield(blockOf(rows, cols)) {
					return
				}
			}
		}
	}
}

// spans tells the fewest spans that make up all from first to last, of so many.
func spans(first int, last int, size int) []int {
	var list []int
	for low, end := first+size, last+size+1; low < end; low, end = low/quarters, end/quarters {
		for ; low < end && low%quarters > 0; low++ {
			list = append(list, low)
		}
		for ; low < end && end%quarters > 0; end-- {
			list = append(list, end-1)
		}
	}
	return list
}
