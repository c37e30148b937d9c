package calc

import (
	"sheet/api"
	"sheet/eval"
	"sheet/formula"
	"sheet/ref"
)

const faultKind = 4 // the Kind of errors (B1)

// workOut works out the formulas that hang on a cell. Rings come and go among these alone: so each counts as one of the rings until its turn comes, which never does in a ring.
func (e *Engine) workOut(changed int) {
	var waiting []int
	for _, n := range e.graph.Hanging(changed) {
		if c := e.cells.at(n); c != nil && c.isFormula() {
			c.ringed, c.worth = true, api.Value{Kind: faultKind, Num: api.Cycle}
			waiting = append(waiting, n)
		}
	}
	for _, n := range e.graph.Order(waiting) {
		e.turn(e.cells.at(n))
	}
}

// turn works a formula out, unless it speaks of one of the rings elsewhere: then it stays one.
func (e *Engine) turn(c *cell) {
	spoken, ok := e.spoken(c.formula())
	if !ok {
		return
	}
	c.ringed = false
	c.worth, _, _ = eval.Eval(c.formula(), spoken)
	e.worked++
}

// spoken tells the cells of which a formula speaks, each once; false, if one of these is one of the rings.
func (e *Engine) spoken(text string) ([]api.Cell, bool) {
	var list []api.Cell
	areas, _, _ := formula.Areas(text)
	for i, a := range areas {
		for n, c := range e.cells.in(a) {
			if c.ringed {
				return nil, false
			}
			if !isIn(areas[:i], n) {
				list = append(list, api.Cell{Col: n % api.Cols, Row: n / api.Cols, Value: c.worth})
			}
		}
	}
	return list, true
}

// isIn tells whether the cell of number n is in one of areas.
func isIn(areas []api.Area, n int) bool {
	col, row := n%api.Cols, n/api.Cols
	for _, a := range areas {
		firstCol, firstRow, lastCol, lastRow := ref.Bounds(a)
		if firstCol <= col && col <= lastCol && firstRow <= row && row <= lastRow {
			return true
		}
	}
	return false
}
