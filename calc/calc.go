// Package calc works cells out: see doc/07-calc.md.
package calc

import (
	"strings"

	"sheet/api"
	"sheet/formula"
	"sheet/graph"
)

const (
	maxContent  = 1001
	formulaSign = "="
)

// Engine is cells with contents and values. Make it by New.
type Engine struct {
	cells  cells
	graph  *graph.Graph
	worked int
}

// New makes an engine (J1).
func New() *Engine { return &Engine{graph: graph.New()} }

// Set puts content into a cell (J1).
func (e *Engine) Set(cell int, content string) (api.Errno, int) {
	e.worked = 0
	if !isCell(cell) {
		return api.ErrPlace, 0
	}
	if len(content) > maxContent {
		return api.ErrLong, 0
	}
	kept, areas, fault, at := read(content)
	if fault != api.OK {
		return fault, at
	}
	e.cells.put(cell, kept)
	e.graph.Set(cell, areas)
	e.workOut(cell)
	return api.OK, 0
}

// Content tells a cell's content (J2).
func (e *Engine) Content(cell int) string {
	if c := e.cells.at(cell); c != nil {
		return c.content
	}
	return ""
}

// Value tells what a cell is worth (J3).
func (e *Engine) Value(cell int) api.Value {
	if c := e.cells.at(cell); c != nil {
		return c.worth
	}
	return api.Value{}
}

// Used tells which cells have content (J2).
func (e *Engine) Used() []int { return e.cells.used() }

// Worked tells how often formulas were worked out by the last Set (J4).
func (e *Engine) Worked() int { return e.worked }

// read tells a content as it is kept, and of which areas it speaks.
func read(content string) (string, []api.Area, api.Errno, int) {
	text, isFormula := strings.CutPrefix(content, formulaSign)
	if !isFormula {
		return content, nil, api.OK, 0
	}
	plain, fault, at := formula.Print(text)
	if fault != api.OK {
		return "", nil, fault, len(formulaSign) + at
	}
	areas, _, _ := formula.Areas(text)
	return formulaSign + plain, areas, api.OK, 0
}
