// Package calc works cells out: see doc/07-calc.md.
package calc

import "sheet/api"

// Engine is cells with contents and values. Make it by New.
type Engine struct{}

// New makes an engine (J1).
func New() *Engine { return &Engine{} }

// Set puts content into a cell (J1).
func (e *Engine) Set(cell int, content string) (api.Errno, int) { return api.OK, 0 }

// Content tells a cell's content (J2).
func (e *Engine) Content(cell int) string { return "" }

// Value tells what a cell is worth (J3).
func (e *Engine) Value(cell int) api.Value { return api.Value{} }

// Used tells which cells have content (J2).
func (e *Engine) Used() []int { return nil }

// Worked tells how often formulas were worked out by the last Set (J4).
func (e *Engine) Worked() int { return 0 }
