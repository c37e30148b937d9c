// Package eval tells what a formula is worth: see doc/05-eval.md.
package eval

import "sheet/api"

// Eval works a formula out over cells (F1).
func Eval(text string, cells []api.Cell) (api.Value, api.Errno, int) { return api.Value{}, api.OK, 0 }
