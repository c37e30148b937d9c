// Package sheet answers lines: see doc/09-sheet.md.
package sheet

import "sheet/api"

// Run answers a script's lines (M1).
func Run(lines []string) []string { return nil }

// RunAll answers scripts by several goroutines (M2).
func RunAll(scripts [][]string, workers int) ([][]string, api.Errno) { return nil, api.OK }
