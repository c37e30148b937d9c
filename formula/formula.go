// Package formula reads and writes formulas: see doc/04-formula.md.
package formula

import "sheet/api"

// Parse tells a formula's tree (E1, E2).
func Parse(text string) (api.Node, api.Errno, int) { return api.Node{}, api.OK, 0 }

// Print writes a formula in its plain form (E3).
func Print(text string) (string, api.Errno, int) { return "", api.OK, 0 }

// Areas tells all cells of which a formula speaks (E4).
func Areas(text string) ([]api.Area, api.Errno, int) { return nil, api.OK, 0 }

// Copied tells what a formula becomes where it is copied (E5).
func Copied(text string, cols int, rows int) (string, api.Errno, int) { return "", api.OK, 0 }

// Moved tells what a formula becomes where rows or columns are put in or taken out (E5).
func Moved(text string, rows bool, at int, n int) (string, api.Errno, int) { return "", api.OK, 0 }
