// Package formula reads and writes formulas: see doc/04-formula.md.
package formula

import (
	"sheet/api"
	"sheet/ref"
)

const (
	maxText = 1000
	maxDeep = 20
)

// The kinds of Nodes (E2); those of two Kids are called by their signs.
const (
	opNum     = "num"
	opText    = "text"
	opTruth   = "truth"
	opFault   = "fault"
	opCell    = "cell"
	opArea    = "area"
	opCall    = "call"
	opNeg     = "neg"
	opPercent = "%"
)

// The kinds of values that a formula's words stand for (B1).
const (
	truthKind = 3
	faultKind = 4
)

// How the Ops without a sign of two hold their parts together: more than all that have one.
const (
	bindsNeg = 5 + iota
	bindsPercent
	bindsAtom
)

// Signs of two stand here by how they hold their parts together, those that do least first. Of signs that begin alike the longer one stands first, as the first one that fits is taken.
var levels = [bindsNeg][]string{
	{"<>", "<=", ">=", "=", "<", ">"},
	{"&"},
	{"+", "-"},
	{"*", "/"},
	{"^"},
}

// change tells what an area becomes; false, if it is lost.
type change func(a api.Area) (api.Area, bool)

// Parse tells a formula's tree (E1, E2).
func Parse(text string) (api.Node, api.Errno, int) { return read(text) }

// Print writes a formula in its plain form (E3).
func Print(text string) (string, api.Errno, int) {
	return rewritten(text, func(a api.Area) (api.Area, bool) { return a, true })
}

// Areas tells all cells of which a formula speaks (E4).
func Areas(text string) ([]api.Area, api.Errno, int) {
	tree, e, at := read(text)
	if e != api.OK {
		return nil, e, at
	}
	return withAreas(nil, tree), api.OK, 0
}

// Copied tells what a formula becomes where it is copied (E5).
func Copied(text string, cols int, rows int) (string, api.Errno, int) {
	return rewritten(text, func(a api.Area) (api.Area, bool) {
		from, okFrom := ref.Copied(a.From, cols, rows)
		to, okTo := ref.Copied(a.To, cols, rows)
		return api.Area{From: from, To: to}, okFrom && okTo
	})
}

// Moved tells what a formula becomes where rows or columns are put in or taken out (E5).
func Moved(text string, rows bool, at int, n int) (string, api.Errno, int) {
	return rewritten(text, func(a api.Area) (api.Area, bool) {
		return ref.Moved(a, rows, at, n)
	})
}

// rewritten is a formula's plain form, with what becomes of its areas.
func rewritten(text string, become change) (string, api.Errno, int) {
	tree, e, at := read(text)
	if e != api.OK {
		return "", e, at
	}
	w := writer{become: become}
	w.node(tree)
	return w.out.String(), api.OK, 0
}

// withAreas is the list with those of a tree behind it.
func withAreas(list []api.Area, n api.Node) []api.Area {
	if n.Op == opCell || n.Op == opArea {
		return append(list, n.Area)
	}
	for _, kid := range n.Kids {
		list = withAreas(list, kid)
	}
	return list
}
