package book

import (
	"slices"

	"sheet/calc"
	"sheet/graph"
)

// put gives cells their contents, and tells what they had. A formula that hangs on several of them is worked out at each one's Set: so, where sets and formulas come to more than a quarter of all cells, these are worked out anew instead, each once.
func (b *Book) put(next []entry) []entry {
	var before []entry
	for _, x := range next {
		before = append(before, entry{x.cell, b.Content(x.cell)})
	}
	spare := len(b.Used())/4 - len(next)
	for i, x := range next {
		if i > 0 && spare < 0 {
			b.Engine = workedOut(laidOver(b.entries(), next[i:]))
			break
		}
		b.Engine.Set(x.cell, x.content)
		spare -= b.Worked()
	}
	return before
}

// workedOut makes an engine of contents. Each is set behind those of which it speaks, so that each formula is worked out once; rings, which have no order, come last.
func workedOut(list []entry) *calc.Engine {
	speaking := graph.New()
	found := make(map[int]entry)
	var cells []int
	for _, x := range list {
		speaking.Set(x.cell, x.spoken())
		found[x.cell] = x
		cells = append(cells, x.cell)
	}
	e := calc.New()
	for _, cell := range slices.Concat(speaking.Order(cells), speaking.Rings()) {
		e.Set(cell, found[cell].content)
	}
	return e
}
