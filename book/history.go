package book

import (
	"slices"

	"sheet/api"
)

// history is changes, the nearest one last. Each is kept as what its cells have on the other side of it.
type history [][]entry

func (h *history) push(other []entry) { *h = append(*h, other) }

// pop takes the nearest change out; false, if there is none.
func (h *history) pop() ([]entry, bool) {
	last := len(*h) - 1
	if last < 0 {
		return nil, false
	}
	other := (*h)[last]
	*h = slices.Delete(*h, last, last+1)
	return other, true
}

// change makes a change; entries that cells have already are no part of it.
func (b *Book) change(next []entry) {
	b.changed(b.put(slices.DeleteFunc(next, func(x entry) bool { return b.Content(x.cell) == x.content })))
}

// changed keeps what a change's cells had. What was undone ahead of it cannot be made again.
func (b *Book) changed(before []entry) {
	b.done.push(before)
	b.undone = nil
}

// step goes over the nearest change of one history, which is the other one's nearest then.
func (b *Book) step(from *history, to *history) api.Errno {
	next, ok := from.pop()
	if !ok {
		return api.ErrNone
	}
	to.push(b.put(next))
	return api.OK
}
