// Package book changes cells, and back again: see doc/08-book.md.
package book

import (
	"sheet/api"
	"sheet/calc"
	"sheet/formula"
	"sheet/ref"
)

const maxShift = 1024

// Book is cells, and their changes: what cells have and are worth its engine tells. Make it by New or Load.
type Book struct {
	*calc.Engine
	done   history // changes that can be undone
	undone history // changes that can be made again
}

// New makes a book (K1).
func New() *Book { return &Book{Engine: calc.New()} }

// Set puts content into a cell (K1).
func (b *Book) Set(cell int, content string) (api.Errno, int) {
	before := b.Content(cell)
	if fault, at := b.Engine.Set(cell, content); fault != api.OK {
		return fault, at
	}
	b.changed([]entry{{cell, before}})
	return api.OK, 0
}

// Copy copies cells (K2).
func (b *Book) Copy(area api.Area, cell int) api.Errno {
	firstCol, firstRow, lastCol, lastRow := ref.Bounds(area)
	if firstCol < 0 || !isCell(cell) {
		return api.ErrPlace
	}
	cols, rows := cell%api.Cols-firstCol, cell/api.Cols-firstRow
	if lastCol+cols >= api.Cols || lastRow+rows >= api.Rows {
		return api.ErrPlace
	}
	copied := func(text string) (string, api.Errno, int) { return formula.Copied(text, cols, rows) }
	var next []entry
	for row := firstRow; row <= lastRow; row++ {
		for col := firstCol; col <= lastCol; col++ {
			content, fault := rewritten(b.Content(row*api.Cols+col), copied)
			if fault != api.OK {
				return fault
			}
			next = append(next, entry{(row+rows)*api.Cols + col + cols, content})
		}
	}
	b.change(next)
	return api.OK
}

// Shift puts rows or columns in, or takes them out (K3).
func (b *Book) Shift(rows bool, at int, n int) api.Errno {
	if at < 0 || rows && at >= api.Rows || !rows && at >= api.Cols {
		return api.ErrPlace
	}
	if n < -maxShift || n > maxShift {
		return api.ErrRange
	}
	moved := func(text string) (string, api.Errno, int) { return formula.Moved(text, rows, at, n) }
	var emptied, next []entry
	for _, x := range b.entries() {
		emptied = append(emptied, entry{cell: x.cell})
		place, left := ref.Moved(x.area(), rows, at, n)
		if !left {
			continue
		}
		content, fault := rewritten(x.content, moved)
		if fault != api.OK {
			return fault
		}
		next = append(next, entry{numberOf(place.From), content})
	}
	b.change(laidOver(emptied, next))
	return api.OK
}

// Undo takes a change back (K4).
func (b *Book) Undo() api.Errno { return b.step(&b.done, &b.undone) }

// Redo makes a change again that was taken back (K4).
func (b *Book) Redo() api.Errno { return b.step(&b.undone, &b.done) }
