// Package book changes cells, and back again: see doc/08-book.md.
package book

import "sheet/api"

// Book is cells, and their changes. Make it by New or Load.
type Book struct{}

// New makes a book (K1).
func New() *Book { return &Book{} }

// Load reads a book (K5).
func Load(text string) (*Book, api.Errno, int) { return nil, api.OK, 0 }

// Set puts content into a cell (K1).
func (b *Book) Set(cell int, content string) (api.Errno, int) { return api.OK, 0 }

// Copy copies cells (K2).
func (b *Book) Copy(area api.Area, cell int) api.Errno { return api.OK }

// Shift puts rows or columns in, or takes them out (K3).
func (b *Book) Shift(rows bool, at int, n int) api.Errno { return api.OK }

// Undo takes a change back (K4).
func (b *Book) Undo() api.Errno { return api.OK }

// Redo makes a change again that was taken back (K4).
func (b *Book) Redo() api.Errno { return api.OK }

// Content tells a cell's content (K1).
func (b *Book) Content(cell int) string { return "" }

// Value tells what a cell is worth (K1).
func (b *Book) Value(cell int) api.Value { return api.Value{} }

// Used tells which cells have content (K1).
func (b *Book) Used() []int { return nil }

// Save writes a book (K5).
func (b *Book) Save() string { return "" }
