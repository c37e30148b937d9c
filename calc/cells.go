package calc

import (
	"iter"
	"strings"

	"sheet/api"
	"sheet/ref"
	"sheet/value"
)

// cell is a cell that has content.
type cell struct {
	content string
	worth   api.Value
	ringed  bool // it is one of the rings (H3); that it is worth the error 6 does not tell it, as formulas can answer that, too
}

func (c *cell) isFormula() bool { return strings.HasPrefix(c.content, formulaSign) }

// formula is what stands behind the sign of one.
func (c *cell) formula() string { return strings.TrimPrefix(c.content, formulaSign) }

// row is the cells of a row; one without content is nil.
type row [api.Cols]*cell

// cells is a sheet by its rows; one without content is nil, so that empty areas are soon gone through.
type cells [api.Rows]*row

func isCell(n int) bool { return n >= 0 && n < api.Rows*api.Cols }

// at is the cell of number n; nil, if it has no content.
func (s *cells) at(n int) *cell {
	if !isCell(n) || s[n/api.Cols] == nil {
		return nil
	}
	return s[n/api.Cols][n%api.Cols]
}

// put gives the cell of number n a content. What a formula is worth is left open.
func (s *cells) put(n int, content string) {
	if content == "" {
		s.clear(n)
		return
	}
	c := &cell{content: content}
	if !c.isFormula() {
		c.worth = value.Read(content)
	}
	r := &s[n/api.Cols]
	if *r == nil {
		*r = new(row)
	}
	(*r)[n%api.Cols] = c
}

func (s *cells) clear(n int) {
	r := &s[n/api.Cols]
	if *r == nil {
		return
	}
	(*r)[n%api.Cols] = nil
	if **r == (row{}) {
		*r = nil
	}
}

// used tells the numbers of all cells with content, rising.
func (s *cells) used() []int {
	var list []int
	for n := range s.within(0, 0, api.Cols-1, api.Rows-1) {
		list = append(list, n)
	}
	return list
}

// in goes through the cells with content of an area.
func (s *cells) in(a api.Area) iter.Seq2[int, *cell] { return s.within(ref.Bounds(a)) }

// within goes through the cells with content from those first ones to those last ones, rising.
func (s *cells) within(firstCol int, firstRow int, lastCol int, lastRow int) iter.Seq2[int, *cell] {
	return func(yield func(int, *cell) bool) {
		for at := firstRow; at <= lastRow; at++ {
			if s[at] == nil {
				continue
			}
			for col := firstCol; col <= lastCol; col++ {
				if c := s[at][col]; c != nil && !yield(at*api.Cols+col, c) {
					return
				}
			}
		}
	}
}
