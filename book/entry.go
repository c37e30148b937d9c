package book

import (
	"cmp"
	"slices"
	"strings"

	"sheet/api"
	"sheet/formula"
)

const (
	maxFormula  = 1000
	formulaSign = "="
)

// entry is a cell and what it has; an empty content is one, too.
type entry struct {
	cell    int
	content string
}

// area is the entry's cell alone.
func (x entry) area() api.Area {
	place := api.Ref{Col: x.cell % api.Cols, Row: x.cell / api.Cols}
	return api.Area{From: place, To: place}
}

// spoken tells the areas of which the entry speaks.
func (x entry) spoken() []api.Area {
	text, isFormula := strings.CutPrefix(x.content, formulaSign)
	if !isFormula {
		return nil
	}
	areas, _, _ := formula.Areas(text)
	return areas
}

func isCell(n int) bool { return n >= 0 && n < api.Rows*api.Cols }

func numberOf(place api.Ref) int { return place.Row*api.Cols + place.Col }

// entries tells all that the book's cells have, rising.
func (b *Book) entries() []entry {
	var list []entry
	for _, cell := range b.Used() {
		list = append(list, entry{cell, b.Content(cell)})
	}
	return list
}

// laidOver tells what cells have where top lies over base: base's entries count where top has none.
func laidOver(base []entry, top []entry) []entry {
	list := slices.Concat(top, base)
	slices.SortStableFunc(list, func(x entry, y entry) int { return cmp.Compare(x.cell, y.cell) })
	return slices.CompactFunc(list, func(x entry, y entry) bool { return x.cell == y.cell })
}

// rewritten tells a content whose formula, if it is one, becomes another one; ErrLong, if that is too long.
func rewritten(content string, become func(string) (string, api.Errno, int)) (string, api.Errno) {
	text, isFormula := strings.CutPrefix(content, formulaSign)
	if !isFormula {
		return content, api.OK
	}
	other, fault, _ := become(text)
	if len(other) > maxFormula {
		return "", api.ErrLong
	}
	return formulaSign + other, fault
}
