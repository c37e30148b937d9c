package eval

import (
	"iter"
	"slices"
	"strings"

	"sheet/api"
	"sheet/num"
	"sheet/ref"
	"sheet/value"
)

// valuesOf goes through the values of an area's cells, row by row.
func (w *worker) valuesOf(a api.Area) iter.Seq[api.Value] {
	firstCol, firstRow, lastCol, lastRow := ref.Bounds(a)
	return func(yield func(v api.Value) bool) {
		for row := firstRow; row <= lastRow; row++ {
			for col := firstCol; col <= lastCol; col++ {
				if !yield(w.cells[place{col, row}]) {
					return
				}
			}
		}
	}
}

// brought goes through the values that the arguments bring, each with whether it is a cell's (F4).
func (c call) brought() iter.Seq2[api.Value, bool] {
	return func(yield func(v api.Value, ofCell bool) bool) {
		for _, arg := range c.args {
			if !hasArea(arg) {
				if !yield(c.worth(arg), false) {
					return
				}
				continue
			}
			for v := range c.valuesOf(arg.Area) {
				if !yield(v, true) {
					return
				}
			}
		}
	}
}

// counting goes through what the arguments bring, less what cells bring that are of none of the kinds. Errors are of all kinds: they come, to end the call.
func (c call) counting(kinds ...int) iter.Seq[api.Value] {
	return func(yield func(v api.Value) bool) {
		for v, ofCell := range c.brought() {
			if ofCell && v.Kind != fault && !slices.Contains(kinds, v.Kind) {
				continue
			}
			if !yield(v) {
				return
			}
		}
	}
}

func (c call) numbers() iter.Seq[int] {
	return func(yield func(n int) bool) {
		for v := range c.counting(number) {
			if !yield(sure(value.Number(v))) {
				return
			}
		}
	}
}

func (c call) truths() iter.Seq[bool] {
	return func(yield func(is bool) bool) {
		for v := range c.counting(number, truth) {
			if !yield(sure(value.Truth(v))) {
				return
			}
		}
	}
}

func sum(c call) api.Value {
	total := 0
	for n := range c.numbers() {
		total = told(num.Add(total, n))
	}
	return numberValue(total)
}

func count(c call) api.Value {
	many := 0
	for range c.numbers() {
		many++
	}
	return wholeValue(many)
}

func average(c call) api.Value {
	total, many := 0, 0
	for n := range c.numbers() {
		total = told(num.Add(total, n))
		many++
	}
	return numberValue(told(num.Div(total, many*one)))
}

// foremost makes a function that tells the number which comes ahead of all others, 0 if there is none.
func foremost(ahead func(n int, best int) bool) function {
	return func(c call) api.Value {
		best, found := 0, false
		for n := range c.numbers() {
			if !found || ahead(n, best) {
				best, found = n, true
			}
		}
		return numberValue(best)
	}
}

func all(c call) api.Value {
	met, trues := c.countTruths()
	return truthValue(trues == met)
}

func some(c call) api.Value {
	_, trues := c.countTruths()
	return truthValue(trues > 0)
}

// countTruths tells how many truths there are, and how many of them are true. It goes through all, even where one settles the matter, as an error may stand behind that.
func (c call) countTruths() (met int, trues int) {
	for is := range c.truths() {
		met++
		if is {
			trues++
		}
	}
	if met == 0 {
		panic(failure(api.Wrong))
	}
	return met, trues
}

func concat(c call) api.Value {
	var joined strings.Builder
	for v := range c.brought() {
		s := sure(value.Text(v))
		// What is too long already is not made longer; but an error may still come.
		if joined.Len() <= maxText {
			joined.WriteString(s)
		}
	}
	return textValue(joined.String())
}
