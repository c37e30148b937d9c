package eval

import (
	"sheet/api"
	"sheet/ref"
	"sheet/value"
)

// In all of these the area is asked for first: if there is none, that is the call's error, whatever the other arguments are (F6).

func rows(c call) api.Value {
	many, _ := size(c.area(0))
	return wholeValue(many)
}

func columns(c call) api.Value {
	_, many := size(c.area(0))
	return wholeValue(many)
}

func index(c call) api.Value {
	area := c.area(0)
	row, col := c.whole(1), c.whole(2)
	rows, cols := size(area)
	if row < 1 || row > rows || col < 1 || col > cols {
		panic(failure(api.Lost))
	}
	firstCol, firstRow, _, _ := ref.Bounds(area)
	return c.cells[place{firstCol + col - 1, firstRow + row - 1}]
}

func match(c call) api.Value {
	area := c.area(1)
	wanted := c.sound(0)
	rows, cols := size(area)
	if rows > 1 && cols > 1 {
		panic(failure(api.None))
	}
	at := 0
	for v := range c.valuesOf(area) {
		at++
		if isSame(v, wanted) {
			return wholeValue(at)
		}
	}
	panic(failure(api.None))
}

func countEqual(c call) api.Value {
	area := c.area(0)
	wanted := c.sound(1)
	many := 0
	for v := range c.valuesOf(area) {
		if isSame(v, wanted) {
			many++
		}
	}
	return wholeValue(many)
}

// isSame tells whether a cell's value is what is wanted, which is no error: so a cell's error is never the same.
func isSame(v api.Value, wanted api.Value) bool {
	return v.Kind == wanted.Kind && value.Order(v, wanted) == 0
}

// size tells how many rows and columns an area has.
func size(a api.Area) (rows int, cols int) {
	firstCol, firstRow, lastCol, lastRow := ref.Bounds(a)
	return lastRow - firstRow + 1, lastCol - firstCol + 1
}
