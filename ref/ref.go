// Package ref tells cells and areas: see doc/03-ref.md.
package ref

import (
	"strconv"
	"strings"

	"sheet/api"
)

const (
	letters = 26

	maxMoved = 1024 // how many rows or columns are put in or taken out at most
)

// Parse reads a cell's name (D2).
func Parse(s string) (api.Ref, bool) {
	var r api.Ref
	s, r.FixCol = strings.CutPrefix(s, "$")
	end := 0
	for end < len(s) && isLetter(s[end]) {
		end++
	}
	column, s := s[:end], s[end:]
	s, r.FixRow = strings.CutPrefix(s, "$")
	var okCol, okRow bool
	r.Col, okCol = readColumn(column)
	r.Row, okRow = readRow(s)
	if !okCol || !okRow {
		return api.Ref{}, false
	}
	return r, true
}

// Print writes a cell's name (D2).
func Print(r api.Ref) string {
	if outside(r) {
		return ""
	}
	return fixSign(r.FixCol) + columnName(r.Col) + fixSign(r.FixRow) + strconv.Itoa(r.Row+1)
}

// Bounds tells an area's first column and row, and its last ones (D3).
func Bounds(a api.Area) (int, int, int, int) {
	if outside(a.From) || outside(a.To) {
		return -1, -1, -1, -1
	}
	firstCol, lastCol := ends(&a, false)
	firstRow, lastRow := ends(&a, true)
	return *firstCol, *firstRow, *lastCol, *lastRow
}

// Copied tells what a cell's name becomes where a formula is copied (D4).
func Copied(r api.Ref, cols int, rows int) (api.Ref, bool) {
	if outside(r) {
		return api.Ref{}, false
	}
	// A sum that is no int comes round below 0, which is outside, too.
	if !r.FixCol {
		*part(&r, false) += cols
	}
	if !r.FixRow {
		*part(&r, true) += rows
	}
	if outside(r) {
		return api.Ref{}, false
	}
	return r, true
}

// Moved tells what an area becomes where rows or columns are put in or taken out (D5).
func Moved(a api.Area, rows bool, at int, n int) (api.Area, bool) {
	size := sizeOf(rows)
	if outside(a.From) || outside(a.To) || at < 0 || at >= size || n < -maxMoved || n > maxMoved {
		return api.Area{}, false
	}
	low, high := ends(&a, rows)
	var left bool
	if n > 0 {
		left = putIn(low, high, at, n, size)
	} else {
		left = takeOut(low, high, at, -n)
	}
	if !left {
		return api.Area{}, false
	}
	return a, true
}

// putIn tells whether the area is left.
func putIn(low *int, high *int, at int, n int, size int) bool {
	for _, p := range []*int{low, high} {
		if *p >= at {
			*p += n
		}
	}
	*high = min(*high, size-1)
	return *low < size
}

// takeOut tells whether the area is left.
func takeOut(low *int, high *int, at int, n int) bool {
	if *low >= at+n {
		*low -= n
	} else if *low >= at {
		*low = at
	}
	if *high >= at+n {
		*high -= n
	} else if *high >= at {
		*high = at - 1
	}
	return *low <= *high
}

// part is the one of a cell's two numbers that is meant.
func part(r *api.Ref, rows bool) *int {
	if rows {
		return &r.Row
	}
	return &r.Col
}

// ends is the lesser and the greater one of those numbers of an area; From's is the lesser one, if they are equal.
func ends(a *api.Area, rows bool) (low *int, high *int) {
	from, to := part(&a.From, rows), part(&a.To, rows)
	if *to < *from {
		return to, from
	}
	return from, to
}

func sizeOf(rows bool) int {
	if rows {
		return api.Rows
	}
	return api.Cols
}

func outside(r api.Ref) bool {
	return r.Col < 0 || r.Col >= api.Cols || r.Row < 0 || r.Row >= api.Rows
}

func fixSign(fixed bool) string {
	if fixed {
		return "$"
	}
	return ""
}

func columnName(col int) string {
	last := string(rune('A' + col%letters))
	if col < letters {
		return last
	}
	return string(rune('A'+col/letters-1)) + last
}

func readColumn(name string) (int, bool) {
	if len(name) < 1 || len(name) > 2 {
		return 0, false
	}
	n := 0
	for i := range len(name) {
		n = n*letters + letterNumber(name[i])
	}
	return n - 1, n <= api.Cols
}

func readRow(digits string) (int, bool) {
	if digits == "" || digits[0] == '0' {
		return 0, false
	}
	n := 0
	for i := range len(digits) {
		if digits[i] < '0' || digits[i] > '9' {
			return 0, false
		}
		n = n*10 + int(digits[i]-'0')
		if n > api.Rows { // a longer text must not go round the int
			return 0, false
		}
	}
	return n - 1, true
}

func isLetter(c byte) bool {
	return 'A' <= c && c <= 'Z' || 'a' <= c && c <= 'z'
}

// letterNumber is 1 of A and a, 26 of Z and z.
func letterNumber(c byte) int {
	if c >= 'a' {
		return int(c-'a') + 1
	}
	return int(c-'A') + 1
}
