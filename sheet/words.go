package sheet

import (
	"strconv"
	"strings"

	"sheet/api"
	"sheet/ref"
)

const (
	maxDigits = 9
	digits    = "0123456789"
)

// cellOf is the number of the cell that a word names.
func cellOf(word string) (int, bool) {
	place, ok := ref.Parse(word)
	return place.Row*api.Cols + place.Col, ok
}

// areaOf is the area that a word tells by two cells.
func areaOf(word string) (api.Area, bool) {
	first, second, _ := strings.Cut(word, ":")
	from, okFrom := ref.Parse(first)
	to, okTo := ref.Parse(second)
	return api.Area{From: from, To: to}, okFrom && okTo
}

// numberOf is the number that a word tells.
func numberOf(word string) (int, bool) {
	size := strings.TrimPrefix(word, "-")
	if len(size) > maxDigits || strings.Trim(size, digits) != "" {
		return 0, false
	}
	n, err := strconv.Atoi(word)
	return n, err == nil
}
