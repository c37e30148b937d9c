// Package sheet answers lines: see doc/09-sheet.md.
package sheet

import (
	"sheet/api"
	"sheet/book"
)

const maxWorkers = 16

// Run answers a script's lines (M1).
func Run(lines []string) []string {
	b := book.New()
	known := makers()
	var answers []string
	for _, line := range lines {
		answers = append(answers, deedOf(line, known)(b))
	}
	return answers
}

// RunAll answers scripts by several goroutines (M2).
func RunAll(scripts [][]string, workers int) ([][]string, api.Errno) {
	if workers < 1 || workers > maxWorkers {
		return nil, api.ErrRange
	}
	c := newCrew(scripts, workers)
	for range workers {
		go c.work()
	}
	return c.wait(), api.OK
}
