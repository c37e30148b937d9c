package book

import (
	"strings"

	"sheet/api"
	"sheet/formula"
	"sheet/ref"
)

const (
	maxContent = 1001
	nameEnd    = "\t"
	lineEnd    = "\n"
)

// Save writes a book (K5).
func (b *Book) Save() string {
	var out strings.Builder
	for _, x := range b.entries() {
		out.WriteString(x.line())
	}
	return out.String()
}

// Load reads a book (K5).
func Load(text string) (*Book, api.Errno, int) {
	var list []entry
	last, at := -1, 0
	for line := range strings.Lines(text) {
		x := told(line)
		if x.cell <= last || x.line() != line || !isContent(x.content) {
			return nil, api.ErrData, at
		}
		list = append(list, x)
		last = x.cell
		at += len(line)
	}
	return &Book{Engine: workedOut(list)}, api.OK, 0
}

// line is how an entry is written.
func (x entry) line() string {
	return ref.Print(x.area().From) + nameEnd + escaped(x.content) + lineEnd
}

// told is the only entry that can be written as line; whether it is, its own line tells.
func told(line string) entry {
	name, rest, _ := strings.Cut(line, nameEnd)
	place, _ := ref.Parse(name)
	return entry{numberOf(place), unescaped(strings.TrimSuffix(rest, lineEnd))}
}

func escaped(content string) string {
	return strings.ReplaceAll(strings.ReplaceAll(content, `\`, `\\`), lineEnd, `\n`)
}

// unescaped parts the text at each `\\` first, as the second half of one and an `n` behind it are no byte 10.
func unescaped(text string) string {
	parts := strings.Split(text, `\\`)
	for i, part := range parts {
		parts[i] = strings.ReplaceAll(part, `\n`, lineEnd)
	}
	return strings.Join(parts, `\`)
}

// isContent tells whether a cell can have that content (J2).
func isContent(content string) bool {
	text, isFormula := strings.CutPrefix(content, formulaSign)
	if !isFormula {
		return content != "" && len(content) <= maxContent
	}
	plain, fault, _ := formula.Print(text)
	return fault == api.OK && plain == text
}
