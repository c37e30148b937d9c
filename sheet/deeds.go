package sheet

import (
	"strconv"
	"strings"

	"sheet/api"
	"sheet/book"
	"sheet/value"
)

const (
	blank    = " "
	maxWords = 3
)

// deed is what a line asks for: done to a book it answers.
type deed func(b *book.Book) string

// maker makes a deed of the words behind a line's first one; nil, if they are of another form.
type maker func(words []string) deed

// makers are found by the first words of lines.
func makers() map[string]maker {
	return map[string]maker{
		"SET":   setting,
		"CLEAR": ofCell(cleared),
		"GET":   ofCell((*book.Book).Content),
		"SHOW":  ofCell(shown),
		"COPY":  copying,
		"ROWS":  shifting(true),
		"COLS":  shifting(false),
		"UNDO":  alone(trying((*book.Book).Undo)),
		"REDO":  alone(trying((*book.Book).Redo)),
		"DUMP":  alone((*book.Book).Save),
	}
}

// deedOf reads a line. It is parted no further than the longest form is: a content may have blanks in it, and another last word that has some is refused by its maker.
func deedOf(line string, known map[string]maker) deed {
	words := strings.SplitN(line, blank, maxWords)
	if made := known[words[0]]; made != nil {
		if does := made(words[1:]); does != nil {
			return does
		}
	}
	return func(*book.Book) string { return told(api.ErrForm) }
}

// told is how what became of a call is answered.
func told(fault api.Errno) string {
	if fault == api.OK {
		return "OK"
	}
	return "ERR " + strconv.Itoa(int(fault))
}

// setting is the maker for a cell and a content.
func setting(words []string) deed {
	if len(words) != 2 {
		return nil
	}
	cell, ok := cellOf(words[0])
	if !ok {
		return nil
	}
	return func(b *book.Book) string {
		fault, at := b.Set(cell, words[1])
		if at == 0 { // no error of a formula, as these stand behind the `=`
			return told(fault)
		}
		return told(fault) + blank + strconv.Itoa(at)
	}
}

// copying is the maker for an area and a cell.
func copying(words []string) deed {
	if len(words) != 2 {
		return nil
	}
	area, okArea := areaOf(words[0])
	cell, okCell := cellOf(words[1])
	if !okArea || !okCell {
		return nil
	}
	return trying(func(b *book.Book) api.Errno { return b.Copy(area, cell) })
}

// shifting makes the maker for two numbers, of rows or of columns.
func shifting(rows bool) maker {
	return func(words []string) deed {
		if len(words) != 2 {
			return nil
		}
		at, okAt := numberOf(words[0])
		n, okN := numberOf(words[1])
		if !okAt || !okN {
			return nil
		}
		return trying(func(b *book.Book) api.Errno { return b.Shift(rows, at, n) })
	}
}

// ofCell makes the maker for a cell, of which a book is asked.
func ofCell(does func(*book.Book, int) string) maker {
	return func(words []string) deed {
		if len(words) != 1 {
			return nil
		}
		cell, ok := cellOf(words[0])
		if !ok {
			return nil
		}
		return func(b *book.Book) string { return does(b, cell) }
	}
}

// alone makes the maker for no words.
func alone(does deed) maker {
	return func(words []string) deed {
		if len(words) != 0 {
			return nil
		}
		return does
	}
}

// trying makes the deed that answers what became of a call.
func trying(call func(*book.Book) api.Errno) deed {
	return func(b *book.Book) string { return told(call(b)) }
}

func cleared(b *book.Book, cell int) string {
	fault, _ := b.Set(cell, "")
	return told(fault)
}

func shown(b *book.Book, cell int) string { return value.Show(b.Value(cell)) }
