package formula

import (
	"strings"

	"sheet/api"
	"sheet/num"
	"sheet/ref"
	"sheet/value"
)

// refusal ends the reading of a text that is no formula: it goes up as a panic, and read answers it.
type refusal struct {
	errno api.Errno
	at    int
}

// use is a function's use in a formula. Its arguments are held against takes when all is read, since other errors come first.
type use struct {
	name  string
	at    int
	count int
}

// reader reads a formula from the left on.
type reader struct {
	text string
	at   int   // how far it has come
	open int   // how many brackets are open
	uses []use // as their names stand in the text
}

// read tells a formula's tree, or what is wrong with it.
func read(text string) (tree api.Node, e api.Errno, at int) {
	if len(text) > maxText {
		return api.Node{}, api.ErrLong, 0
	}
	defer func() {
		if stop := recover(); stop != nil {
			refused, ok := stop.(refusal)
			if !ok {
				panic(stop)
			}
			tree, e, at = api.Node{}, refused.errno, refused.at
		}
	}()
	r := reader{text: text}
	tree = r.formula()
	if r.next(); r.at < len(text) {
		panic(r.misplaced())
	}
	r.countArguments()
	return tree, api.OK, 0
}

func (r *reader) formula() api.Node { return r.level(0) }

// level reads what the signs of a level, and of those that bind more, hold together.
func (r *reader) level(n int) api.Node {
	if n == len(levels) {
		return r.signed()
	}
	left := r.level(n + 1)
	for {
		sign := r.signOf(n)
		if sign == "" {
			return left
		}
		right := r.level(n + 1)
		left = api.Node{Op: sign, Kids: []api.Node{left, right}}
	}
}

// signOf takes the sign of a level that stands next; it is empty, if none does.
func (r *reader) signOf(level int) string {
	for _, sign := range levels[level] {
		if r.take(sign) {
			return sign
		}
	}
	return ""
}

func (r *reader) signed() api.Node {
	if r.take("-") {
		return api.Node{Op: opNeg, Kids: []api.Node{r.signed()}}
	}
	node := r.atom()
	for r.take("%") {
		node = api.Node{Op: opPercent, Kids: []api.Node{node}}
	}
	return node
}

func (r *reader) atom() api.Node {
	c := r.next()
	switch {
	case isDigit(c):
		return r.number()
	case c == '"':
		return r.quoted()
	case c == '#':
		return r.fault()
	case beginsWord(c):
		return r.named()
	case c == '(':
		return r.bracketed()
	}
	panic(r.misplaced())
}

func (r *reader) number() api.Node {
	from := r.at
	r.pass(isDigit)
	if rest := r.text[r.at:]; len(rest) > 1 && rest[0] == '.' && isDigit(rest[1]) {
		r.at++
		r.pass(isDigit)
	}
	n, ok := num.Parse(r.text[from:r.at])
	if !ok {
		panic(refusal{api.ErrRange, from})
	}
	return api.Node{Op: opNum, Num: n}
}

func (r *reader) quoted() api.Node {
	var parts []string
	rest := r.text[r.at+1:]
	for {
		part, behind, closed := strings.Cut(rest, `"`)
		if !closed {
			panic(refusal{api.ErrForm, len(r.text)})
		}
		parts = append(parts, part)
		again := strings.HasPrefix(behind, `"`)
		if !again {
			r.at = len(r.text) - len(behind)
			return api.Node{Op: opText, Text: strings.Join(parts, `"`)}
		}
		rest = behind[1:]
	}
}

func (r *reader) fault() api.Node {
	for n := api.Div; n <= api.Cycle; n++ {
		if r.take(value.Show(api.Value{Kind: faultKind, Num: n})) {
			return api.Node{Op: opFault, Num: n}
		}
	}
	panic(r.misplaced())
}

// named reads what begins with a word.
func (r *reader) named() api.Node {
	from := r.at
	word := r.word()
	if r.next() == '(' {
		return r.call(word, from)
	}
	if v := value.Read(word); v.Kind == truthKind {
		return api.Node{Op: opTruth, Num: v.Num}
	}
	cell, ok := ref.Parse(word)
	if !ok {
		panic(refusal{api.ErrForm, from})
	}
	if !r.take(":") {
		return api.Node{Op: opCell, Area: api.Area{From: cell, To: cell}}
	}
	return api.Node{Op: opArea, Area: api.Area{From: cell, To: r.cell()}}
}

// cell reads a cell where nothing else can stand.
func (r *reader) cell() api.Ref {
	r.next()
	from := r.at
	cell, ok := ref.Parse(r.word()) // no word is no cell either
	isName := r.next() == '('
	if !ok || isName {
		panic(refusal{api.ErrForm, from})
	}
	return cell
}

func (r *reader) call(word string, at int) api.Node {
	name := strings.ToUpper(word)
	if _, ok := takes[name]; !ok {
		panic(refusal{api.ErrName, at})
	}
	own := len(r.uses)
	r.uses = append(r.uses, use{name: name, at: at})
	var kids []api.Node
	r.inBrackets(func() { kids = r.arguments() })
	r.uses[own].count = len(kids)
	return api.Node{Op: opCall, Text: name, Kids: kids}
}

func (r *reader) arguments() []api.Node {
	if r.next() == ')' {
		return nil
	}
	kids := []api.Node{r.formula()}
	for r.take(",") {
		kids = append(kids, r.formula())
	}
	return kids
}

func (r *reader) bracketed() api.Node {
	var node api.Node
	r.inBrackets(func() { node = r.formula() })
	return node
}

// inBrackets reads brackets, the first of which stands next, and by inner what is in them.
func (r *reader) inBrackets(inner func()) {
	if r.open == maxDeep {
		panic(refusal{api.ErrDeep, r.at})
	}
	r.at++
	r.open++
	defer func() { r.open-- }()
	inner()
	if !r.take(")") {
		panic(r.misplaced())
	}
}

// countArguments refuses the first use of a function with too few arguments, or too many.
func (r *reader) countArguments() {
	for _, u := range r.uses {
		if bounds := takes[u.name]; u.count < bounds[0] || u.count > bounds[1] {
			panic(refusal{api.ErrArgs, u.at})
		}
	}
}

// next goes to the next sign and tells its first byte; 0 at the end, as no sign begins with that.
func (r *reader) next() byte {
	for r.at < len(r.text) && r.text[r.at] == ' ' {
		r.at++
	}
	if r.at == len(r.text) {
		return 0
	}
	return r.text[r.at]
}

// take goes behind the sign, if that stands next.
func (r *reader) take(sign string) bool {
	r.next()
	if !strings.HasPrefix(r.text[r.at:], sign) {
		return false
	}
	r.at += len(sign)
	return true
}

// word takes all bytes of words that stand here; it is empty, if none does.
func (r *reader) word() string {
	from := r.at
	r.pass(isOfWord)
	return r.text[from:r.at]
}

// pass goes behind all bytes that are such.
func (r *reader) pass(isSuch func(c byte) bool) {
	for r.at < len(r.text) && isSuch(r.text[r.at]) {
		r.at++
	}
}

// misplaced refuses what stands next, which is also how the text's end is refused.
func (r *reader) misplaced() refusal { return refusal{api.ErrForm, r.at} }

func isDigit(c byte) bool { return '0' <= c && c <= '9' }

func beginsWord(c byte) bool {
	return c == '$' || 'A' <= c && c <= 'Z' || 'a' <= c && c <= 'z'
}

func isOfWord(c byte) bool { return isDigit(c) || beginsWord(c) }
