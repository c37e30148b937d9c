package eval

import (
	"slices"
	"strings"

	"sheet/api"
)

// ofText makes a function of one that changes a text.
func ofText(change func(s string) string) function {
	return func(c call) api.Value { return textValue(change(c.text(0))) }
}

// capitals and smalls change the letters A to Z alone; the library's way would change those of other scripts, too.
func capitals(s string) string { return shifted(s, 'a', 'A') }

func smalls(s string) string { return shifted(s, 'A', 'a') }

// shifted has, for each of the 26 bytes from the one on, that of the 26 from the other one on.
func shifted(s string, from byte, to byte) string {
	b := []byte(s)
	for i, c := range b {
		if from <= c && c < from+26 {
			b[i] = c - from + to
		}
	}
	return string(b)
}

func trimmed(s string) string {
	words := strings.Split(s, " ")
	words = slices.DeleteFunc(words, func(w string) bool { return w == "" })
	return strings.Join(words, " ")
}

func length(c call) api.Value { return wholeValue(len(c.text(0))) }

func left(c call) api.Value {
	s := c.text(0)
	return textValue(s[:min(c.bytes(), len(s))])
}

func right(c call) api.Value {
	s := c.text(0)
	return textValue(s[len(s)-min(c.bytes(), len(s)):])
}

// bytes tells how many bytes the second argument wants of LEFT and RIGHT.
func (c call) bytes() int {
	if len(c.args) < 2 {
		return 1
	}
	n := c.whole(1)
	if n < 0 {
		panic(failure(api.Wrong))
	}
	return n
}

func middle(c call) api.Value {
	s, k, n := c.text(0), c.whole(1), c.whole(2)
	if k < 1 || n < 0 {
		panic(failure(api.Wrong))
	}
	from := min(k-1, len(s))
	to := min(from+n, len(s))
	return textValue(s[from:to])
}

func exact(c call) api.Value { return truthValue(c.text(0) == c.text(1)) }

func find(c call) api.Value {
	part, s := c.text(0), c.text(1)
	at := strings.Index(s, part)
	if at < 0 {
		panic(failure(api.Wrong))
	}
	return wholeValue(at + 1)
}

func repeated(c call) api.Value {
	s, n := c.text(0), c.whole(1)
	// Held against the bound ahead of being made: n may be far too great for that. (The product is an int: n is at most 2^63 millionths.)
	if n < 0 || len(s)*n > maxText {
		panic(failure(api.Wrong))
	}
	return textValue(strings.Repeat(s, n))
}
