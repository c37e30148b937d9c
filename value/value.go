// Package value tells what a cell can be worth: see doc/02-value.md.
package value

import (
	"cmp"
	"math"
	"strings"

	"sheet/api"
	"sheet/num"
)

// The kinds of values, as Value.Kind tells them (B1).
const (
	nothing = iota
	number
	text
	truth
	fault
)

const (
	one     = 1_000_000 // a number is told by its millionths
	maxText = 1000

	trueWord  = "TRUE"
	falseWord = "FALSE"
)

// There is no error 0, so the names begin at 1.
var faultNames = [...]string{
	api.Div:   "#DIV/0!",
	api.Num:   "#NUM!",
	api.Wrong: "#VALUE!",
	api.Lost:  "#REF!",
	api.None:  "#N/A",
	api.Cycle: "#CYCLE!",
}

// Read tells what is typed into a cell (B2).
func Read(s string) api.Value {
	if s == "" {
		return api.Value{}
	}
	if n, ok := num.Parse(s); ok {
		return numberValue(n)
	}
	if is, ok := readTruth(s); ok {
		return truthValue(is)
	}
	if n, ok := readFault(s); ok {
		return faultValue(n)
	}
	return textValue(strings.TrimPrefix(s, "'"))
}

// Show writes a value (B3).
func Show(v api.Value) string {
	s, e := Text(v)
	if e != 0 {
		return faultNames[e]
	}
	return s
}

// Text tells a value's text (B3).
func Text(v api.Value) (string, int) {
	v = counted(v)
	switch v.Kind {
	case number:
		return num.Print(v.Num), 0
	case text:
		return v.Text, 0
	case truth:
		return truthWord(v.Num != 0), 0
	case fault:
		return "", v.Num
	}
	return "", 0
}

// Number tells a value's number (B4).
func Number(v api.Value) (int, int) {
	v = counted(v)
	switch v.Kind {
	case number:
		return v.Num, 0
	case text:
		n, ok := num.Parse(v.Text)
		if !ok {
			return 0, api.Wrong
		}
		return n, 0
	case truth:
		return v.Num * one, 0
	case fault:
		return 0, v.Num
	}
	return 0, 0
}

// Truth tells whether a value is true (B4).
func Truth(v api.Value) (bool, int) {
	v = counted(v)
	switch v.Kind {
	case number, truth:
		return v.Num != 0, 0
	case text:
		is, ok := readTruth(v.Text)
		if !ok {
			return false, api.Wrong
		}
		return is, 0
	case fault:
		return false, v.Num
	}
	return false, 0
}

// Order tells which of two values is below the other one (B5).
func Order(a api.Value, b api.Value) int {
	a, b = counted(a), counted(b)
	if a.Kind == fault || b.Kind == fault {
		return 0
	}
	// Nothing is 0, empty and false already; only its kind has to be that of the other one.
	if a.Kind == nothing {
		a.Kind = b.Kind
	}
	if b.Kind == nothing {
		b.Kind = a.Kind
	}
	if a.Kind != b.Kind {
		return cmp.Compare(a.Kind, b.Kind)
	}
	if a.Kind == text {
		return strings.Compare(capitals(a.Text), capitals(b.Text))
	}
	return cmp.Compare(a.Num, b.Num)
}

// counted is v as it counts: of a kind that there is, with what that kind tells and nothing else (B1).
func counted(v api.Value) api.Value {
	switch v.Kind {
	case number:
		return numberValue(v.Num)
	case text:
		return textValue(v.Text)
	case truth:
		return truthValue(v.Num != 0)
	case fault:
		return faultValue(v.Num)
	}
	return api.Value{}
}

func numberValue(n int) api.Value {
	if n == math.MinInt { // no number (A1)
		return faultValue(api.Num)
	}
	return api.Value{Kind: number, Num: n}
}

func textValue(s string) api.Value {
	if len(s) > maxText {
		return faultValue(api.Wrong)
	}
	return api.Value{Kind: text, Text: s}
}

func truthValue(is bool) api.Value {
	if is {
		return api.Value{Kind: truth, Num: 1}
	}
	return api.Value{Kind: truth}
}

func faultValue(n int) api.Value {
	if n < api.Div || n > api.Cycle {
		n = api.Wrong
	}
	return api.Value{Kind: fault, Num: n}
}

// readTruth tells which truth s names, if it names one.
func readTruth(s string) (is bool, ok bool) {
	switch capitals(s) {
	case trueWord:
		return true, true
	case falseWord:
		return false, true
	}
	return false, false
}

func truthWord(is bool) string {
	if is {
		return trueWord
	}
	return falseWord
}

// readFault tells which error s names, if it names one.
func readFault(s string) (n int, ok bool) {
	for n := api.Div; n <= api.Cycle; n++ {
		if faultNames[n] == s {
			return n, true
		}
	}
	return 0, false
}

// capitals has a capital letter for each small one from a to z. The library's way would change letters of other scripts, too.
func capitals(s string) string {
	b := []byte(s)
	for i, c := range b {
		if 'a' <= c && c <= 'z' {
			b[i] = c - 'a' + 'A'
		}
	}
	return string(b)
}
