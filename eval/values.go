package eval

import (
	"sheet/api"
	"sheet/value"
)

// The kinds of values (B1).
const (
	nothing = iota
	number
	text
	truth
	fault
)

const (
	one     = 1_000_000 // a number is told by its millionths
	maxText = 1000
)

func numberValue(n int) api.Value { return api.Value{Kind: number, Num: n} }

// wholeValue is the number that has so many wholes.
func wholeValue(n int) api.Value { return numberValue(n * one) }

func textValue(s string) api.Value {
	if len(s) > maxText {
		return faultValue(api.Wrong)
	}
	return api.Value{Kind: text, Text: s}
}

func truthValue(is bool) api.Value {
	if is {
		return api.Value{Kind: truth, Num: 1}
	}
	return api.Value{Kind: truth}
}

func faultValue(n int) api.Value { return api.Value{Kind: fault, Num: n} }

// counted is v as it counts (B1): package value knows, and is asked for each kind by the call that answers it.
func counted(v api.Value) api.Value {
	switch v.Kind {
	case number:
		n, e := value.Number(v)
		return unlessFault(numberValue(n), e)
	case text:
		s, e := value.Text(v)
		return unlessFault(textValue(s), e)
	case truth:
		is, e := value.Truth(v)
		return unlessFault(truthValue(is), e)
	case fault:
		_, e := value.Text(v)
		return faultValue(e)
	}
	return api.Value{}
}

// unlessFault is v, or the error e, if that is one.
func unlessFault(v api.Value, e int) api.Value {
	if e != 0 {
		return faultValue(e)
	}
	return v
}
