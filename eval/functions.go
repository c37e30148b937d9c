package eval

import "sheet/api"

// functions tells what each function does.
func functions() map[string]function {
	return map[string]function{
		"IF":      choice,
		"CHOOSE":  chosen,
		"IFERROR": unlessError,

		"SUM":     sum,
		"COUNT":   count,
		"MIN":     foremost(func(n int, best int) bool { return n < best }),
		"MAX":     foremost(func(n int, best int) bool { return n > best }),
		"AVERAGE": average,
		"AND":     all,
		"OR":      some,
		"CONCAT":  concat,

		"NOT":   not,
		"ABS":   absolute,
		"INT":   floor,
		"SIGN":  sign,
		"MOD":   mod,
		"ROUND": round,
		"VALUE": asNumber,

		"LEN":   length,
		"UPPER": ofText(capitals),
		"LOWER": ofText(smalls),
		"TRIM":  ofText(trimmed),
		"LEFT":  left,
		"RIGHT": right,
		"MID":   middle,
		"EXACT": exact,
		"FIND":  find,
		"REPT":  repeated,

		"ISBLANK":  ofKind(nothing),
		"ISNUMBER": ofKind(number),
		"ISTEXT":   ofKind(text),
		"ISERROR":  ofKind(fault),
		"NA":       func(c call) api.Value { return faultValue(api.None) },

		"ROWS":    rows,
		"COLUMNS": columns,
		"INDEX":   index,
		"MATCH":   match,
		"COUNTIF": countEqual,
	}
}

// choice is IF (F3).
func choice(c call) api.Value {
	if c.truth(0) {
		return c.value(1)
	}
	if len(c.args) < 3 {
		return truthValue(false)
	}
	return c.value(2)
}

// chosen is CHOOSE (F3). Its choices are its arguments from that of number 1 on.
func chosen(c call) api.Value {
	which := c.whole(0)
	if which < 1 || which >= len(c.args) {
		panic(failure(api.Wrong))
	}
	return c.value(which)
}

// unlessError is IFERROR (F3).
func unlessError(c call) api.Value {
	if v := c.value(0); v.Kind != fault {
		return v
	}
	return c.value(1)
}

// ofKind makes a function that tells whether its argument's value is of a kind (F5).
func ofKind(kind int) function {
	return func(c call) api.Value { return truthValue(c.value(0).Kind == kind) }
}
