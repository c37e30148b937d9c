package value

import (
	"sheet/api"
	"sheet/num"
)

const maxPower = 64

// calculation makes one number of two.
type calculation func(a int, b int) (int, api.Errno)

// operator makes one value of two that are no errors.
type operator func(a api.Value, b api.Value) api.Value

// Work works an operator (B6).
func Work(op string, a api.Value, b api.Value) api.Value {
	a, b = counted(a), counted(b)
	if a.Kind == fault {
		return a
	}
	if b.Kind == fault {
		return b
	}
	if calculate, ok := calculations()[op]; ok {
		return calculated(calculate, a, b)
	}
	if work, ok := operators()[op]; ok {
		return work(a, b)
	}
	return faultValue(api.Wrong)
}

// calculations tells what the signs do that work on numbers. They are not among the operators, so that each map is small: it is made anew by each call.
func calculations() map[string]calculation {
	return map[string]calculation{
		"+": num.Add,
		"-": num.Sub,
		"*": num.Mul,
		"/": num.Div,
		"^": power,
	}
}

// operators tells what the other signs do.
func operators() map[string]operator {
	return map[string]operator{
		"&":  join,
		"=":  func(a api.Value, b api.Value) api.Value { return truthValue(Order(a, b) == 0) },
		"<>": func(a api.Value, b api.Value) api.Value { return truthValue(Order(a, b) != 0) },
		"<":  func(a api.Value, b api.Value) api.Value { return truthValue(Order(a, b) < 0) },
		"<=": func(a api.Value, b api.Value) api.Value { return truthValue(Order(a, b) <= 0) },
		">":  func(a api.Value, b api.Value) api.Value { return truthValue(Order(a, b) > 0) },
		">=": func(a api.Value, b api.Value) api.Value { return truthValue(Order(a, b) >= 0) },
	}
}

// calculated is what a calculation makes of the numbers of two values.
func calculated(calculate calculation, a api.Value, b api.Value) api.Value {
	x, e := Number(a)
	if e != 0 {
		return faultValue(e)
	}
	y, e := Number(b)
	if e != 0 {
		return faultValue(e)
	}
	n, errno := calculate(x, y)
	switch errno {
	case api.OK:
		return numberValue(n)
	case api.ErrZero:
		return faultValue(api.Div)
	}
	return faultValue(api.Num)
}

// power multiplies one by one, since each product is rounded.
func power(a int, b int) (int, api.Errno) {
	if b%one != 0 || b < -maxPower*one || b > maxPower*one {
		return 0, api.ErrRange
	}
	product, e := one, api.OK
	for range max(b, -b) / one {
		product, e = num.Mul(product, a)
		if e != api.OK {
			return 0, e
		}
	}
	if b < 0 {
		return num.Div(one, product)
	}
	return product, api.OK
}

func join(a api.Value, b api.Value) api.Value {
	// Neither is an error, so both have a text.
	first, _ := Text(a)
	second, _ := Text(b)
	return textValue(first + second)
}
