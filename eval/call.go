package eval

import (
	"sheet/api"
	"sheet/value"
)

// failure is an error's Num that ends a call: it goes up as a panic, and the call is worth it.
type failure int

// call is a function's call that is being worked out.
type call struct {
	*worker
	args []api.Node
}

// function tells what a call is worth.
type function func(c call) api.Value

// sure is what was asked for, unless that is an error.
func sure[T any](what T, e int) T {
	if e != 0 {
		panic(failure(e))
	}
	return what
}

// told is a number, unless it cannot be told.
func told(n int, e api.Errno) int {
	switch e {
	case api.OK:
		return n
	case api.ErrZero:
		panic(failure(api.Div))
	}
	panic(failure(api.Num))
}

func (c call) value(i int) api.Value { return c.worth(c.args[i]) }

func (c call) number(i int) int { return sure(value.Number(c.value(i))) }

func (c call) text(i int) string { return sure(value.Text(c.value(i))) }

func (c call) truth(i int) bool { return sure(value.Truth(c.value(i))) }

// sound is an argument's value, unless that is an error.
func (c call) sound(i int) api.Value {
	v := c.value(i)
	if v.Kind == fault {
		panic(failure(v.Num))
	}
	return v
}

// whole tells how many wholes an argument has, which must have no fraction.
func (c call) whole(i int) int {
	n := c.number(i)
	if n%one != 0 {
		panic(failure(api.Wrong))
	}
	return n / one
}

// area is the area of an argument that is one, or a cell.
func (c call) area(i int) api.Area {
	if !hasArea(c.args[i]) {
		panic(failure(api.Wrong))
	}
	return c.args[i].Area
}

func hasArea(n api.Node) bool { return n.Op == "area" || n.Op == "cell" }
