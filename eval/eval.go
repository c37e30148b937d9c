// Package eval tells what a formula is worth: see doc/05-eval.md.
package eval

import (
	"sheet/api"
	"sheet/formula"
	"sheet/value"
)

// Eval works a formula out over cells (F1).
func Eval(text string, cells []api.Cell) (api.Value, api.Errno, int) {
	tree, e, at := formula.Parse(text)
	if e != api.OK {
		return api.Value{}, e, at
	}
	w := worker{cells: found(cells)}
	return w.worth(tree), api.OK, 0
}

// place is where a cell is.
type place struct{ col, row int }

// worker works Nodes out.
type worker struct {
	cells     map[place]api.Value
	functions map[string]function // nil until the first call
}

// found tells by their places what cells are worth. Of several at one place the first one counts.
func found(cells []api.Cell) map[place]api.Value {
	values := make(map[place]api.Value, len(cells))
	for _, c := range cells {
		at := place{c.Col, c.Row}
		if _, ok := values[at]; !ok {
			values[at] = counted(c.Value)
		}
	}
	return values
}

// worth tells what a Node is worth (F1).
func (w *worker) worth(n api.Node) api.Value {
	switch n.Op {
	case "num":
		return numberValue(n.Num)
	case "text":
		return textValue(n.Text)
	case "truth":
		return truthValue(n.Num != 0)
	case "fault":
		return faultValue(n.Num)
	case "cell":
		return w.cells[place{n.Area.From.Col, n.Area.From.Row}]
	case "area":
		return faultValue(api.Wrong)
	case "neg":
		return value.Work("-", numberValue(0), w.worth(n.Kids[0]))
	case "%":
		return value.Work("/", w.worth(n.Kids[0]), numberValue(100*one))
	case "call":
		return w.called(n)
	}
	return value.Work(n.Op, w.worth(n.Kids[0]), w.worth(n.Kids[1]))
}

// called tells what a function's call is worth. An error that comes up within it, however deep, ends it here.
func (w *worker) called(n api.Node) (worth api.Value) {
	defer func() {
		if stop := recover(); stop != nil {
			f, ok := stop.(failure)
			if !ok {
				panic(stop)
			}
			worth = faultValue(int(f))
		}
	}()
	if w.functions == nil {
		w.functions = functions()
	}
	work := w.functions[n.Text]
	return work(call{w, n.Kids})
}
