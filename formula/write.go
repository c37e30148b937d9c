package formula

import (
	"strings"

	"sheet/api"
	"sheet/num"
	"sheet/ref"
	"sheet/value"
)

// writer writes a tree in its plain form.
type writer struct {
	out    strings.Builder
	become change
}

func (w *writer) node(n api.Node) {
	own := binds(n.Op)
	switch n.Op {
	case opNum:
		w.out.WriteString(num.Print(n.Num))
	case opText:
		w.out.WriteString(`"` + strings.ReplaceAll(n.Text, `"`, `""`) + `"`)
	case opTruth:
		w.value(truthKind, n.Num)
	case opFault:
		w.value(faultKind, n.Num)
	case opCell, opArea:
		w.area(n)
	case opCall:
		w.call(n)
	case opNeg:
		w.out.WriteString("-")
		w.part(n.Kids[0], own)
	case opPercent:
		w.part(n.Kids[0], own)
		w.out.WriteString("%")
	default:
		w.part(n.Kids[0], own)
		w.out.WriteString(n.Op)
		w.part(n.Kids[1], own+1) // of several the first two go together, so the second part has to bind more
	}
}

// part writes a Node's Kid, in brackets if it binds less than it has to.
func (w *writer) part(n api.Node, least int) {
	if binds(n.Op) >= least {
		w.node(n)
		return
	}
	w.out.WriteString("(")
	w.node(n)
	w.out.WriteString(")")
}

func (w *writer) value(kind int, n int) {
	w.out.WriteString(value.Show(api.Value{Kind: kind, Num: n}))
}

func (w *writer) area(n api.Node) {
	area, ok := w.become(n.Area)
	if !ok {
		w.value(faultKind, api.Lost)
		return
	}
	w.out.WriteString(ref.Print(area.From))
	if n.Op == opArea {
		w.out.WriteString(":" + ref.Print(area.To))
	}
}

func (w *writer) call(n api.Node) {
	w.out.WriteString(n.Text + "(")
	for i, kid := range n.Kids {
		if i > 0 {
			w.out.WriteString(",")
		}
		w.node(kid)
	}
	w.out.WriteString(")")
}

// binds tells how much an Op holds its parts together: the number of its level, or more.
func binds(op string) int {
	for level, signs := range levels {
		for _, sign := range signs {
			if sign == op {
				return level
			}
		}
	}
	switch op {
	case opNeg:
		return bindsNeg
	case opPercent:
		return bindsPercent
	}
	return bindsAtom
}
