package formula

import (
	"math/rand"
	"reflect"
	"strings"
	"testing"

	"sheet/api"
	"sheet/num"
	"sheet/ref"
)

// What may stand next, in the model: an operand, the first argument of a call (or none), what goes on behind an operand or behind a cell, or the second cell of an area.
const (
	wantsOperand = iota
	wantsArgument
	hasOperand
	hasCell
	wantsCell
)

const binarySigns = " + - * / ^ & = < > <> <= >= "

// model tells what E1 says of a text, ErrLong and ErrArgs set aside: not by the grammar, but by what may stand behind what.
func model(text string, functions map[string][]int) (api.Errno, int) {
	state := wantsOperand
	var open []bool // of each open bracket: whether it is a call's
	for at := 0; ; {
		for at < len(text) && text[at] == ' ' {
			at++
		}
		if at == len(text) {
			if (state == hasOperand || state == hasCell) && len(open) == 0 {
				return api.OK, 0
			}
			return api.ErrForm, at
		}
		sign, closed := modelSign(text[at:])
		isName := strings.HasPrefix(strings.TrimLeft(text[at+len(sign):], " "), "(")
		_, isCell := ref.Parse(sign)
		isCell = isCell && !isName
		wanting := state == wantsOperand || state == wantsArgument
		having := state == hasOperand || state == hasCell
		c := sign[0]
		switch {
		case wanting && sign == "-":
			state = wantsOperand
		case wanting && '0' <= c && c <= '9':
			if _, ok := num.Parse(sign); !ok {
				return api.ErrRange, at
			}
			state = hasOperand
		case wanting && c == '"':
			if !closed {
				return api.ErrForm, len(text)
			}
			state = hasOperand
		case wanting && c == '#' && len(sign) > 1:
			state = hasOperand
		case wanting && isWordy(c) && isName:
			if functions[strings.ToUpper(sign)] == nil {
				return api.ErrName, at
			}
			at += strings.Index(text[at:], "(")
			if len(open) == 20 {
				return api.ErrDeep, at
			}
			open, state, sign = append(open, true), wantsArgument, "("
		case wanting && isCell:
			state = hasCell
		case wanting && (strings.EqualFold(sign, "true") || strings.EqualFold(sign, "false")):
			state = hasOperand
		case wanting && sign == "(":
			if len(open) == 20 {
				return api.ErrDeep, at
			}
			open, state = append(open, false), wantsOperand
		case state == wantsCell && isCell:
			state = hasOperand
		case sign == ")" && len(open) > 0 && (having || state == wantsArgument):
			open, state = open[:len(open)-1], hasOperand
		case having && strings.Contains(binarySigns, " "+sign+" "):
			state = wantsOperand
		case having && sign == "%":
			state = hasOperand
		case having && sign == "," && len(open) > 0 && open[len(open)-1]:
			state = wantsOperand
		case state == hasCell && sign == ":":
			state = wantsCell
		default:
			return api.ErrForm, at
		}
		at += len(sign)
	}
}

func isWordy(c byte) bool {
	return strings.IndexByte("ABCDEFGHIJKLMNOPQRSTUVWXYZabcdefghijklmnopqrstuvwxyz$", c) >= 0
}

// modelSign is the sign with which a text begins, and of a STRING whether it is closed.
func modelSign(text string) (string, bool) {
	digits := func(s string) int { return len(s) - len(strings.TrimLeft(s, "0123456789")) }
	switch c := text[0]; {
	case '0' <= c && c <= '9':
		n := digits(text)
		if strings.HasPrefix(text[n:], ".") && digits(text[n+1:]) > 0 {
			n += 1 + digits(text[n+1:])
		}
		return text[:n], true
	case c == '"':
		// Each of a pair within goes with the other one: what ends the STRING is the first one that has none.
		n := 1
		for n < len(text) && (text[n] != '"' || strings.HasPrefix(text[n:], `""`)) {
			if text[n] == '"' {
				n++
			}
			n++
		}
		if n == len(text) {
			return text, false
		}
		return text[:n+1], true
	case isWordy(c):
		n := 1
		for n < len(text) && (isWordy(text[n]) || digits(text[n:]) > 0) {
			n++
		}
		return text[:n], true
	}
	for _, sign := range []string{"#DIV/0!", "#NUM!", "#VALUE!", "#REF!", "#N/A", "#CYCLE!", "<>", "<=", ">="} {
		if strings.HasPrefix(text, sign) {
			return sign, true
		}
	}
	return text[:1], true
}

// pieces are what random texts are made of.
func pieces() []string {
	return strings.Split("1|2.5|0.0000001|99999999999999|1.|.|\"|\"\"|\"x\"|\"a(b\"|A1|$B$2|bl1024|BM1|A0|A|true|FALSE|SUM|sum(|LEN(|NA()|NA(|IF(|FOO(|A1(|:|A1:B2|A1:|(|(|(|)|)|)|,|,|+|-|-|*|/|^|&|=|<|>|<>|<=|>=|%|#REF!|#N/A|#|#x| |  |?|\x00|\xff|$|é|[", "|")
}

func TestE1AgainstModel(t *testing.T) {
	r := rand.New(rand.NewSource(1))
	some := pieces()
	functions := arities()
	met := map[api.Errno]int{}
	for range 200_000 {
		text := ""
		if r.Intn(2) == 0 {
			text = bracketedText(r, randomTree(r, r.Intn(5)))
		}
		for range 1 + r.Intn(4) {
			at, end := r.Intn(len(text)+1), 0
			if end = at + r.Intn(3)*r.Intn(2); end > len(text) {
				end = len(text)
			}
			text = text[:at] + some[r.Intn(len(some))] + text[end:]
		}
		met[checkModel(t, text, functions)]++
	}
	for range 20_000 {
		text := strings.Repeat([]string{"(", "-(", "SUM(", "1+("}[r.Intn(4)], 18+r.Intn(4)) + some[r.Intn(len(some))] + some[r.Intn(len(some))] + strings.Repeat(")", r.Intn(23))
		met[checkModel(t, text, functions)]++
	}
	for _, e := range []api.Errno{api.OK, api.ErrForm, api.ErrRange, api.ErrName, api.ErrDeep, api.ErrArgs} {
		if met[e] < 100 {
			t.Errorf("only %d texts were answered %d", met[e], e)
		}
	}
}

// checkModel answers how the text was answered.
func checkModel(t *testing.T, text string, functions map[string][]int) api.Errno {
	t.Helper()
	_, e, at := Parse(text)
	if len(text) > 1000 {
		return e
	}
	wantE, wantAt := model(text, functions)
	if e == api.ErrArgs && wantE == api.OK {
		return e
	}
	if e != wantE || at != wantAt {
		t.Fatalf("E1: Parse(%q): %d, %d, want %d, %d", text, e, at, wantE, wantAt)
	}
	return e
}

func randomRef(r *rand.Rand) api.Ref {
	return api.Ref{Col: r.Intn(64), Row: r.Intn(1024), FixCol: r.Intn(2) == 0, FixRow: r.Intn(2) == 0}
}

func randomLeaf(r *rand.Rand) api.Node {
	texts := []string{"", "x", `"`, `a""b`, " ( ", "A1", ")", "é\xff"}
	switch r.Intn(7) {
	case 0:
		return api.Node{Op: "num", Num: r.Intn(1 << 40)}
	case 1:
		return api.Node{Op: "text", Text: texts[r.Intn(len(texts))]}
	case 2:
		return api.Node{Op: "truth", Num: r.Intn(2)}
	case 3:
		return api.Node{Op: "fault", Num: 1 + r.Intn(6)}
	case 4:
		return api.Node{Op: "call", Text: "NA"}
	case 5:
		return api.Node{Op: "area", Area: api.Area{From: randomRef(r), To: randomRef(r)}}
	}
	a := randomRef(r)
	return api.Node{Op: "cell", Area: api.Area{From: a, To: a}}
}

// randomTree is a tree of at most so many levels ahead of its leaves.
func randomTree(r *rand.Rand, deep int) api.Node {
	if deep == 0 || r.Intn(8) == 0 {
		return randomLeaf(r)
	}
	signs := strings.Fields(binarySigns)
	n, kids := api.Node{}, 2
	switch r.Intn(5) {
	case 0:
		n.Op, kids = "neg", 1
	case 1:
		n.Op, kids = "%", 1
	case 2:
		n.Op, n.Text, kids = "call", "SUM", 1+r.Intn(3)
	default:
		n.Op = signs[r.Intn(len(signs))]
	}
	for range kids {
		n.Kids = append(n.Kids, randomTree(r, deep-1))
	}
	return n
}

func blanks(r *rand.Rand) string { return strings.Repeat(" ", r.Intn(3)*r.Intn(2)) }

func eitherSize(r *rand.Rand, s string) string {
	b := []byte(s)
	for i := range b {
		if r.Intn(2) == 0 {
			b[i] = strings.ToLower(s[i : i+1])[0]
		}
	}
	return string(b)
}

// bracketedText writes a tree with brackets about each part that is no leaf, and blanks here and there.
func bracketedText(r *rand.Rand, n api.Node) string {
	var kids []string
	for _, kid := range n.Kids {
		s := bracketedText(r, kid)
		if n.Op != "call" && (len(kid.Kids) > 0 || r.Intn(9) == 0) {
			s = "(" + blanks(r) + s + blanks(r) + ")"
		}
		kids = append(kids, blanks(r)+s+blanks(r))
	}
	switch n.Op {
	case "num":
		return num.Print(n.Num)
	case "text":
		return `"` + strings.ReplaceAll(n.Text, `"`, `""`) + `"`
	case "truth":
		return eitherSize(r, []string{"FALSE", "TRUE"}[n.Num])
	case "fault":
		return strings.Fields("#DIV/0! #NUM! #VALUE! #REF! #N/A #CYCLE!")[n.Num-1]
	case "cell":
		return eitherSize(r, ref.Print(n.Area.From))
	case "area":
		return eitherSize(r, ref.Print(n.Area.From)) + blanks(r) + ":" + blanks(r) + eitherSize(r, ref.Print(n.Area.To))
	case "call":
		return eitherSize(r, n.Text) + blanks(r) + "(" + strings.Join(kids, ",") + ")"
	case "neg":
		return "-" + kids[0]
	case "%":
		return kids[0] + "%"
	}
	return kids[0] + n.Op + kids[1]
}

func TestE2RandomTrees(t *testing.T) {
	r := rand.New(rand.NewSource(2))
	for range 20_000 {
		tree := randomTree(r, r.Intn(5))
		text := bracketedText(r, tree)
		if len(text) > 1000 {
			continue
		}
		if got, e, at := Parse(text); e != api.OK || !reflect.DeepEqual(got, tree) {
			t.Fatalf("E2: Parse(%q) = %v, %d, %d, want %v", text, got, e, at, tree)
		}
	}
}

// folded is what operands with signs between them are, told from the grammar's last line of signs on: each line joins its own from the left.
func folded(operands []api.Node, signs []string) api.Node {
	for _, own := range []string{" ^ ", " * / ", " + - ", " & ", " = < > <> <= >= "} {
		for i := 0; i < len(signs); {
			if !strings.Contains(own, " "+signs[i]+" ") {
				i++
				continue
			}
			operands[i] = node(signs[i], operands[i], operands[i+1])
			operands = append(operands[:i+1], operands[i+2:]...)
			signs = append(signs[:i], signs[i+1:]...)
		}
	}
	return operands[0]
}

func TestE2SignsBind(t *testing.T) {
	r := rand.New(rand.NewSource(3))
	all := strings.Fields(binarySigns)
	for range 20_000 {
		text := ""
		var operands []api.Node
		var signs []string
		for i := range 1 + r.Intn(8) {
			if i > 0 {
				signs = append(signs, all[r.Intn(len(all))])
				text += signs[i-1]
			}
			n := numNode(i)
			before, behind := r.Intn(3)*r.Intn(2), r.Intn(3)*r.Intn(2)
			text += blanks(r) + strings.Repeat("-", before) + string(rune('0'+i)) + strings.Repeat("%", behind) + blanks(r)
			for range behind {
				n = node("%", n)
			}
			for range before {
				n = node("neg", n)
			}
			operands = append(operands, n)
		}
		if got, e, at := Parse(text); e != api.OK || !reflect.DeepEqual(got, folded(operands, signs)) {
			t.Fatalf("E2: Parse(%q) = %v, %d, %d", text, got, e, at)
		}
	}
}

// withoutBrackets are the texts that come of leaving one pair of brackets out that is no call's; STRINGs are passed over.
func withoutBrackets(text string) []string {
	var out []string
	var open []int
	quoted := false
	for i := range len(text) {
		switch c := text[i]; {
		case c == '"':
			quoted = !quoted
		case quoted:
		case c == '(':
			open = append(open, i)
		case c == ')':
			from := open[len(open)-1]
			open = open[:len(open)-1]
			if from == 0 || !isWordy(text[from-1]) {
				out = append(out, text[:from]+text[from+1:i]+text[i+1:])
			}
		}
	}
	return out
}

func TestE3BracketsJustWhereTheyAreNeeded(t *testing.T) {
	r := rand.New(rand.NewSource(4))
	needed := 0
	for range 20_000 {
		tree := randomTree(r, r.Intn(5))
		text := bracketedText(r, tree)
		if len(text) > 1000 {
			continue
		}
		plain, e, at := Print(text)
		if e != api.OK || at != 0 || len(plain) > len(text) {
			t.Fatalf("E3: Print(%q) = %q, %d, %d", text, plain, e, at)
		}
		if got, e, _ := Parse(plain); e != api.OK || !reflect.DeepEqual(got, tree) {
			t.Fatalf("E3: Print(%q) = %q is another tree", text, plain)
		}
		if again, _, _ := Print(plain); again != plain {
			t.Fatalf("E3: Print(%q) = %q", plain, again)
		}
		for _, less := range withoutBrackets(plain) {
			needed++
			if got, e, _ := Parse(less); e == api.OK && reflect.DeepEqual(got, tree) {
				t.Fatalf("E3: Print(%q) = %q, but %q would do", text, plain, less)
			}
		}
		if outside := strings.Join(unquoted(plain), ""); strings.Contains(outside, " ") || outside != strings.ToUpper(outside) {
			t.Fatalf("E3: Print(%q) = %q", text, plain)
		}
	}
	if needed < 1000 {
		t.Errorf("only %d brackets were looked at", needed)
	}
}

// unquoted are the parts of a text that are not within STRINGs.
func unquoted(text string) []string {
	var out []string
	for i, part := range strings.Split(text, `"`) {
		if i%2 == 0 {
			out = append(out, part)
		}
	}
	return out
}

// withAreasOf is a tree with each cell and area changed; those that are lost are faults.
func withAreasOf(n api.Node, become func(a api.Area) (api.Area, bool)) api.Node {
	if n.Op == "cell" || n.Op == "area" {
		area, ok := become(n.Area)
		if !ok {
			return api.Node{Op: "fault", Num: 4}
		}
		return api.Node{Op: n.Op, Area: area}
	}
	out := n
	out.Kids = nil
	for _, kid := range n.Kids {
		out.Kids = append(out.Kids, withAreasOf(kid, become))
	}
	return out
}

func leaves(n api.Node) []api.Area {
	var out []api.Area
	withAreasOf(n, func(a api.Area) (api.Area, bool) {
		out = append(out, a)
		return a, true
	})
	return out
}

func TestE4AndE5RandomTrees(t *testing.T) {
	r := rand.New(rand.NewSource(5))
	lost := 0
	for range 20_000 {
		tree := randomTree(r, r.Intn(4))
		text := bracketedText(r, tree)
		if len(text) > 900 {
			continue
		}
		if got, e, at := Areas(text); e != api.OK || at != 0 || !reflect.DeepEqual(got, leaves(tree)) {
			t.Fatalf("E4: Areas(%q) = %v, %d, %d", text, got, e, at)
		}
		cols, rows := r.Intn(81)-40, r.Intn(1201)-600
		copied := withAreasOf(tree, func(a api.Area) (api.Area, bool) {
			from, ok := ref.Copied(a.From, cols, rows)
			if !ok {
				return api.Area{}, false
			}
			to, ok := ref.Copied(a.To, cols, rows)
			return api.Area{From: from, To: to}, ok
		})
		got, e, at := Copied(text, cols, rows)
		checkTree(t, "Copied", text, got, e, at, copied)
		byRows, first, n := r.Intn(2) == 0, r.Intn(70), r.Intn(41)-20
		moved := withAreasOf(tree, func(a api.Area) (api.Area, bool) { return ref.Moved(a, byRows, first, n) })
		got, e, at = Moved(text, byRows, first, n)
		checkTree(t, "Moved", text, got, e, at, moved)
		lost += strings.Count(got, "#REF!")
	}
	if lost < 500 {
		t.Errorf("only %d areas were lost", lost)
	}
}

// checkTree tells whether a text is the plain form of a tree.
func checkTree(t *testing.T, call string, text string, got string, e api.Errno, at int, want api.Node) {
	t.Helper()
	if len(got) > 1000 {
		return
	}
	if tree, e1, _ := Parse(got); e != api.OK || at != 0 || e1 != api.OK || !reflect.DeepEqual(tree, want) {
		t.Fatalf("E5: %s(%q) = %q, %d, %d", call, text, got, e, at)
	}
	if plain, _, _ := Print(got); plain != got {
		t.Fatalf("E5: %s(%q) = %q, which is not plain", call, text, got)
	}
}

func TestG1NoTextPanics(t *testing.T) {
	r := rand.New(rand.NewSource(6))
	some := pieces()
	for range 20_000 {
		b := make([]byte, r.Intn(30))
		r.Read(b)
		text := string(b) + some[r.Intn(len(some))] + string(b)
		_, e, at := Parse(text)
		if e == api.OK && at != 0 || at < 0 || at > len(text) {
			t.Fatalf("G2: Parse(%q): %d, %d", text, e, at)
		}
		Print(text)
		Areas(text)
		Copied(text, r.Int(), -r.Int())
		Moved(text, r.Intn(2) == 0, r.Int(), -r.Int())
	}
}
