package eval

import (
	"math/rand"
	"strings"
	"testing"

	"sheet/api"
	"sheet/num"
	"sheet/ref"
	"sheet/value"
)

func TestF4Numbers(t *testing.T) {
	check(t, "F4", sample(), map[string]api.Value{
		// Of cells only numbers bring one; other arguments bring what their number is.
		"SUM(A1:A6)": millionths(3_500_000), "SUM(A1)": whole(1), "SUM((A1))": whole(1), "SUM(A3)": whole(0), "SUM(B2)": whole(0), "SUM(A4)": whole(0), "SUM(D1)": whole(0), "SUM(A3:A4,C3,D1:D9)": whole(0), "SUM(B2+0)": whole(12), "SUM(A4+0)": whole(1), `SUM("2")`: whole(2), "SUM(TRUE,TRUE)": whole(2), `SUM("x")`: bad(3), `SUM("")`: bad(3), "SUM(A3&D1)": bad(3), "SUM(IF(TRUE,D1))": whole(0), "SUM(A1,\"2\",TRUE)": whole(4), "SUM(1,2,3)": whole(6), "SUM(C2:A1)": bad(5), "SUM(A1:C1)": bad(5), "SUM(C4)": bad(1), "SUM(-A1)": whole(-1), "SUM(A1,A1:A1,A1)": whole(3),
		"COUNT(A1:A9)": whole(3), "COUNT(A3:A4,B2,D1)": whole(0), "COUNT(1,TRUE,\"3\")": whole(3), "COUNT(IF(TRUE,D1))": whole(1), `COUNT("x")`: bad(3), "COUNT(B1)": bad(5), "COUNT(1/0)": bad(1), "COUNT(A1:C1)": bad(5), "COUNT(B6,B6)": whole(2), "COUNT(A1:BL1024)": bad(5), "COUNT(D1:BL1024)": whole(0), "COUNT(A1,A1)": whole(2),
		"MIN(A1:A6)": whole(0), "MIN(A1:A2)": whole(1), "MIN(A1:A4,0.5)": millionths(500_000), "MIN(A3)": whole(0), "MIN(D1:D9)": whole(0), "MIN(3,2,\"1\")": whole(1), "MIN(5)": whole(5), "MIN(-5,-7,-6)": whole(-7), "MIN(TRUE,2)": whole(1), "MIN(C1:C2)": whole(-4), "MIN(B1)": bad(5), `MIN(1,"x")`: bad(3), "MIN(B6,C6)": millionths(-9223372036854775807),
		"MAX(A1:A6)": millionths(2_500_000), "MAX(A3:A4)": whole(0), "MAX(-5,-7,-6)": whole(-5), "MAX(C2)": whole(-4), "MAX(C2,D1)": whole(-4), "MAX(1,3,2)": whole(3), "MAX(5)": whole(5), "MAX(D1:D9)": whole(0), "MAX(C4,B1)": bad(1), "MAX(B6,C6)": millionths(9223372036854775807),
		"AVERAGE(A1:A2)": millionths(1_750_000), "AVERAGE(A1:A6)": millionths(1_166_667), "AVERAGE(A3)": bad(1), "AVERAGE(D1:D9)": bad(1), "AVERAGE(1,2,\"6\")": whole(3), "AVERAGE(TRUE,FALSE)": millionths(500_000), "AVERAGE(B1)": bad(5), `AVERAGE("x")`: bad(3), "AVERAGE(0.000001,0.000002)": millionths(2), "AVERAGE(0.000001,0)": whole(0),
	})
}

func TestF4SumsAreOneByOne(t *testing.T) {
	check(t, "F4", sample(), map[string]api.Value{
		"SUM(B6,C6,1)": whole(1), "SUM(B6,1,C6)": bad(2), "SUM(1,B6,C6)": bad(2), "SUM(C6,-0.000001)": bad(2), "SUM(B6,0)": millionths(9223372036854775807), "SUM(C6,B6)": whole(0), "SUM(B6,B6)": bad(2), "AVERAGE(B6,B6)": bad(2), "AVERAGE(B6,C6)": whole(0), "AVERAGE(B6)": millionths(9223372036854775807), "SUM(B6:C6)": whole(0), "SUM(B6:C6,B6:B6,1)": bad(2),
		// The first error that comes up is the call's.
		`SUM("x",1/0)`: bad(3), `SUM(1/0,"x")`: bad(1), "SUM(B6,1,B1)": bad(2), "SUM(B1,B6,1)": bad(5), `AVERAGE(D1,"x",1/0)`: bad(3),
	})
}

func TestF4Truths(t *testing.T) {
	check(t, "F4", sample(), map[string]api.Value{
		"AND(A1:A4)": yes, "AND(A1:A5)": no, "AND(A4:B4)": no, "AND(A4)": yes, "AND(B4)": no, "AND(TRUE)": yes, "AND(TRUE,TRUE,FALSE)": no, "AND(1,2)": yes, "AND(1,0)": no, `AND("true")`: yes, `AND("FALSE",TRUE)`: no, "AND(D1,A1)": yes, "AND(A3,A1)": yes, "AND(B3,A1)": yes, "AND(IF(TRUE,D1),A1)": no, "AND(B3&D1)": yes,
		"OR(A1:A5)": yes, "OR(A5,B4)": no, "OR(A5,A4)": yes, "OR(FALSE,0)": no, "OR(FALSE,0.000001)": yes, `OR("false","True")`: yes, "OR(D1,A5)": no, "OR(A3,B4)": no,
		// None.
		"AND(D1)": bad(3), "OR(D1:D9)": bad(3), "AND(A3)": bad(3), "OR(B3)": bad(3), "OR(A3,C3,D1)": bad(3), "AND(B2:B3)": bad(3),
		// Errors, also behind what settles the matter.
		`AND("x")`: bad(3), `OR("")`: bad(3), "AND(A1:A2+0)": bad(3), "AND(B1)": bad(5), "OR(C4)": bad(1), "AND(FALSE,1/0)": bad(1), "OR(TRUE,1/0)": bad(1), "OR(TRUE,B1)": bad(5), "AND(FALSE,A1:C1)": bad(5), `OR(TRUE,"x")`: bad(3), `AND(FALSE,"x",1/0)`: bad(3), "OR(A1:A3,C4,B1)": bad(1),
	})
}

func TestF4Texts(t *testing.T) {
	check(t, "F4", sample(), map[string]api.Value{
		`CONCAT(A1:A4,"!")`: words("12.5abcTRUE!"), "CONCAT(A2:B3)": words("2.512abcTRUE"), "CONCAT(B3:A2)": words("2.512abcTRUE"), "CONCAT(B2:A3)": words("2.512abcTRUE"), "CONCAT(A5:B5)": words("0Abc"), "CONCAT(D1)": words(""), "CONCAT(D1:D9,C3)": words(""), "CONCAT(1,TRUE,\"x\")": words("1TRUEx"), "CONCAT(A4:B4)": words("TRUEFALSE"), "CONCAT(1.50)": words("1.5"), "CONCAT(IF(TRUE,D1),A3)": words("abc"),
		"CONCAT(A1:C1)": bad(5), "CONCAT(A1:B5)": bad(5), "CONCAT(C4,B1)": bad(1), "CONCAT(A1:A2&1)": bad(3),
		"CONCAT(C5)": words(long), "CONCAT(C5,D1)": words(long), "CONCAT(C5,1)": bad(3), "CONCAT(1,C5)": bad(3), "CONCAT(C5,C5,C5,C5)": bad(3), "CONCAT(C5,1,1/0)": bad(1), "CONCAT(C5,C5,C5,B1,C4)": bad(5), `CONCAT(REPT("a",500),REPT("b",500))`: words(strings.Repeat("a", 500) + strings.Repeat("b", 500)), `CONCAT(REPT("a",500),REPT("b",501))`: bad(3),
	})
}

func TestF4RowByRow(t *testing.T) {
	cells := []api.Cell{at("A1", whole(1)), at("B1", whole(2)), at("C1", whole(3)), at("A2", whole(4)), at("B2", whole(5)), at("C2", whole(6)), at("A3", bad(1)), at("C2", bad(6)), at("D1", bad(2)), at("D3", bad(4)), at("B4", bad(5))}
	check(t, "F4", cells, map[string]api.Value{
		"CONCAT(A1:C2)": words("123456"), "CONCAT(C2:A1)": words("123456"), "CONCAT(C1:A2)": words("123456"), "CONCAT(A1:A2,C1:C2)": words("1436"), "CONCAT(C1:C2,A1:A2)": words("3614"), "CONCAT(B2,A1:B1,C2)": words("5126"),
		"SUM(A1:D4)": bad(2), "SUM(A1:C4)": bad(1), "SUM(D4:B1)": bad(2), "COUNT(A2:D4)": bad(1), "MAX(B2:D4)": bad(4), "AND(A4:D3)": bad(1), "OR(B4:D2)": bad(4), "CONCAT(A1:B4)": bad(1), "MIN(B1:B4)": bad(5),
	})
}

// grid is a sheet's left upper corner, by rows.
type grid [6][6]api.Value

func randomGrid(r *rand.Rand, errors bool) grid {
	kinds := []api.Value{nothingV, nothingV, yes, no, words(""), words("7"), words("true"), words("ab"), words("AB")}
	if errors {
		kinds = append(kinds, bad(1+r.Intn(6)))
	}
	var g grid
	for row := range g {
		for col := range g[row] {
			if g[row][col] = kinds[r.Intn(len(kinds))]; r.Intn(3) == 0 {
				g[row][col] = millionths((r.Intn(9) - 4) * 500_000)
			}
		}
	}
	return g
}

// cells tells a grid's cells in any order, and others behind them that do not count.
func (g grid) cells(r *rand.Rand) []api.Cell {
	var list []api.Cell
	for row := range g {
		for col := range g[row] {
			list = append(list, api.Cell{Col: col, Row: row, Value: g[row][col]})
		}
	}
	r.Shuffle(len(list), func(i int, j int) { list[i], list[j] = list[j], list[i] })
	for _, c := range list[:9] {
		list = append(list, api.Cell{Col: c.Col, Row: c.Row, Value: whole(99)})
	}
	return list
}

// randomArea is an area of a grid, its text, and its values row by row.
func (g grid) randomArea(r *rand.Rand) (a api.Area, text string, list []api.Value) {
	n := len(g)
	a = api.Area{From: api.Ref{Col: r.Intn(n), Row: r.Intn(n)}, To: api.Ref{Col: r.Intn(n), Row: r.Intn(n)}}
	if r.Intn(4) == 0 {
		a.To.Col = a.From.Col
	}
	text = ref.Print(a.From) + ":" + ref.Print(a.To)
	if a.From == a.To {
		text = ref.Print(a.From)
	}
	for row := range n {
		for col := range n {
			inRow := (row-a.From.Row)*(row-a.To.Row) <= 0
			inCol := (col-a.From.Col)*(col-a.To.Col) <= 0
			if inRow && inCol {
				list = append(list, g[row][col])
			}
		}
	}
	return a, text, list
}

// expected is what the functions of many are worth, if of cells those values come, told from lists of all numbers, truths and texts.
func expected(values []api.Value) map[string]api.Value {
	out := map[string]api.Value{}
	var numbers []int
	trues, truths, joined := 0, 0, ""
	for _, v := range values {
		switch v.Kind {
		case 1:
			numbers = append(numbers, v.Num)
			truths++
			if v.Num != 0 {
				trues++
			}
		case 3:
			truths++
			trues += v.Num
		case 4:
			for _, name := range strings.Fields("SUM COUNT MIN MAX AVERAGE AND OR CONCAT") {
				out[name] = v
			}
			return out
		}
		joined += value.Show(v)
	}
	total, least, greatest := 0, 0, 0
	for i, n := range numbers {
		total += n
		if i == 0 || n < least {
			least = n
		}
		if i == 0 || n > greatest {
			greatest = n
		}
	}
	out["SUM"], out["COUNT"], out["MIN"], out["MAX"] = millionths(total), whole(len(numbers)), millionths(least), millionths(greatest)
	out["AVERAGE"], out["AND"], out["OR"] = bad(1), bad(3), bad(3)
	if len(numbers) > 0 {
		n, _ := num.Div(total, len(numbers)*1_000_000)
		out["AVERAGE"] = millionths(n)
	}
	if truths > 0 {
		out["AND"] = map[bool]api.Value{true: yes, false: no}[trues == truths]
		out["OR"] = map[bool]api.Value{true: yes, false: no}[trues > 0]
	}
	out["CONCAT"] = words(joined)
	return out
}

func TestF4RandomGrids(t *testing.T) {
	r := rand.New(rand.NewSource(1))
	for range 2_000 {
		g := randomGrid(r, r.Intn(3) == 0)
		var texts []string
		var values []api.Value
		for range 1 + r.Intn(3) {
			_, text, list := g.randomArea(r)
			texts, values = append(texts, text), append(values, list...)
		}
		wants := map[string]api.Value{}
		for name, want := range expected(values) {
			wants[name+"("+strings.Join(texts, ",")+")"] = want
		}
		check(t, "F4", g.cells(r), wants)
	}
}

func TestF6RandomGrids(t *testing.T) {
	r := rand.New(rand.NewSource(2))
	for range 2_000 {
		g := randomGrid(r, true)
		a, text, list := g.randomArea(r)
		rows, cols := 1+max(a.From.Row-a.To.Row, a.To.Row-a.From.Row), 1+max(a.From.Col-a.To.Col, a.To.Col-a.From.Col)
		wants := map[string]api.Value{"ROWS(" + text + ")": whole(rows), "COLUMNS(" + text + ")": whole(cols)}
		row, col := r.Intn(rows+2), r.Intn(cols+2)
		cell := bad(4)
		if row >= 1 && row <= rows && col >= 1 && col <= cols {
			cell = list[(row-1)*cols+col-1]
		}
		wants["INDEX("+text+","+num.Print(row*1_000_000)+","+num.Print(col*1_000_000)+")"] = cell
		wanted := api.Ref{Col: r.Intn(6), Row: r.Intn(6)}
		v := g[wanted.Row][wanted.Col]
		first, many := 0, 0
		for i, other := range list {
			if other.Kind == v.Kind && other.Num == v.Num && strings.EqualFold(other.Text, v.Text) {
				many++
				if first == 0 {
					first = i + 1
				}
			}
		}
		match, count := whole(first), whole(many)
		if first == 0 || rows > 1 && cols > 1 {
			match = bad(5)
		}
		if v.Kind == 4 {
			match, count = v, v
		}
		wants["MATCH("+ref.Print(wanted)+","+text+")"] = match
		wants["COUNTIF("+text+","+ref.Print(wanted)+")"] = count
		check(t, "F6", g.cells(r), wants)
	}
}
