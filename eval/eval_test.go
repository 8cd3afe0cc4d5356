package eval

import (
	"math"
	"slices"
	"strings"
	"testing"
	"unsafe"

	"abacist/api"
	"abacist/arith"
	"abacist/funcs"
	"abacist/parse"
	"abacist/tree"
	"abacist/value"
)

func number(n int) api.Value { return api.Value{Kind: api.Int, N: n} }

func text(s string) api.Value { return api.Value{Kind: api.Text, S: s} }

func truth(n int) api.Value { return api.Value{Kind: api.Bool, N: n} }

func cell(sheet string, col, row int) api.Cell { return api.Cell{Sheet: sheet, Col: col, Row: row} }

func shows(sheet string, col, row int, v api.Value) api.Shown {
	return api.Shown{Cell: cell(sheet, col, row), Value: v}
}

func leaf(v api.Value) api.Node { return api.Node{Kind: api.NValue, Value: v} }

func at(sheet string, col, row int) api.Node {
	return api.Node{Kind: api.NCell, Cell: cell(sheet, col, row)}
}

func span(sheet string, col, row, toCol, toRow int) api.Node {
	return api.Node{Kind: api.NRange, Cell: cell(sheet, col, row), To: cell(sheet, toCol, toRow)}
}

func minus(l ...api.Node) api.Node { return api.Node{Kind: api.NUnary, Op: "-", Kids: l} }

func pair(op string, l ...api.Node) api.Node { return api.Node{Kind: api.NPair, Op: op, Kids: l} }

func call(name string, l ...api.Node) api.Node {
	return api.Node{Kind: api.NCall, Name: name, Kids: l}
}

func bad() api.Node { return api.Node{Kind: api.NBad} }

func with(n api.Node, turn func(*api.Node)) api.Node {
	turn(&n)
	return n
}

// deep is inner, with as many nodes above it as make it that deep, if inner has no Kids.
func deep(depth int, inner api.Node) api.Node {
	for range depth - 1 {
		inner = minus(inner)
	}
	return inner
}

func ops() []string { return strings.Fields("+ - * / & = <> < > <= >=") }

// names are all functions, with how many arguments each takes.
func names() map[string]int {
	return map[string]int{
		"SUM": 2, "MIN": 2, "MAX": 2, "COUNT": 2, "COUNTA": 2, "AVG": 2, "AND": 2, "OR": 2, "CONCAT": 2, "CHOOSE": 3,
		"NOT": 1, "ABS": 1, "SIGN": 1, "LEN": 1, "UPPER": 1, "LOWER": 1, "ISERR": 1, "ISBLANK": 1, "MOD": 2, "LEFT": 2, "RIGHT": 2, "FIND": 2, "MID": 3, "IF": 3, "MATCH": 2,
		"NOPE": 1, "ABCDEFGH": 0,
	}
}

// sortedNames are they in an order that is the same each time.
func sortedNames() []string {
	var out []string
	for name := range names() {
		out = append(out, name)
	}
	slices.Sort(out)
	return out
}

func faults() []api.Value {
	var out []api.Value
	for n := api.EOver; n <= api.ENone; n++ {
		out = append(out, fault(n))
	}
	return out
}

// wrongs are values that may not be.
func wrongs() []api.Value {
	return []api.Value{
		{N: 1}, {S: "a"}, {Kind: api.Int, S: "a"}, {Kind: api.Int, N: 5, S: "5"}, {Kind: api.Text, N: 1},
		text(strings.Repeat("a", api.MaxText+1)),
		truth(2), truth(-1), {Kind: api.Bool, S: "a"},
		fault(0), fault(-1), fault(api.ENone + 1), {Kind: api.Error, N: api.EDiv, S: "a"},
		{Kind: -1}, {Kind: 5}, {Kind: 1<<32 + api.Int, N: 5}, {Kind: math.MinInt}, {Kind: math.MaxInt},
	}
}

// plain are values that may be and aren't Errors.
func plain() []api.Value {
	return []api.Value{
		{}, number(math.MinInt), number(-5), number(-1), number(0), number(1), number(2), number(7), number(math.MaxInt),
		text(""), text("0"), text("1"), text("a"), text("TRUE"), text("#DIV"), text("h\u00e9\xff\x00"), text(strings.Repeat("z", api.MaxText)),
		truth(0), truth(1),
	}
}

// values are all of them.
func values() []api.Value { return slices.Concat(plain(), faults(), wrongs()) }

func check(t *testing.T, n api.Node, cells []api.Shown, want api.Value) {
	t.Helper()
	if got := Eval(n, cells); got != want {
		t.Fatalf("Eval(%+v, %v) = %v; want %v", n, cells, got, want)
	}
}

// sheets is what the tests of formulas are reckoned with.
func sheets() []api.Shown {
	return []api.Shown{
		shows("s", 1, 1, number(5)), shows("s", 2, 1, text("x")), shows("s", 3, 1, fault(api.ENone)),
		shows("s", 1, 2, number(-2)), shows("s", 2, 2, truth(1)), shows("s", 3, 2, api.Value{}),
		shows("s", 1, 3, api.Value{Kind: 9}), shows("s", 2, 3, number(100)),
		shows("t", 1, 1, number(70)), shows("t", 26, 9, text("far")), shows("t", api.MaxCol, api.MaxRow, number(8)),
	}
}

func read(t *testing.T, s string) api.Node {
	t.Helper()
	n, _, e := parse.Parse(s, "s")
	if e != api.OK {
		t.Fatalf("Parse(%q): %d", s, e)
	}
	return n
}

func TestP1101Example(t *testing.T) {
	for _, v := range []api.Value{number(0), number(7), number(math.MaxInt), text(""), text("a"), text("A1"), text("\x00\xff\""), text(strings.Repeat("a", api.MaxText)), truth(0), truth(1)} {
		check(t, leaf(v), nil, v)
		check(t, leaf(v), sheets(), v)
	}
}

func TestP1101Cell(t *testing.T) {
	n := at("s", 1, 2)
	for _, v := range values() {
		want := v
		if !value.Right(v) {
			want = fault(api.EType)
		}
		check(t, n, []api.Shown{{Cell: n.Cell, Value: v}}, want)
		// The first of a cell counts, be it Blank or none that may be.
		for _, w := range values() {
			check(t, n, []api.Shown{shows("s", 2, 1, w), {Cell: n.Cell, Value: v}, shows("s", 2, 2, w), {Cell: n.Cell, Value: w}, {Cell: n.Cell, Value: number(1)}}, want)
		}
	}
}

// What isn't that very cell shows nothing of it.
func TestP1101OtherCells(t *testing.T) {
	for _, c := range []api.Cell{cell("s", 1, 2), cell("abcdefgh", api.MaxCol, api.MaxRow), cell("a0", 1, 1)} {
		n := api.Node{Kind: api.NCell, Cell: c}
		check(t, n, nil, api.Value{})
		check(t, n, []api.Shown{}, api.Value{})
		var others []api.Shown
		for _, o := range []api.Cell{
			{}, cell(c.Sheet, c.Row+1, c.Col), cell(c.Sheet, c.Col+1, c.Row), cell(c.Sheet, c.Col, c.Row+1), cell(c.Sheet, c.Col-1, c.Row), cell(c.Sheet, c.Col, c.Row-1), cell("", c.Col, c.Row), cell(strings.ToUpper(c.Sheet), c.Col, c.Row),
			cell(c.Sheet+"a", c.Col, c.Row), cell(c.Sheet+" ", c.Col, c.Row), cell(c.Sheet[1:], c.Col, c.Row), cell(c.Sheet, -c.Col, c.Row), cell(c.Sheet, c.Col+1<<32, c.Row), cell(c.Sheet, c.Col, c.Row+1<<32), cell(c.Sheet, math.MinInt, math.MaxInt),
		} {
			for _, v := range []api.Value{number(1), text("a"), fault(api.EOver), {Kind: 9}} {
				others = append(others, api.Shown{Cell: o, Value: v})
				check(t, n, []api.Shown{{Cell: o, Value: v}}, api.Value{})
			}
		}
		check(t, n, others, api.Value{})
		check(t, n, append(others, api.Shown{Cell: c, Value: number(3)}), number(3))
	}
}

func TestP1101Bad(t *testing.T) {
	check(t, bad(), nil, fault(api.ERef))
	check(t, bad(), sheets(), fault(api.ERef))
	check(t, minus(bad()), nil, fault(api.ERef))
	check(t, call("ISERR", bad()), nil, truth(1))
	// A cell of no sheet and no place is none that a reference to what is gone would have.
	check(t, bad(), []api.Shown{{Value: number(1)}}, fault(api.ERef))
}

func TestP1101Unary(t *testing.T) {
	n := minus(at("s", 1, 1))
	for _, v := range values() {
		cells := []api.Shown{shows("s", 1, 1, v)}
		check(t, n, cells, arith.Minus(v))
		check(t, minus(n), cells, arith.Minus(arith.Minus(v)))
	}
	check(t, minus(leaf(number(5))), nil, number(-5))
	check(t, minus(leaf(text("5"))), nil, fault(api.EType))
	check(t, minus(leaf(truth(1))), nil, fault(api.EType))
	check(t, n, nil, number(0))
}

func TestP1101Pair(t *testing.T) {
	for _, op := range ops() {
		n := pair(op, at("s", 1, 1), at("s", 2, 1))
		for _, a := range values() {
			for _, b := range values() {
				x, y := a, b
				// To arith a value that may not be is ahead even of an Error; here it shows as an Error itself.
				if !value.Right(x) {
					x = fault(api.EType)
				}
				if !value.Right(y) {
					y = fault(api.EType)
				}
				check(t, n, []api.Shown{shows("s", 1, 1, a), shows("s", 2, 1, b)}, arith.Pair(op, x, y))
			}
		}
		check(t, pair(op, bad(), at("s", 3, 1)), sheets(), fault(api.ERef))
		check(t, pair(op, at("s", 3, 1), bad()), sheets(), fault(api.ENone))
	}
	check(t, pair("-", leaf(number(1)), pair("-", leaf(number(2)), leaf(number(3)))), nil, number(2))
	check(t, pair("-", pair("-", leaf(number(1)), leaf(number(2))), leaf(number(3))), nil, number(-4))
}

// Each kid is an argument of one value, in order, whatever the function.
func TestP1101Call(t *testing.T) {
	for name, many := range names() {
		for _, v := range values() {
			cells := []api.Shown{shows("s", 1, 1, v), shows("s", 2, 1, number(2)), shows("s", 3, 1, text("abcb"))}
			for turn := range 3 {
				var kids []api.Node
				var row [][]api.Value
				for i := range many {
					c := cells[(i+turn)%3]
					kids = append(kids, api.Node{Kind: api.NCell, Cell: c.Cell})
					row = append(row, []api.Value{c.Value})
				}
				check(t, call(name, kids...), cells, funcs.Call(name, row))
				// One too many, and none at all.
				check(t, call(name, append(kids, bad())...), cells, funcs.Call(name, append(row, []api.Value{fault(api.ERef)})))
				check(t, call(name), cells, funcs.Call(name, nil))
			}
		}
	}
}

// A range is one argument, with all its cells, row by row.
func TestP1101CallOfRange(t *testing.T) {
	cells := []api.Shown{shows("s", 3, 3, text("f")), shows("s", 2, 3, text("e")), shows("s", 3, 2, text("b")), shows("s", 2, 4, text("g")), shows("s", 2, 2, text("a")), shows("s", 4, 2, text("c")), shows("s", 2, 2, text("z")), shows("t", 2, 2, text("y")), shows("s", 1, 2, text("x")), shows("s", 5, 2, text("w")), shows("s", 2, 5, text("v"))}
	check(t, call("CONCAT", span("s", 2, 2, 4, 4)), cells, text("abcefg"))
	check(t, call("CONCAT", span("s", 2, 2, 3, 3)), cells, text("abef"))
	check(t, call("CONCAT", leaf(text("<")), span("s", 2, 2, 3, 3), span("t", 1, 1, 3, 3), leaf(number(1)), span("s", 4, 2, 4, 2)), cells, text("<abefy1c"))
	check(t, call("MATCH", leaf(text("e")), span("s", 2, 2, 4, 4)), cells, number(4))
	check(t, call("MATCH", leaf(text("g")), span("s", 2, 2, 4, 4)), cells, number(7))
	check(t, call("MATCH", leaf(text("g")), leaf(text("g"))), cells, number(1))
	// Cells that show nothing are there, too.
	check(t, call("MATCH", at("s", 4, 3), span("s", 2, 2, 4, 4)), cells, number(6))
	check(t, call("COUNTA", span("s", 2, 2, 4, 4)), cells, number(6))
	// A range of one cell is one value; of more, none that a function takes which takes so many.
	check(t, call("LEN", span("s", 2, 2, 2, 2)), cells, number(1))
	check(t, call("LEN", span("s", 2, 2, 3, 2)), cells, fault(api.EArgs))
	check(t, call("IF", leaf(truth(1)), leaf(number(1)), span("s", 2, 2, 3, 2)), cells, fault(api.EArgs))
	check(t, call("IF", leaf(truth(1)), leaf(number(1)), span("s", 2, 2, 2, 2)), cells, number(1))
	for name := range names() {
		var row []api.Value
		for _, c := range []api.Cell{cell("s", 1, 1), cell("s", 2, 1), cell("s", 3, 1), cell("s", 1, 2), cell("s", 2, 2), cell("s", 3, 2), cell("s", 1, 3), cell("s", 2, 3), cell("s", 3, 3)} {
			row = append(row, plainlyShown(sheets(), c))
		}
		n := span("s", 1, 1, 3, 3)
		check(t, call(name, n), sheets(), funcs.Call(name, [][]api.Value{row}))
		check(t, call(name, n, n), sheets(), funcs.Call(name, [][]api.Value{row, row}))
		check(t, call(name, leaf(number(1)), n), sheets(), funcs.Call(name, [][]api.Value{{number(1)}, row}))
	}
}

func TestP1101RangeElsewhere(t *testing.T) {
	for _, n := range []api.Node{span("s", 1, 1, 1, 1), span("s", 1, 1, 3, 3), span("t", 1, 1, 1, 400)} {
		check(t, n, nil, fault(api.EType))
		check(t, n, sheets(), fault(api.EType))
		check(t, minus(n), sheets(), fault(api.EType))
		for _, op := range ops() {
			check(t, pair(op, n, leaf(number(1))), sheets(), fault(api.EType))
			check(t, pair(op, leaf(number(1)), n), sheets(), fault(api.EType))
			check(t, pair(op, n, n), sheets(), fault(api.EType))
			check(t, pair(op, bad(), n), sheets(), fault(api.ERef))
			check(t, pair(op, n, bad()), sheets(), fault(api.EType))
		}
		// Below a call, but not as its own kid.
		check(t, call("SUM", minus(n)), sheets(), fault(api.EType))
		check(t, call("SUM", pair("+", n, leaf(number(1)))), sheets(), fault(api.EType))
		check(t, call("ISERR", minus(n)), sheets(), truth(1))
		check(t, call("COUNTA", minus(n), pair("&", n, n)), sheets(), number(2))
	}
}

func TestP1101Formulas(t *testing.T) {
	for _, x := range []struct {
		says string
		want api.Value
	}{
		{"1+2*3-4", number(3)}, {"7/2", number(3)}, {"-7/2", number(-3)}, {"1/0", fault(api.EDiv)}, {"--A1", number(5)}, {"A1&B1&B2", text("5xTRUE")},
		{"A1", number(5)}, {"B1", text("x")}, {"C1", fault(api.ENone)}, {"C2", api.Value{}}, {"A3", fault(api.EType)}, {"Q77", api.Value{}}, {"t!A1+A1", number(75)}, {"t!ZZ999*2", number(16)}, {"u!A1", api.Value{}}, {"t!Z9", text("far")},
		{"A1>A2", truth(1)}, {"A1=t!A1", truth(0)}, {"B1<B2", truth(1)}, {"C2=D2", truth(1)}, {"A3=A3", fault(api.EType)}, {"C1=C1", fault(api.ENone)},
		{"SUM(A1:B2)", number(3)}, {"SUM(A1:B3)", fault(api.EType)}, {"SUM(A1:C3)", fault(api.ENone)}, {"SUM(A1,A2,t!A1:A9)", number(73)}, {"SUM()", number(0)}, {"COUNTA(A1:C3)", number(7)},
		{"MAX(A1:B2,B3,SUM(A1:A2,200))", number(203)}, {"AVG(A1:A2)", number(1)}, {"AVG(D1:F9)", fault(api.EDiv)},
		{"IF(B2,A1,C1)", number(5)}, {"IF(C2,C1,B1)", text("x")}, {"IF(A1,1,2)", fault(api.EType)}, {"IF(A1>0,C1,1)", fault(api.ENone)}, {"IF(REF!,1,2)", fault(api.ERef)}, {"IF(B2,IF(C2,1,2),3)", number(2)},
		{"CHOOSE(A1-3,REF!,A2,1/0)", number(-2)}, {"ISERR(A3)", truth(1)}, {"ISERR(A1)", truth(0)}, {"ISBLANK(C2)", truth(1)}, {"ISBLANK(A1)", truth(0)}, {"ISBLANK(A3)", fault(api.EType)},
		{"NONE(1/0)", fault(api.EName)}, {"NONE(A1:C3)", fault(api.EName)}, {"NOT(NONE())", fault(api.EName)}, {"NOT(1,1/0)", fault(api.EArgs)}, {"ISERR(NOT())", truth(1)},
		{`LEFT("abc",A1)&RIGHT("abc",1)&MID("abc",2,1)`, text("abccb")}, {`LEFT("abc",A2)`, fault(api.EType)}, {`FIND(B1,"--x")`, number(3)}, {`FIND("y",B1)`, fault(api.ENone)},
		{"MATCH(B2,A1:C3)", number(5)}, {"MATCH(100,A1:C3)", number(8)}, {"MATCH(3,A1:C3)", fault(api.ENone)}, {"MATCH(A1:A2,A1:A2)", fault(api.EArgs)}, {"REF!", fault(api.ERef)}, {"9223372036854775807+1", fault(api.EOver)}, {"-9223372036854775807-1", number(math.MinInt)},
	} {
		check(t, read(t, x.says), sheets(), x.want)
	}
}

// rights are formulas as great as they may be.
func rights() []api.Node {
	return []api.Node{
		deep(api.MaxDepth, bad()), call("A", slices.Repeat([]api.Node{bad()}, tree.MaxKids)...), span("s", 1, 1, 20, 20), span("s", 1, 1, 400, 1), call("ABCDEFGH"), at("abcdefgh", api.MaxCol, api.MaxRow), leaf(text(strings.Repeat("a", api.MaxText))), leaf(number(0)), leaf(truth(0)),
	}
}

// nones are nodes that are no formulas.
func nones() []api.Node {
	return []api.Node{
		{}, {Kind: -1}, {Kind: 8}, {Kind: 1<<32 + api.NBad}, {Kind: math.MinInt}, {Kind: math.MaxInt},
		leaf(api.Value{}), leaf(number(-1)), leaf(fault(api.EDiv)), leaf(fault(api.ERef)), leaf(text(strings.Repeat("a", api.MaxText+1))), leaf(truth(2)), leaf(api.Value{Kind: 9}),
		at("", 0, 0), at("s", 0, 1), at("s", 1, 0), at("S", 1, 1), at("s", api.MaxCol+1, 1), at("s", 1, api.MaxRow+1), at("abcdefghi", 1, 1),
		span("s", 2, 1, 1, 1), span("s", 1, 1, 401, 1), span("s", 1, 1, 21, 20), span("s", 1, 1, 0, 0), {Kind: api.NRange, Cell: cell("s", 1, 1), To: cell("t", 1, 1)},
		minus(), minus(bad(), bad()), {Kind: api.NUnary, Op: "+", Kids: []api.Node{bad()}}, {Kind: api.NUnary, Kids: []api.Node{bad()}},
		pair("+"), pair("+", bad()), pair("+", bad(), bad(), bad()), pair("", bad(), bad()), pair("%", bad(), bad()), pair("==", bad(), bad()),
		call(""), call("sum"), call("TRUE"), call("FALSE"), call("A1"), call("ABCDEFGHI"), call("A", slices.Repeat([]api.Node{bad()}, tree.MaxKids+1)...),
		with(bad(), func(n *api.Node) { n.Op = "-" }), with(bad(), func(n *api.Node) { n.Cell.Row = 1 }), with(bad(), func(n *api.Node) { n.Kids = []api.Node{bad()} }), with(leaf(number(1)), func(n *api.Node) { n.Name = "A" }), with(at("s", 1, 1), func(n *api.Node) { n.To = n.Cell }),
		deep(api.MaxDepth+1, bad()), deep(api.MaxDepth+1, leaf(number(1))),
	}
}

// What is no formula is EType, whatever it or the node above it would show otherwise.
func TestP1101NotRight(t *testing.T) {
	for i, n := range rights() {
		if !tree.Right(n) {
			t.Fatalf("%d is no formula", i)
		}
	}
	check(t, deep(api.MaxDepth, bad()), nil, fault(api.ERef))
	check(t, deep(api.MaxDepth, leaf(number(1))), nil, number(-1))
	check(t, call("COUNTA", slices.Repeat([]api.Node{bad()}, tree.MaxKids)...), nil, number(tree.MaxKids))
	check(t, call("COUNTA", span("s", 1, 1, 400, 1)), sheets(), number(3))
	for i, n := range append(nones(), deep(300000, leaf(number(1)))) {
		if tree.Right(n) {
			t.Fatalf("%d is a formula", i)
		}
		cells := append(sheets(), api.Shown{Cell: n.Cell, Value: number(3)})
		for _, m := range []api.Node{
			n, minus(n), pair("+", bad(), n), pair("+", n, bad()), call("NOPE", n), call("ISERR", n), call("COUNTA", n), call("IF", leaf(truth(1)), leaf(number(1)), n), call("CHOOSE", leaf(number(1)), leaf(number(1)), n), call("NOT", bad(), n),
			call("COUNTA", leaf(number(1)), minus(pair("&", call("ISERR", n), bad()))),
		} {
			if got := Eval(m, cells); got != fault(api.EType) {
				t.Errorf("Eval of none, %d: %v", i, got)
			}
		}
	}
}

// A list of Kids may have itself as an element: that is no formula.
func TestP1101Endless(t *testing.T) {
	for _, n := range []api.Node{minus(bad()), pair("+", bad(), bad()), call("SUM", bad(), bad(), bad())} {
		for i := range n.Kids {
			n.Kids[i] = n
		}
		if got := Eval(n, sheets()); got != fault(api.EType) {
			t.Errorf("Eval of what is endless: %v", got)
		}
	}
}

// chance makes numbers, the same ones each time.
type chance uint32

func (c *chance) below(n int) int {
	*c = *c*1664525 + 1013904223
	return int(*c>>9) % n
}

func pick[T any](c *chance, l []T) T { return l[c.below(len(l))] }

// cells are what some cells show, some of them more than once.
func (c *chance) cells() []api.Shown {
	var out []api.Shown
	for range c.below(30) {
		v := number(c.below(9) - 2)
		if c.below(2) == 0 {
			v = pick(c, plain())
		}
		if c.below(12) == 0 {
			v = pick(c, values())
		}
		out = append(out, shows(pick(c, []string{"s", "s", "s", "t", "T", ""}), c.below(5), c.below(5), v))
	}
	return out
}

// formula makes some formula; one that is no formula only seldom.
func (c *chance) formula(depth int) api.Node {
	kind := c.below(10)
	if depth < 2 {
		kind = c.below(5)
	}
	sheet, col, row := pick(c, []string{"s", "s", "t", "u"}), 1+c.below(4), 1+c.below(4)
	switch kind {
	case 0, 1:
		return leaf(pick(c, []api.Value{number(0), number(1), number(2), number(c.below(50)), text("a"), text("5"), truth(0), truth(1)}))
	case 2, 3:
		return at(sheet, col, row)
	case 4:
		switch c.below(40) {
		case 0:
			return pick(c, nones())
		case 1, 2, 3:
			return bad()
		}
		return span(sheet, col, row, col+c.below(3), row+c.below(3))
	case 5:
		return minus(c.formula(depth - 1))
	case 6:
		return pair(pick(c, ops()), c.formula(depth-1), c.formula(depth-1))
	}
	name := pick(c, sortedNames())
	n := call(name)
	for range names()[name] + c.below(12)/11 {
		kid := c.formula(depth - 1)
		// More often such as most functions take.
		if kid.Kind == api.NRange && names()[name] != 2 && c.below(4) > 0 {
			kid = at(sheet, col, row)
		}
		n.Kids = append(n.Kids, kid)
	}
	return n
}

// plainlyShown is what c shows, found in the plainest way.
func plainlyShown(cells []api.Shown, c api.Cell) api.Value {
	i := slices.IndexFunc(cells, func(x api.Shown) bool { return x.Cell == c })
	switch {
	case i < 0:
		return api.Value{}
	case !value.Right(cells[i].Value):
		return fault(api.EType)
	}
	return cells[i].Value
}

// plainly is Eval of a formula that is Right, in the plainest way: each node is a row of values, and whether it is a range.
func plainly(n api.Node, cells []api.Shown) (row []api.Value, isRange bool) {
	var kids [][]api.Value
	var one []api.Value
	for _, kid := range n.Kids {
		row, isRange := plainly(kid, cells)
		kids = append(kids, row)
		if isRange {
			row = []api.Value{fault(api.EType)}
		}
		one = append(one, row[0])
	}
	v := n.Value
	switch n.Kind {
	case api.NCell:
		v = plainlyShown(cells, n.Cell)
	case api.NUnary:
		v = arith.Minus(one[0])
	case api.NPair:
		v = arith.Pair(n.Op, one[0], one[1])
	case api.NCall:
		v = funcs.Call(n.Name, kids)
	case api.NBad:
		v = fault(api.ERef)
	case api.NRange:
		for r := n.Cell.Row; r <= n.To.Row; r++ {
			for c := n.Cell.Col; c <= n.To.Col; c++ {
				row = append(row, plainlyShown(cells, cell(n.Cell.Sheet, c, r)))
			}
		}
		return row, true
	}
	return []api.Value{v}, false
}

func TestP1101Any(t *testing.T) {
	c := chance(1101)
	kinds, nones := map[int]int{}, 0
	for range 20000 {
		n, cells := c.formula(1+c.below(5)), c.cells()
		want := fault(api.EType)
		if !tree.Right(n) {
			nones++
		} else if row, isRange := plainly(n, cells); !isRange {
			want = row[0]
		}
		check(t, n, cells, want)
		if !value.Right(want) {
			t.Fatalf("Eval(%+v, %v) = %v", n, cells, want)
		}
		kinds[want.Kind]++
	}
	for kind := api.Blank; kind <= api.Error; kind++ {
		if kinds[kind] < 500 {
			t.Errorf("only %d of kind %d", kinds[kind], kind)
		}
	}
	if nones < 50 {
		t.Errorf("only %d are no formulas", nones)
	}
}

// Many cells, each many times, and a formula that reads many ranges.
func TestP1101Large(t *testing.T) {
	var cells []api.Shown
	for turn := range 3 {
		for row := 1; row <= api.MaxRow; row++ {
			for col := 1; col <= 100; col++ {
				cells = append(cells, shows("s", col, row, number(1+turn*7)))
			}
		}
	}
	n := call("SUM")
	for i := range tree.MaxKids {
		n.Kids = append(n.Kids, span("s", 1, 1+20*i, 20, 20+20*i))
	}
	check(t, n, cells, number(400*tree.MaxKids))
	for range 8 {
		n = pair("+", n, n)
	}
	check(t, n, cells, number(256*400*tree.MaxKids))
	check(t, at("s", 100, api.MaxRow), cells, number(1))
	check(t, at("s", 101, api.MaxRow), cells, api.Value{})
}

// copied is n, with lists of its own that have spare room, which mark fills.
func copied(n api.Node, mark api.Node) api.Node {
	kids := slices.Repeat([]api.Node{mark}, len(n.Kids)+3)
	for i, kid := range n.Kids {
		kids[i] = copied(kid, mark)
	}
	n.Kids = kids[:len(n.Kids)]
	return n
}

// checkMarks looks whether the spare room in n is as copied made it.
func checkMarks(t *testing.T, n api.Node, mark api.Node) {
	t.Helper()
	for i, kid := range n.Kids[:cap(n.Kids)] {
		if i < len(n.Kids) {
			checkMarks(t, kid, mark)
		} else if i < len(n.Kids)+3 && !tree.Same(kid, mark) {
			t.Fatalf("spare room of %+v has %+v", n, kid)
		}
	}
}

// What is handed in stays as it is, its spare room, too.
func TestP1102NothingIsTurned(t *testing.T) {
	mark := api.Node{Kind: 99, Op: "mark", Kids: []api.Node{bad()}}
	c := chance(1102)
	for range 3000 {
		n, cells := c.formula(5), c.cells()
		handed := copied(n, mark)
		room := append(slices.Clone(cells), shows("mark", 1, 1, text("mark")), shows("mark", 2, 2, text("mark")))
		Eval(handed, room[:len(cells)])
		checkMarks(t, handed, mark)
		if !tree.Same(handed, n) {
			t.Fatalf("%+v was turned", n)
		}
		if !slices.Equal(room[:len(cells)], cells) || room[len(cells)] != shows("mark", 1, 1, text("mark")) || room[len(cells)+1] != shows("mark", 2, 2, text("mark")) {
			t.Fatalf("%v was turned", cells)
		}
	}
}

// shares tells whether the two have bytes in common.
func shares(a, b string) bool {
	if a == "" || b == "" {
		return false
	}
	x, y := uintptr(unsafe.Pointer(unsafe.StringData(a))), uintptr(unsafe.Pointer(unsafe.StringData(b)))
	return x < y+uintptr(len(b)) && y < x+uintptr(len(a))
}

func TestP1102AnswerIsNew(t *testing.T) {
	written, shown := strings.Clone("abcdef"), strings.Clone("ghijkl")
	cells := []api.Shown{shows("s", 1, 1, text(shown))}
	a, w := at("s", 1, 1), leaf(text(written))
	for _, x := range []struct {
		n    api.Node
		want string
	}{
		{a, shown}, {w, written}, {pair("&", a, leaf(text(""))), shown}, {pair("&", at("s", 9, 9), w), written}, {pair("&", a, w), shown + written}, {call("IF", leaf(truth(1)), a, w), shown}, {call("IF", leaf(truth(0)), a, w), written}, {call("CHOOSE", leaf(number(1)), a), shown},
		{call("CONCAT", a), shown}, {call("CONCAT", span("s", 1, 1, 2, 2)), shown}, {call("LEFT", a, leaf(number(3))), shown[:3]}, {call("RIGHT", w, leaf(number(9))), written}, {call("LOWER", a), shown}, {call("IF", leaf(truth(1)), call("IF", leaf(truth(1)), a, a), a), shown},
	} {
		got := Eval(x.n, cells)
		if got != text(x.want) {
			t.Errorf("Eval(%+v) = %v; want %q", x.n, got, x.want)
		}
		if shares(got.S, written) || shares(got.S, shown) {
			t.Errorf("Eval(%+v) is of the argument's memory", x.n)
		}
	}
}

// A call answers the same whatever was asked ahead of it, and what is told is what is handed in then.
func TestP1102SameAgain(t *testing.T) {
	type asked struct {
		n     api.Node
		cells []api.Shown
		want  api.Value
	}
	c := chance(11021)
	var l []asked
	for range 1000 {
		n, cells := c.formula(4), c.cells()
		l = append(l, asked{n, cells, Eval(n, cells)})
	}
	slices.Reverse(l)
	for _, x := range l {
		check(t, x.n, x.cells, x.want)
	}
	n, cells := call("SUM", at("s", 1, 1), span("s", 1, 1, 2, 1)), []api.Shown{shows("s", 1, 1, number(1)), shows("s", 2, 1, number(10))}
	check(t, n, cells, number(12))
	cells[0].Value = number(2)
	check(t, n, cells, number(14))
	cells[0].Cell.Sheet = "t"
	check(t, n, cells, number(10))
	n.Kids[0] = leaf(number(7))
	check(t, n, cells, number(17))
	check(t, n, nil, number(7))
}

func TestP1102NilIsEmpty(t *testing.T) {
	for _, n := range append(rights(), nones()...) {
		if len(n.Kids) > 0 {
			continue
		}
		empty := with(n, func(n *api.Node) { n.Kids = []api.Node{} })
		if a, b, c := Eval(n, nil), Eval(empty, nil), Eval(n, []api.Shown{}); a != b || a != c {
			t.Errorf("Eval(%+v) = %v, and of empty lists %v, %v", n, a, b, c)
		}
	}
}

func TestP1102TogetherAsAlone(t *testing.T) {
	c := chance(3)
	cells := c.cells()
	var l []api.Node
	var want []api.Value
	for range 1000 {
		n := c.formula(4)
		l, want = append(l, n), append(want, Eval(n, cells))
	}
	done := make(chan int)
	for range 4 {
		go func() {
			wrong := 0
			for i, n := range l {
				if Eval(n, cells) != want[i] {
					wrong++
				}
			}
			done <- wrong
		}()
	}
	for range 4 {
		if wrong := <-done; wrong > 0 {
			t.Errorf("%d answers turned when asked side by side", wrong)
		}
	}
}
