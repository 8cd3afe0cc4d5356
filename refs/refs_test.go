package refs

import (
	"cmp"
	"math"
	"slices"
	"strings"
	"testing"
	"unsafe"

	"abacist/addr"
	"abacist/api"
	"abacist/parse"
	"abacist/tree"
)

func leaf(v api.Value) api.Node { return api.Node{Kind: api.NValue, Value: v} }

func number(n int) api.Node { return leaf(api.Value{Kind: api.Int, N: n}) }

func text(s string) api.Node { return leaf(api.Value{Kind: api.Text, S: s}) }

func cell(sheet string, col, row int) api.Cell { return api.Cell{Sheet: sheet, Col: col, Row: row} }

func at(sheet string, col, row int) api.Node {
	return api.Node{Kind: api.NCell, Cell: cell(sheet, col, row)}
}

func span(sheet string, col, row, toCol, toRow int) api.Node {
	return api.Node{Kind: api.NRange, Cell: cell(sheet, col, row), To: cell(sheet, toCol, toRow)}
}

func minus(l ...api.Node) api.Node { return api.Node{Kind: api.NUnary, Op: "-", Kids: l} }

func pair(op string, l ...api.Node) api.Node { return api.Node{Kind: api.NPair, Op: op, Kids: l} }

func call(name string, l ...api.Node) api.Node {
	return api.Node{Kind: api.NCall, Name: name, Kids: l}
}

func bad() api.Node { return api.Node{Kind: api.NBad} }

func with(n api.Node, turn func(*api.Node)) api.Node {
	turn(&n)
	return n
}

// deep is inner, with as many nodes above it as make it that deep, if inner has no Kids.
func deep(depth int, inner api.Node) api.Node {
	for range depth - 1 {
		inner = minus(inner)
	}
	return inner
}

// line is a node and the cells that it reads, by addr.Less.
type line struct {
	node api.Node
	want []api.Cell
}

// block are the cells from one to another one, by addr.Less.
func block(sheet string, col, row, toCol, toRow int) []api.Cell {
	var out []api.Cell
	for r := row; r <= toRow; r++ {
		for c := col; c <= toCol; c++ {
			out = append(out, cell(sheet, c, r))
		}
	}
	return out
}

// leaves are nodes without Kids that read something.
func leaves() []line {
	out := []line{}
	for _, c := range []api.Cell{
		cell("s", 1, 1), cell("s", 28, 3), cell("s", api.MaxCol, 1), cell("s", 1, api.MaxRow), cell("t", api.MaxCol, api.MaxRow), cell("a0", 2, 1), cell("abcdefgh", 1, 2), cell("z9999999", 3, 4), cell("ref", 1, 1),
	} {
		out = append(out, line{api.Node{Kind: api.NCell, Cell: c}, []api.Cell{c}})
		out = append(out, line{api.Node{Kind: api.NRange, Cell: c, To: c}, []api.Cell{c}})
	}
	for _, r := range [][4]int{
		{1, 1, 2, 1}, {1, 1, 1, 2}, {1, 1, 2, 2}, {3, 5, 6, 9}, {1, 1, 400, 1}, {1, 1, 1, 400}, {1, 1, 20, 20}, {683, 980, 702, 999}, {303, 999, 702, 999}, {702, 600, 702, 999}, {1, 1, 399, 1}, {2, 2, 58, 8},
	} {
		for _, sheet := range []string{"s", "abcdefgh"} {
			out = append(out, line{span(sheet, r[0], r[1], r[2], r[3]), block(sheet, r[0], r[1], r[2], r[3])})
		}
	}
	return out
}

// nothings are nodes without Kids that read nothing.
func nothings() []api.Node {
	out := []api.Node{
		{}, bad(), number(0), number(5), number(-5), text(""), text("s!A1"), text("A1:B2"), leaf(api.Value{Kind: api.Bool, N: 1}), leaf(api.Value{}), leaf(api.Value{Kind: api.Error, N: api.ERef}),
		minus(), pair("+"), call("SUM"), call("A"), call(""),
	}
	for _, c := range wrongCells() {
		out = append(out,
			api.Node{Kind: api.NCell, Cell: c},
			api.Node{Kind: api.NRange, Cell: c, To: c},
			api.Node{Kind: api.NRange, Cell: cell("s", 1, 1), To: c},
			api.Node{Kind: api.NRange, Cell: c, To: cell("s", 2, 2)},
			// What a cell's node has in To is not looked at.
			api.Node{Kind: api.NCell, Cell: c, To: cell("s", 1, 1)},
		)
	}
	for _, r := range [][4]int{
		{2, 1, 1, 1}, {1, 2, 1, 1}, {2, 1, 1, 2}, {1, 2, 2, 1}, {1, 1, 401, 1}, {1, 1, 1, 401}, {1, 1, 20, 21}, {1, 1, 21, 20}, {1, 1, api.MaxCol, api.MaxRow}, {2, 2, 2, 402},
	} {
		out = append(out, span("s", r[0], r[1], r[2], r[3]))
	}
	return append(out, api.Node{Kind: api.NRange, Cell: cell("s", 1, 1), To: cell("t", 1, 1)}, api.Node{Kind: api.NRange, Cell: cell("t", 1, 1), To: cell("s", 2, 2)})
}

func wrongCells() []api.Cell {
	out := []api.Cell{
		{}, cell("s", 0, 1), cell("s", 1, 0), cell("s", -1, 1), cell("s", 1, -1), cell("s", api.MaxCol+1, 1), cell("s", 1, api.MaxRow+1), cell("s", math.MinInt, 1), cell("s", 1, math.MaxInt), cell("s", 1<<32+1, 1), cell("s", 1, 1<<32+1),
	}
	for _, sheet := range []string{"", "S", "sS", "1", "1s", "s!", "s ", " s", "abcdefghi", "\u00e4", "s\x00", "_"} {
		out = append(out, cell(sheet, 1, 1))
	}
	return out
}

// chance makes numbers, the same ones each time.
type chance uint32

func (c *chance) below(n int) int {
	*c = *c*1664525 + 1013904223
	return int(*c>>9) % n
}

func pick[T any](c *chance, l []T) T { return l[c.below(len(l))] }

// node makes some node, of any Kind and with any Kids.
func (c *chance) node(depth int) api.Node {
	n := api.Node{
		Kind: c.below(9),
		Cell: cell(pick(c, []string{"s", "t", "a1", "T"}), c.below(6), c.below(6)),
	}
	if c.below(3) > 0 {
		n.Kind = pick(c, []int{api.NCell, api.NRange})
	}
	n.To = cell(n.Cell.Sheet, n.Cell.Col+c.below(6)-1, n.Cell.Row+c.below(6)-1)
	if c.below(10) == 0 {
		n.To.Sheet = "s"
	}
	if depth > 1 {
		for range c.below(4) {
			n.Kids = append(n.Kids, c.node(depth-1))
		}
	}
	return n
}

// all lists in the plainest way all that n and its Kids read, some of it more than once, in no order.
func all(n api.Node) []api.Cell {
	var out []api.Cell
	switch n.Kind {
	case api.NCell:
		if addr.Right(n.Cell) {
			out = append(out, n.Cell)
		}
	case api.NRange:
		out = append(out, addr.Cells(api.Range{From: n.Cell, To: n.To})...)
	}
	for _, kid := range n.Kids {
		out = append(out, all(kid)...)
	}
	return out
}

func compare(a, b api.Cell) int {
	return cmp.Or(strings.Compare(a.Sheet, b.Sheet), cmp.Compare(a.Row, b.Row), cmp.Compare(a.Col, b.Col))
}

// sorted is l by addr.Less, each once.
func sorted(l ...api.Cell) []api.Cell {
	out := slices.Clone(l)
	slices.SortFunc(out, compare)
	return slices.Compact(out)
}

// sheetsOf are the sheets of l, which is sorted.
func sheetsOf(l []api.Cell) []string {
	var out []string
	for _, c := range l {
		out = append(out, c.Sheet)
	}
	return slices.Compact(out)
}

func check(t *testing.T, n api.Node, want ...api.Cell) {
	t.Helper()
	if got := Cells(n); !slices.Equal(got, want) {
		t.Fatalf("Cells(%+v) = %v, not %v", n, got, want)
	}
	if got := Sheets(n); !slices.Equal(got, sheetsOf(want)) {
		t.Fatalf("Sheets(%+v) = %q, not %q", n, got, sheetsOf(want))
	}
	asked := []api.Cell{{}, n.Cell, n.To, cell("s", 1, 1), cell("t", 1, 1), cell("s", 2, 2), cell("S", 1, 1), cell("s", 0, 1)}
	for i, c := range want {
		if i%37 == 0 || i == len(want)-1 {
			asked = append(asked, around(c)...)
		}
	}
	for _, c := range asked {
		if got := Reads(n, c); got != slices.Contains(want, c) {
			t.Fatalf("Reads(%+v, %v) = %v", n, c, got)
		}
	}
}

// around are c and cells next to it, also such as may not be.
func around(c api.Cell) []api.Cell {
	return []api.Cell{
		c, cell(c.Sheet, c.Col-1, c.Row), cell(c.Sheet, c.Col+1, c.Row), cell(c.Sheet, c.Col, c.Row-1), cell(c.Sheet, c.Col, c.Row+1), cell(c.Sheet, c.Row, c.Col),
		cell(c.Sheet+"a", c.Col, c.Row), cell("", c.Col, c.Row), cell(strings.ToUpper(c.Sheet), c.Col, c.Row), cell(c.Sheet, -c.Col, c.Row), cell(c.Sheet, c.Col+1<<32, c.Row), cell(c.Sheet, c.Col, c.Row+1<<32),
	}
}

func TestP801Example(t *testing.T) {
	if got := Cells(number(1)); len(got) != 0 {
		t.Errorf("Cells of a value: %v", got)
	}
}

func TestP801Leaves(t *testing.T) {
	for _, x := range leaves() {
		check(t, x.node, x.want...)
	}
}

func TestP801Nothing(t *testing.T) {
	for _, n := range nothings() {
		check(t, n)
		check(t, minus(n))
		check(t, call("SUM", n, n, bad()))
		check(t, pair("+", at("s", 2, 1), n), cell("s", 2, 1))
		check(t, pair("+", n, at("s", 2, 1)), cell("s", 2, 1))
	}
	for _, c := range wrongCells() {
		if n := pair("+", api.Node{Kind: api.NCell, Cell: c}, span("s", 1, 1, 20, 20)); Reads(n, c) {
			t.Errorf("Reads(%+v, %v)", n, c)
		}
	}
}

// Only a cell's and a range's node read what they have; what is in fields that the Kind doesn't name is not looked at.
func TestP801Kinds(t *testing.T) {
	a, b := cell("s", 1, 1), cell("s", 2, 2)
	for _, kind := range []int{math.MinInt, -1, 0, api.NValue, api.NUnary, api.NPair, api.NCall, api.NBad, 8, 99, 1<<32 + api.NCell, 1<<32 + api.NRange, math.MaxInt} {
		n := api.Node{Kind: kind, Cell: a, To: b}
		check(t, n)
		n.Kids = []api.Node{at("t", 3, 1)}
		check(t, n, cell("t", 3, 1))
	}
	full := api.Node{Op: "+", Name: "SUM", Value: api.Value{Kind: api.Text, N: 7, S: "s!C3"}, Cell: a, To: b}
	check(t, with(full, func(n *api.Node) { n.Kind = api.NCell }), a)
	check(t, with(full, func(n *api.Node) { n.Kind = api.NCell; n.To = cell("", -1, 0) }), a)
	check(t, with(full, func(n *api.Node) { n.Kind = api.NRange }), block("s", 1, 1, 2, 2)...)
}

// The Kids of each node are looked at, of whatever Kind it is and how many they are.
func TestP801Kids(t *testing.T) {
	kids := []api.Node{at("t", 1, 1), number(1), span("s", 2, 1, 2, 2), minus(at("a", 9, 9)), bad()}
	want := []api.Cell{cell("a", 9, 9), cell("s", 2, 1), cell("s", 2, 2), cell("t", 1, 1)}
	for kind := -1; kind < 10; kind++ {
		n := api.Node{Kind: kind, Kids: kids}
		check(t, n, want...)
		check(t, minus(n), want...)
		check(t, api.Node{Kind: kind, Kids: []api.Node{{Kind: kind, Kids: []api.Node{n}}}}, want...)
	}
	check(t, with(at("s", 1, 1), func(n *api.Node) { n.Kids = kids }), sorted(append(want, cell("s", 1, 1))...)...)
	check(t, with(span("t", 1, 1, 2, 1), func(n *api.Node) { n.Kids = kids }), sorted(append(want, cell("t", 2, 1))...)...)
	check(t, with(at("s", 0, 1), func(n *api.Node) { n.Kids = kids }), want...)
	check(t, with(span("s", 1, 1, 401, 1), func(n *api.Node) { n.Kids = kids }), want...)
}

func TestP801EachOnce(t *testing.T) {
	a := at("s", 2, 2)
	check(t, pair("+", a, a), a.Cell)
	check(t, call("X", a, minus(a), a, pair("*", a, minus(a))), a.Cell)
	check(t, call("X", a, span("s", 2, 2, 2, 2)), a.Cell)
	check(t, call("X", span("s", 1, 1, 2, 2), a), block("s", 1, 1, 2, 2)...)
	check(t, call("X", a, span("s", 1, 1, 2, 2), a), block("s", 1, 1, 2, 2)...)
	check(t, call("X", span("s", 1, 1, 2, 2), span("s", 1, 1, 2, 2)), block("s", 1, 1, 2, 2)...)
	check(t, call("X", span("s", 2, 2, 3, 3), span("s", 1, 1, 2, 2)), cell("s", 1, 1), cell("s", 2, 1), cell("s", 1, 2), cell("s", 2, 2), cell("s", 3, 2), cell("s", 2, 3), cell("s", 3, 3))
	check(t, call("X", span("t", 1, 1, 1, 2), span("s", 1, 1, 1, 2), at("t", 1, 1)), cell("s", 1, 1), cell("s", 1, 2), cell("t", 1, 1), cell("t", 1, 2))
}

// By sheet, then by row, then by column; sheets go byte by byte.
func TestP801Order(t *testing.T) {
	order := []api.Cell{
		cell("a", 1, 1), cell("a", 2, 1), cell("a", 702, 1), cell("a", 1, 2), cell("a", 2, 2), cell("a", 1, 9), cell("a", 1, 10), cell("a", 1, 999),
		cell("a0", 1, 1), cell("a10", 1, 1), cell("a2", 1, 1), cell("aa", 1, 1), cell("ab", 3, 1), cell("b", 27, 1), cell("b", 1, 3), cell("z", 1, 1), cell("z", 26, 1), cell("z", 27, 1),
	}
	c := chance(801)
	for range 200 {
		n := call("X")
		for _, i := range c.shuffled(len(order)) {
			n.Kids = append(n.Kids, api.Node{Kind: api.NCell, Cell: order[i]})
		}
		check(t, n, order...)
		var nested api.Node
		for _, kid := range n.Kids {
			nested = pair("+", nested, kid)
		}
		check(t, nested, order...)
	}
}

// shuffled are the numbers below n, in some order.
func (c *chance) shuffled(n int) []int {
	out := []int{}
	for i := range n {
		out = slices.Insert(out, c.below(i+1), i)
	}
	return out
}

func TestP801Formulas(t *testing.T) {
	for _, x := range []struct {
		says string
		want []api.Cell
	}{
		{"1+2", nil}, {`"A1"&"s!B2"`, nil}, {"SUM()", nil}, {"REF!", nil}, {"TRUE=FALSE", nil},
		{"A1", []api.Cell{cell("s", 1, 1)}}, {"t!A1", []api.Cell{cell("t", 1, 1)}}, {"A1+s!A1+t!A1", []api.Cell{cell("s", 1, 1), cell("t", 1, 1)}},
		{"SUM(A1:B2,B2:B3,-C1)", []api.Cell{cell("s", 1, 1), cell("s", 2, 1), cell("s", 3, 1), cell("s", 1, 2), cell("s", 2, 2), cell("s", 2, 3)}},
		{"IF(u!ZZ999=A1,B1,REF!)", []api.Cell{cell("s", 1, 1), cell("s", 2, 1), cell("u", 702, 999)}},
		{"LOOKUP(1,A1:A3)", block("s", 1, 1, 1, 3)},
	} {
		n, _, e := parse.Parse(x.says, "s")
		if e != api.OK {
			t.Fatalf("Parse(%q): %d", x.says, e)
		}
		check(t, n, x.want...)
	}
}

func TestP801Any(t *testing.T) {
	c := chance(8011)
	some := 0
	for range 5000 {
		n := c.node(1 + c.below(5))
		want := sorted(all(n)...)
		check(t, n, want...)
		if len(want) > 0 {
			some++
		}
		for range 20 {
			x := cell(pick(&c, []string{"s", "t", "a1", "T", "z"}), c.below(12), c.below(12))
			if Reads(n, x) != slices.Contains(want, x) {
				t.Fatalf("Reads(%+v, %v) = %v", n, x, Reads(n, x))
			}
		}
	}
	if some < 2000 {
		t.Errorf("only %d read something", some)
	}
}

// What is read is what Reads tells of all cells that lie about.
func TestP801ReadsOfAll(t *testing.T) {
	n := call("X", span("s", 3, 4, 12, 9), minus(span("t", 5, 1, 5, 20)), span("s", 10, 8, 15, 15), at("t", 20, 20), at("s", 25, 25))
	want := Cells(n)
	for _, sheet := range []string{"s", "t", "u", "", "S"} {
		for _, c := range block(sheet, -1, -1, 30, 30) {
			if Reads(n, c) != slices.Contains(want, c) {
				t.Fatalf("Reads of %v: %v", c, Reads(n, c))
			}
		}
	}
}

// A node may be deeper than formulas are: each call ends all the same.
func TestP801VeryDeep(t *testing.T) {
	check(t, deep(200000, at("s", 3, 4)), cell("s", 3, 4))
	n := bad()
	for i := range 100000 {
		n = pair("+", at("s", 1+i%7, 1+i%5), n)
	}
	check(t, n, block("s", 1, 1, 7, 5)...)
}

// A formula may have the same range at a great many places, and many ranges.
func TestP801Wide(t *testing.T) {
	n := pair("+", span("s", 1, 1, 20, 20), span("t", 1, 1, 20, 20))
	for range api.MaxDepth - 2 {
		n = pair("+", n, n)
	}
	if want := append(block("s", 1, 1, 20, 20), block("t", 1, 1, 20, 20)...); !slices.Equal(Cells(n), want) || !slices.Equal(Sheets(n), []string{"s", "t"}) {
		t.Errorf("%d cells, sheets %q", len(Cells(n)), Sheets(n))
	}
	if !Reads(n, cell("s", 20, 20)) || Reads(n, cell("s", 20, 21)) {
		t.Error("Reads of what is wide")
	}
	var kids []api.Node
	for col := 1; col <= 701; col += 20 {
		for row := 1; row <= 980; row += 20 {
			kids = append(kids, span("s", col, row, min(col+19, 702), row+19))
		}
	}
	if got, want := Cells(call("X", kids...)), block("s", 1, 1, 702, 980); !slices.Equal(got, want) {
		t.Errorf("%d cells, not %d", len(got), len(want))
	}
}

// copied is n, with lists of its own that have spare room.
func copied(n api.Node) api.Node {
	kids := make([]api.Node, len(n.Kids), len(n.Kids)+3)
	for i, kid := range n.Kids {
		kids[i] = copied(kid)
	}
	n.Kids = kids
	return n
}

// What is handed in stays as it is, its spare room, too.
func TestP802NothingIsTurned(t *testing.T) {
	mark := api.Node{Kind: 99, Op: "mark", Kids: []api.Node{bad()}}
	var fill, look func(n api.Node)
	fill = func(n api.Node) {
		for i := range n.Kids[:cap(n.Kids)] {
			if i < len(n.Kids) {
				fill(n.Kids[i])
			} else {
				n.Kids[:cap(n.Kids)][i] = mark
			}
		}
	}
	look = func(n api.Node) {
		for i, kid := range n.Kids[:cap(n.Kids)] {
			if i < len(n.Kids) {
				look(kid)
			} else if !tree.Same(kid, mark) {
				t.Fatalf("spare room of %+v has %+v", n, kid)
			}
		}
	}
	c := chance(802)
	for range 2000 {
		first := c.node(5)
		n := copied(first)
		fill(n)
		Cells(n)
		Reads(n, cell("s", 1, 1))
		Sheets(n)
		look(n)
		if !tree.Same(n, first) {
			t.Fatalf("%+v was turned", first)
		}
	}
}

// sheet is a sheet's name in memory of its own.
func sheet() string { return strings.Clone("abcdefgh") }

func TestP802AnswerIsNew(t *testing.T) {
	n := call("X", at(sheet(), 1, 1), span(sheet(), 2, 2, 3, 3), minus(at(sheet(), 2, 3)), at("s", 1, 1))
	given := map[*byte]struct{}{}
	for _, kid := range []api.Node{n.Kids[0], n.Kids[1], n.Kids[2].Kids[0], n.Kids[3]} {
		given[unsafe.StringData(kid.Cell.Sheet)] = struct{}{}
		given[unsafe.StringData(kid.To.Sheet)] = struct{}{}
	}
	cells, sheets := Cells(n), Sheets(n)
	for _, c := range cells {
		if _, ok := given[unsafe.StringData(c.Sheet)]; ok {
			t.Errorf("%v is of the argument's memory", c)
		}
	}
	for _, s := range sheets {
		if _, ok := given[unsafe.StringData(s)]; ok {
			t.Errorf("%q is of the argument's memory", s)
		}
	}
	wantCells, wantSheets := slices.Clone(cells), slices.Clone(sheets)
	clear(cells[:cap(cells)])
	clear(sheets[:cap(sheets)])
	if got := Cells(n); !slices.Equal(got, wantCells) {
		t.Errorf("Cells = %v behind a turned answer", got)
	}
	if got := Sheets(n); !slices.Equal(got, wantSheets) {
		t.Errorf("Sheets = %q behind a turned answer", got)
	}
}

// A call answers the same whatever was asked ahead of it, and what is told of a node that was turned is what it has then.
func TestP802SameAgain(t *testing.T) {
	c := chance(8021)
	var nodes []api.Node
	var first [][]api.Cell
	for range 500 {
		n := c.node(4)
		nodes, first = append(nodes, n), append(first, Cells(n))
	}
	for i := range nodes {
		k := len(nodes) - 1 - i
		check(t, nodes[k], first[k]...)
	}
	n := pair("+", at("s", 1, 1), at("t", 1, 1))
	check(t, n, cell("s", 1, 1), cell("t", 1, 1))
	n.Kids[0].Cell.Sheet = "u"
	check(t, n, cell("t", 1, 1), cell("u", 1, 1))
	n.Kids[1].Kind = api.NBad
	check(t, n, cell("u", 1, 1))
}
