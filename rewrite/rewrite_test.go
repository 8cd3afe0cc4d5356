package rewrite

import (
	"math"
	"slices"
	"strings"
	"testing"
	"unsafe"

	"abacist/addr"
	"abacist/api"
	"abacist/parse"
	"abacist/printer"
	"abacist/refs"
	"abacist/tree"
)

func leaf(v api.Value) api.Node { return api.Node{Kind: api.NValue, Value: v} }

func number(n int) api.Node { return leaf(api.Value{Kind: api.Int, N: n}) }

func text(s string) api.Node { return leaf(api.Value{Kind: api.Text, S: s}) }

func cell(sheet string, col, row int) api.Cell { return api.Cell{Sheet: sheet, Col: col, Row: row} }

func at(sheet string, col, row int) api.Node {
	return api.Node{Kind: api.NCell, Cell: cell(sheet, col, row)}
}

func span(sheet string, col, row, toCol, toRow int) api.Node {
	return between(cell(sheet, col, row), cell(sheet, toCol, toRow))
}

func between(from, to api.Cell) api.Node { return api.Node{Kind: api.NRange, Cell: from, To: to} }

func minus(l ...api.Node) api.Node { return api.Node{Kind: api.NUnary, Op: "-", Kids: l} }

func pair(op string, l ...api.Node) api.Node { return api.Node{Kind: api.NPair, Op: op, Kids: l} }

func call(name string, l ...api.Node) api.Node {
	return api.Node{Kind: api.NCall, Name: name, Kids: l}
}

func bad() api.Node { return api.Node{Kind: api.NBad} }

// full has something in each field but Kids, and sheet in all that have a sheet's name.
func full(kind int, sheet string, kids ...api.Node) api.Node {
	return api.Node{
		Kind: kind, Op: sheet, Name: sheet, Value: api.Value{Kind: api.Text, N: 7, S: sheet},
		Cell: cell(sheet, -1, math.MaxInt), To: cell(sheet, math.MinInt, 0), Kids: kids,
	}
}

// deep is inner, with as many nodes above it as make it that deep, if inner has no Kids.
func deep(depth int, inner api.Node) api.Node {
	for range depth - 1 {
		inner = minus(inner)
	}
	return inner
}

// names are sheets' names, and what is none.
var names = []string{"s", "t", "u", "ss", "st", "s1", "", "S", " s", "s ", "s!", "s\x00", "abcdefgh", "abcdefghi", "1", "ref", "\u00e4", "\xff"}

func checkRename(t *testing.T, n api.Node, from, to string, want api.Node) {
	t.Helper()
	if got := Rename(n, from, to); !tree.Same(got, want) {
		t.Fatalf("Rename(%+v, %q, %q) = %+v, not %+v", n, from, to, got, want)
	}
}

func checkRemove(t *testing.T, n api.Node, sheet string, want api.Node) {
	t.Helper()
	if got := Remove(n, sheet); !tree.Same(got, want) {
		t.Fatalf("Remove(%+v, %q) = %+v, not %+v", n, sheet, got, want)
	}
}

// checkStays holds both calls to n itself.
func checkStays(t *testing.T, n api.Node, sheet string) {
	t.Helper()
	checkRename(t, n, sheet, "new", n)
	checkRemove(t, n, sheet, n)
}

func TestP901Example(t *testing.T) {
	checkRemove(t, number(1), "s", number(1))
	checkRename(t, number(1), "s", "t", number(1))
}

func TestP901Cell(t *testing.T) {
	for _, is := range names {
		for _, from := range names {
			n := at(is, 3, 4)
			if is != from {
				checkStays(t, n, from)
				continue
			}
			checkRemove(t, n, from, bad())
			for _, to := range names {
				checkRename(t, n, from, to, at(to, 3, 4))
			}
		}
	}
}

// A cell need not be one that may be.
func TestP901CellThatMayNotBe(t *testing.T) {
	for _, col := range []int{math.MinInt, -1, 0, 1, api.MaxCol, api.MaxCol + 1, math.MaxInt} {
		for _, row := range []int{math.MinInt, -1, 0, 1, api.MaxRow, api.MaxRow + 1, math.MaxInt} {
			checkRename(t, at("s", col, row), "s", "t", at("t", col, row))
			checkRemove(t, at("s", col, row), "s", bad())
			checkStays(t, at("s", col, row), "t")
			checkRename(t, span("s", col, row, row, col), "s", "t", span("t", col, row, row, col))
			checkRemove(t, span("s", col, row, row, col), "s", bad())
			checkStays(t, span("s", col, row, row, col), "t")
		}
	}
}

// Each of a range's cells is renamed by itself; the first one alone tells whether the range goes.
func TestP901Range(t *testing.T) {
	for _, first := range names {
		for _, second := range names {
			for _, from := range []string{"s", "", "S", "abcdefgh"} {
				n := between(cell(first, 1, 2), cell(second, 3, 4))
				want := n
				if first == from {
					want.Cell.Sheet = "new"
				}
				if second == from {
					want.To.Sheet = "new"
				}
				checkRename(t, n, from, "new", want)
				if first == from {
					checkRemove(t, n, from, bad())
				} else {
					checkRemove(t, n, from, n)
				}
			}
		}
	}
	checkRename(t, span("s", 1, 1, api.MaxCol, api.MaxRow), "s", "t", span("t", 1, 1, api.MaxCol, api.MaxRow))
	checkRename(t, span("s", 3, 3, 1, 1), "s", "t", span("t", 3, 3, 1, 1))
}

// All that is neither a cell nor a range stays, whatever is in its fields.
func TestP901OtherKinds(t *testing.T) {
	for _, kind := range []int{math.MinInt, -1, 0, api.NValue, api.NUnary, api.NPair, api.NCall, api.NBad, 8, 99, 1<<32 + api.NCell, 1<<32 + api.NRange, math.MaxInt} {
		checkStays(t, api.Node{Kind: kind}, "")
		checkStays(t, full(kind, "s"), "s")
		checkStays(t, minus(full(kind, "s")), "s")
		checkStays(t, full(kind, "s", full(kind, "s")), "s")
	}
	for _, n := range []api.Node{number(0), number(-5), text("s"), text("s!A1"), text(""), leaf(api.Value{Kind: api.Bool, N: 1}), leaf(api.Value{Kind: api.Error, N: api.ERef}), minus(), pair("s"), call("S"), call("s"), call("SUM", number(1), text("s"))} {
		checkStays(t, n, "s")
		checkStays(t, n, "S")
		checkStays(t, n, "")
	}
}

// What is renamed keeps all else that it has; what is removed has nothing.
func TestP901OtherFields(t *testing.T) {
	n := full(api.NCell, "s")
	want := full(api.NCell, "s")
	want.Cell.Sheet = "new"
	checkRename(t, n, "s", "new", want)
	checkRemove(t, n, "s", bad())
	n, want = full(api.NRange, "s"), full(api.NRange, "s")
	want.Cell.Sheet, want.To.Sheet = "new", "new"
	checkRename(t, n, "s", "new", want)
	checkRemove(t, n, "s", bad())
	// A cell has no To: it is neither renamed nor asked.
	n = at("t", 1, 1)
	n.To = cell("s", 2, 2)
	checkStays(t, n, "s")
	checkRename(t, n, "t", "s", api.Node{Kind: api.NCell, Cell: cell("s", 1, 1), To: cell("s", 2, 2)})
	checkRemove(t, n, "t", bad())
	checkRename(t, at("s", 1, 1), "", "new", at("s", 1, 1))
	checkRename(t, api.Node{Kind: api.NCell}, "", "new", api.Node{Kind: api.NCell, Cell: cell("new", 0, 0)})
	checkRename(t, api.Node{Kind: api.NRange}, "", "new", between(cell("new", 0, 0), cell("new", 0, 0)))
	checkRemove(t, api.Node{Kind: api.NCell}, "", bad())
	checkRemove(t, api.Node{Kind: api.NRange}, "", bad())
}

// The Kids of each node are turned, of whatever Kind it is; those of what is removed go with it.
func TestP901Kids(t *testing.T) {
	kids := func(sheet string) []api.Node {
		return []api.Node{at(sheet, 1, 1), number(1), span(sheet, 2, 1, 2, 2), minus(at(sheet, 9, 9)), bad(), at("t", 1, 1), call("X", pair("+", at(sheet, 1, 1), span("t", 1, 1, 2, 2)))}
	}
	gone := []api.Node{bad(), number(1), bad(), minus(bad()), bad(), at("t", 1, 1), call("X", pair("+", bad(), span("t", 1, 1, 2, 2)))}
	for kind := -1; kind < 10; kind++ {
		n := full(kind, "u", kids("s")...)
		checkRename(t, n, "s", "new", full(kind, "u", kids("new")...))
		checkRename(t, call("X", n, n), "s", "new", call("X", full(kind, "u", kids("new")...), full(kind, "u", kids("new")...)))
		checkRemove(t, n, "s", full(kind, "u", gone...))
		checkRemove(t, call("X", n, n), "s", call("X", full(kind, "u", gone...), full(kind, "u", gone...)))
	}
	n, want := full(api.NCell, "s", kids("s")...), full(api.NCell, "s", kids("new")...)
	want.Cell.Sheet = "new"
	checkRename(t, n, "s", "new", want)
	for _, kind := range []int{api.NCell, api.NRange} {
		checkRemove(t, full(kind, "s", kids("t")...), "s", bad())
		checkRemove(t, call("X", full(kind, "s", kids("s")...), number(2)), "s", call("X", bad(), number(2)))
		checkRemove(t, full(kind, "u", full(kind, "s", kids("t")...)), "s", full(kind, "u", bad()))
	}
}

// Each cell is renamed once: what is of sheet to ahead stays there.
func TestP901Once(t *testing.T) {
	n := pair("+", at("s", 1, 1), at("t", 1, 1))
	checkRename(t, n, "s", "t", pair("+", at("t", 1, 1), at("t", 1, 1)))
	checkRename(t, n, "t", "s", pair("+", at("s", 1, 1), at("s", 1, 1)))
	checkRename(t, n, "s", "s", n)
	checkRename(t, n, "u", "s", n)
	checkRename(t, Rename(n, "s", "u"), "u", "s", n)
	checkRemove(t, Remove(n, "s"), "t", pair("+", bad(), bad()))
	checkRemove(t, Rename(n, "s", "t"), "t", pair("+", bad(), bad()))
	checkRemove(t, Rename(n, "s", "t"), "s", pair("+", at("t", 1, 1), at("t", 1, 1)))
	checkRemove(t, bad(), "", bad())
	checkRename(t, Remove(n, "s"), "", "u", pair("+", bad(), at("t", 1, 1)))
}

func TestP901Formulas(t *testing.T) {
	for _, x := range []struct{ says, renamed, removed string }{
		{"1+2", "(1+2)", "(1+2)"},
		{`"s!A1"`, `"s!A1"`, `"s!A1"`},
		{"S1", "new!S1", "REF!"},
		{"A1+t!A1", "(new!A1+t!A1)", "(REF!+t!A1)"},
		{"ss!A1-s!A1", "(ss!A1-new!A1)", "(ss!A1-REF!)"},
		{"SUM(A1:B2,-t!A1:B2,REF!)", "SUM(new!A1:B2,-t!A1:B2,REF!)", "SUM(REF!,-t!A1:B2,REF!)"},
		{"IF(A1=TRUE,-s!ZZ999,S())", "IF((new!A1=TRUE),-new!ZZ999,S())", "IF((REF!=TRUE),-REF!,S())"},
	} {
		n, _, e := parse.Parse(x.says, "s")
		if e != api.OK {
			t.Fatalf("Parse(%q): %d", x.says, e)
		}
		if got := printer.Print(Rename(n, "s", "new")); got != x.renamed {
			t.Errorf("Rename of %q: %q", x.says, got)
		}
		if got := printer.Print(Remove(n, "s")); got != x.removed {
			t.Errorf("Remove of %q: %q", x.says, got)
		}
	}
}

// chance makes numbers, the same ones each time.
type chance uint32

func (c *chance) below(n int) int {
	*c = *c*1664525 + 1013904223
	return int(*c>>9) % n
}

func pick[T any](c *chance, l []T) T { return l[c.below(len(l))] }

func (c *chance) cell() api.Cell {
	return cell(pick(c, []string{"s", "s", "t", "a1", "T", ""}), c.below(6)-1, c.below(6)-1)
}

// node makes some node, of any Kind and with any fields and Kids.
func (c *chance) node(depth int) api.Node {
	n := api.Node{
		Kind: c.below(9), Op: pick(c, []string{"", "-", "+", "s"}), Name: pick(c, []string{"", "SUM", "s"}),
		Value: api.Value{Kind: c.below(6), N: c.below(9) - 4, S: pick(c, []string{"", "s", "x"})},
		Cell:  c.cell(), To: c.cell(),
	}
	if c.below(3) > 0 {
		n.Kind = pick(c, []int{api.NCell, api.NRange, api.NCall})
	}
	if depth > 1 {
		for range c.below(4) {
			n.Kids = append(n.Kids, c.node(depth-1))
		}
	}
	return n
}

// formula makes some formula that is Right.
func (c *chance) formula(depth int) api.Node {
	kind := c.below(9)
	if depth < 2 {
		kind = c.below(5)
	}
	switch kind {
	case 0:
		return number(c.below(100))
	case 1, 2:
		return at(pick(c, []string{"s", "t", "u"}), 1+c.below(4), 1+c.below(4))
	case 3:
		col, row := 1+c.below(4), 1+c.below(4)
		return span(pick(c, []string{"s", "t", "u"}), col, row, col+c.below(3), row+c.below(3))
	case 4:
		return bad()
	case 5:
		return minus(c.formula(depth - 1))
	case 6, 7:
		return pair(pick(c, []string{"+", "<>", "&"}), c.formula(depth-1), c.formula(depth-1))
	}
	n := call("SUM")
	for range c.below(5) {
		n.Kids = append(n.Kids, c.formula(depth-1))
	}
	return n
}

// renamedPlainly is Rename, in the plainest way.
func renamedPlainly(n api.Node, from, to string) api.Node {
	if (n.Kind == api.NCell || n.Kind == api.NRange) && n.Cell.Sheet == from {
		n.Cell.Sheet = to
	}
	if n.Kind == api.NRange && n.To.Sheet == from {
		n.To.Sheet = to
	}
	n.Kids = slices.Clone(n.Kids)
	for i := range n.Kids {
		n.Kids[i] = renamedPlainly(n.Kids[i], from, to)
	}
	return n
}

// removedPlainly is Remove, in the plainest way.
func removedPlainly(n api.Node, sheet string) api.Node {
	if n.Kind == api.NCell && n.Cell.Sheet == sheet {
		return bad()
	}
	if n.Kind == api.NRange && n.Cell.Sheet == sheet {
		return bad()
	}
	n.Kids = slices.Clone(n.Kids)
	for i := range n.Kids {
		n.Kids[i] = removedPlainly(n.Kids[i], sheet)
	}
	return n
}

func TestP901Any(t *testing.T) {
	c := chance(901)
	renamed, removed := 0, 0
	for range 10000 {
		n := c.node(1 + c.below(5))
		from, to := pick(&c, []string{"s", "t", "a1", "T", "", "z"}), pick(&c, []string{"s", "t", "new", ""})
		want := renamedPlainly(n, from, to)
		checkRename(t, n, from, to, want)
		if !tree.Same(n, want) {
			renamed++
		}
		want = removedPlainly(n, from)
		checkRemove(t, n, from, want)
		if !tree.Same(n, want) {
			removed++
		}
	}
	if renamed < 2500 || removed < 2500 {
		t.Errorf("only %d were renamed, %d removed", renamed, removed)
	}
}

// What a formula reads is what it read, on the other sheet; or all but what was on the removed one.
func TestP901WhatIsRead(t *testing.T) {
	c := chance(9011)
	for range 2000 {
		n := c.formula(6)
		var moved, kept []api.Cell
		for _, x := range refs.Cells(n) {
			if x.Sheet != "s" {
				moved, kept = append(moved, x), append(kept, x)
				continue
			}
			x.Sheet = "new"
			moved = append(moved, x)
		}
		slices.SortFunc(moved, func(a, b api.Cell) int {
			if addr.Less(a, b) {
				return -1
			}
			return 1
		})
		renamed, removed := Rename(n, "s", "new"), Remove(n, "s")
		if got := refs.Cells(renamed); !slices.Equal(got, moved) {
			t.Fatalf("Rename of %s reads %v, not %v", printer.Print(n), got, moved)
		}
		if got := refs.Cells(removed); !slices.Equal(got, kept) {
			t.Fatalf("Remove of %s reads %v, not %v", printer.Print(n), got, kept)
		}
		if !tree.Right(renamed) || !tree.Right(removed) || tree.Depth(renamed) != tree.Depth(n) || tree.Depth(removed) != tree.Depth(n) {
			t.Fatalf("of %s: %+v, %+v", printer.Print(n), renamed, removed)
		}
		if !tree.Same(Rename(renamed, "new", "s"), n) {
			t.Fatalf("%s is another one there and back", printer.Print(n))
		}
	}
}

// A node may be deeper than formulas are: each call ends all the same.
func TestP901VeryDeep(t *testing.T) {
	n := deep(200000, at("s", 3, 4))
	checkRename(t, n, "s", "t", deep(200000, at("t", 3, 4)))
	checkRemove(t, n, "s", deep(200000, bad()))
	checkStays(t, n, "t")
	long := func(leaf api.Node) api.Node {
		n := leaf
		for range 100000 {
			n = pair("+", leaf, n)
		}
		return n
	}
	checkRename(t, long(at("s", 1, 1)), "s", "t", long(at("t", 1, 1)))
	checkRemove(t, long(at("s", 1, 1)), "s", long(bad()))
	under := at("t", 1, 1)
	for range 100000 {
		under = api.Node{Kind: api.NCell, Cell: cell("s", 1, 1), Kids: []api.Node{under}}
	}
	checkRemove(t, under, "s", bad())
	if got := Rename(under, "s", "t"); tree.Depth(got) != 100001 || len(refs.Sheets(got)) != 1 || refs.Sheets(got)[0] != "t" {
		t.Errorf("Rename of cells below cells: %d deep, of %q", tree.Depth(got), refs.Sheets(got))
	}
}

func TestP901Wide(t *testing.T) {
	var kids, renamed, removed []api.Node
	for i := range 100000 {
		if i%3 == 0 {
			kids, renamed, removed = append(kids, at("t", i, i)), append(renamed, at("t", i, i)), append(removed, at("t", i, i))
		} else {
			kids, renamed, removed = append(kids, at("s", i, i)), append(renamed, at("new", i, i)), append(removed, bad())
		}
	}
	checkRename(t, call("X", kids...), "s", "new", call("X", renamed...))
	checkRemove(t, call("X", kids...), "s", call("X", removed...))
	// A formula may have the same Kids at a great many places.
	n, want, gone := span("s", 1, 1, 2, 2), span("t", 1, 1, 2, 2), bad()
	for range 14 {
		n, want, gone = pair("+", n, n), pair("+", want, want), pair("+", gone, gone)
	}
	checkRename(t, n, "s", "t", want)
	checkRemove(t, n, "s", gone)
}

// roomy is n, with lists of its own that have spare room.
func roomy(n api.Node) api.Node {
	kids := make([]api.Node, len(n.Kids), len(n.Kids)+3)
	for i, kid := range n.Kids {
		kids[i] = roomy(kid)
	}
	n.Kids = kids
	return n
}

// What is handed in stays as it is, its spare room, too.
func TestP902NothingIsTurned(t *testing.T) {
	mark := api.Node{Kind: 99, Op: "mark", Kids: []api.Node{bad()}}
	var fill, look func(n api.Node)
	fill = func(n api.Node) {
		for i := range n.Kids[:cap(n.Kids)] {
			if i < len(n.Kids) {
				fill(n.Kids[i])
			} else {
				n.Kids[:cap(n.Kids)][i] = mark
			}
		}
	}
	look = func(n api.Node) {
		for i, kid := range n.Kids[:cap(n.Kids)] {
			if i < len(n.Kids) {
				look(kid)
			} else if !tree.Same(kid, mark) {
				t.Fatalf("spare room of %+v has %+v", n, kid)
			}
		}
	}
	c := chance(902)
	for range 2000 {
		first := c.node(5)
		n := roomy(first)
		fill(n)
		for _, answer := range []api.Node{Rename(n, "s", "t"), Rename(n, "z", "t"), Remove(n, "s"), Remove(n, "z")} {
			scribble(answer)
		}
		look(n)
		if !tree.Same(n, first) {
			t.Fatalf("%+v was turned", first)
		}
	}
}

// scribble turns all the lists of n, their spare room, too.
func scribble(n api.Node) {
	for _, kid := range n.Kids {
		scribble(kid)
	}
	all := n.Kids[:cap(n.Kids)]
	for i := range all {
		all[i] = api.Node{Kind: 77, Op: "scribble", Kids: []api.Node{number(i)}}
	}
}

// texts are where the bytes of all texts of n are.
func texts(n api.Node) map[*byte]string {
	out := map[*byte]string{}
	for _, s := range []string{n.Op, n.Name, n.Value.S, n.Cell.Sheet, n.To.Sheet} {
		if s != "" {
			out[unsafe.StringData(s)] = s
		}
	}
	for _, kid := range n.Kids {
		for at, s := range texts(kid) {
			out[at] = s
		}
	}
	return out
}

// lists are where all lists of n are, and how often.
func lists(n api.Node, out map[*api.Node]int) map[*api.Node]int {
	if cap(n.Kids) > 0 {
		out[unsafe.SliceData(n.Kids)]++
	}
	for _, kid := range n.Kids {
		lists(kid, out)
	}
	return out
}

func TestP902AnswerIsNew(t *testing.T) {
	shared := pair("+", at("s", 1, 1), text("x"))
	spare := make([]api.Node, 0, 4)
	n := call("X", shared, shared, span("s", 1, 1, 2, 2), full(api.NCell, "t", shared), full(api.NRange, "s"), full(api.NBad, "s"), full(0, "s", minus(shared)), call("A", spare...), call("B", spare...))
	to := strings.Clone("new")
	for _, answer := range []api.Node{Rename(n, "s", to), Rename(n, "z", to), Remove(n, "s"), Remove(n, "z"), Rename(n, "s", "s")} {
		given := texts(n)
		given[unsafe.StringData(to)] = to
		for at, s := range texts(answer) {
			if _, ok := given[at]; ok {
				t.Errorf("the text %q is of an argument's memory", s)
			}
		}
		handed := lists(n, map[*api.Node]int{})
		for at, times := range lists(answer, map[*api.Node]int{}) {
			if handed[at] > 0 || times > 1 {
				t.Errorf("the list of %+v is there %d times, %d times in the argument", *at, times, handed[at])
			}
		}
	}
}

// A call answers the same whatever was asked ahead of it, and what is told of a node that was turned is what it has then.
func TestP902SameAgain(t *testing.T) {
	c := chance(9021)
	var nodes, renamed, removed []api.Node
	for range 500 {
		n := c.node(4)
		nodes, renamed, removed = append(nodes, n), append(renamed, Rename(n, "s", "new")), append(removed, Remove(n, "s"))
	}
	for i := range nodes {
		k := len(nodes) - 1 - i
		checkRename(t, nodes[k], "s", "new", renamed[k])
		checkRemove(t, nodes[k], "s", removed[k])
	}
	n := pair("+", at("s", 1, 1), at("t", 1, 1))
	checkRemove(t, n, "s", pair("+", bad(), at("t", 1, 1)))
	n.Kids[1].Cell.Sheet = "s"
	checkRemove(t, n, "s", pair("+", bad(), bad()))
	checkRename(t, n, "s", "u", pair("+", at("u", 1, 1), at("u", 1, 1)))
	n.Kids[0].Kind = api.NBad
	checkRename(t, n, "s", "u", pair("+", api.Node{Kind: api.NBad, Cell: cell("s", 1, 1)}, at("u", 1, 1)))
}
