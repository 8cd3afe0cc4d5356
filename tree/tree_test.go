package tree

import (
	"math"
	"slices"
	"strings"
	"testing"

	"abacist/api"
	"abacist/arith"
)

func number(n int) api.Value  { return api.Value{Kind: api.Int, N: n} }
func text(s string) api.Value { return api.Value{Kind: api.Text, S: s} }

func cell(sheet string, col, row int) api.Cell { return api.Cell{Sheet: sheet, Col: col, Row: row} }

func leaf(v api.Value) api.Node { return api.Node{Kind: api.NValue, Value: v} }

func at(c api.Cell) api.Node { return api.Node{Kind: api.NCell, Cell: c} }

func area(from, to api.Cell) api.Node { return api.Node{Kind: api.NRange, Cell: from, To: to} }

func span(col, row, toCol, toRow int) api.Node {
	return area(cell("s", col, row), cell("s", toCol, toRow))
}

func minus(l ...api.Node) api.Node { return api.Node{Kind: api.NUnary, Op: "-", Kids: l} }

func pair(op string, l ...api.Node) api.Node { return api.Node{Kind: api.NPair, Op: op, Kids: l} }

func call(name string, l ...api.Node) api.Node {
	return api.Node{Kind: api.NCall, Name: name, Kids: l}
}

func bad() api.Node { return api.Node{Kind: api.NBad} }

// bads are n formulas.
func bads(n int) []api.Node { return slices.Repeat([]api.Node{bad()}, n) }

// deep is inner, with as many nodes above it as make it that deep, if inner has no Kids.
func deep(depth int, inner api.Node) api.Node {
	for range depth - 1 {
		inner = minus(inner)
	}
	return inner
}

func with(n api.Node, turn func(*api.Node)) api.Node {
	turn(&n)
	return n
}

func ops() []string { return strings.Fields("+ - * / & = <> < > <= >=") }

// noOps are no ops of a pair.
func noOps() []string {
	return append(strings.Fields("( ) , : ! % ^ == >< =< => != << >> ++ -- ** && || # \u2212 \u00d7 AND MOD +a a+ -1 <>= \x00 \xff"), "", " ", "+ ", " +", "< >", "+\x00")
}

// calls are names that functions may have, be there one or not.
func calls() []string {
	return []string{"A", "Z", "IF", "SUM", "REF", "TRU", "TRUEE", "ATRUE", "FALS", "FALSEX", "TRUEFALS", "ABCDEFGH", "ZZZZZZZZ", "TRUETRUE"}
}

func noCalls() []string {
	return []string{
		"", "TRUE", "FALSE", "ABCDEFGHI", strings.Repeat("A", 300), "a", "z", "sum", "Sum", "sUM", "SUm", "true", "A1", "1A", "1", "A_", "_A", "A B", " A", "A ", "A!", "A(", "A\x00", "\x00",
		"@", "[", "A@", "A[", "\u00c4", "A\u00c4", "\uff21", "A\xff", "\xff",
	}
}

// rights are formulas of all kinds that may be.
func rights() []api.Node {
	out := []api.Node{
		leaf(number(0)), leaf(number(1)), leaf(number(math.MaxInt)), leaf(text("")), leaf(text("a")), leaf(text("\x00\xff\"")), leaf(text(strings.Repeat("a", api.MaxText))), leaf(api.Value{Kind: api.Bool}), leaf(api.Value{Kind: api.Bool, N: 1}),
		at(cell("s", 1, 1)), at(cell("abcdefgh", api.MaxCol, api.MaxRow)), at(cell("a0", 1, api.MaxRow)), at(cell("z", api.MaxCol, 1)),
		span(1, 1, 1, 1), span(api.MaxCol, api.MaxRow, api.MaxCol, api.MaxRow), span(2, 3, 4, 5), span(1, 1, 20, 20), span(1, 1, 400, 1), span(1, 1, 1, 400), span(303, 999, 702, 999), span(702, 600, 702, 999), span(1, 1, 19, 21), area(cell("abcdefgh", 1, 1), cell("abcdefgh", 2, 2)),
		bad(), call("A"), minus(bad()), minus(minus(leaf(number(1)))), minus(span(1, 1, 2, 2)),
		call("SUM", span(1, 1, 2, 2), bad(), leaf(text("a")), call("IF"), minus(at(cell("t", 1, 1))), pair("&", bad(), bad())),
	}
	for _, op := range ops() {
		out = append(out, pair(op, bad(), leaf(number(1))), pair(op, minus(bad()), span(1, 1, 1, 1)), minus(pair(op, call("X"), at(cell("s", 1, 1)))))
	}
	for _, name := range calls() {
		out = append(out, call(name), call(name, leaf(number(7))), call(name, call(name)))
	}
	for n := range MaxKids + 1 {
		out = append(out, call("SUM", bads(n)...))
	}
	return out
}

// noValues are values that may not be, or may not stand in a formula.
func noValues() []api.Value {
	out := []api.Value{
		{}, {N: 1}, {S: "a"}, {N: -1, S: "a"},
		number(-1), number(-2), number(math.MinInt), {Kind: api.Int, S: "a"}, {Kind: api.Int, N: 1, S: "a"}, {Kind: api.Int, N: -1, S: "a"},
		{Kind: api.Text, N: 1}, {Kind: api.Text, N: -1, S: "a"}, text(strings.Repeat("a", api.MaxText+1)), text(strings.Repeat("\u00e9", api.MaxText/2+1)), text(strings.Repeat("a", 256)),
		{Kind: api.Bool, N: 2}, {Kind: api.Bool, N: -1}, {Kind: api.Bool, N: math.MaxInt}, {Kind: api.Bool, S: "a"}, {Kind: api.Bool, N: 1, S: "TRUE"},
		{Kind: api.Error, N: 1, S: "a"}, {Kind: 5}, {Kind: 5, N: 1}, {Kind: -1}, {Kind: math.MaxInt}, {Kind: math.MinInt}, {Kind: 1<<32 + 1},
	}
	// An Error that is value.Right is written in no formula.
	for n := -1; n <= api.ENone+1; n++ {
		out = append(out, api.Value{Kind: api.Error, N: n})
	}
	return out
}

func noCells() []api.Cell {
	return []api.Cell{
		{}, cell("", 1, 1), cell("S", 1, 1), cell("1", 1, 1), cell("abcdefghi", 1, 1), cell("s!", 1, 1), cell("s\x00", 1, 1), cell("\u00e9", 1, 1),
		cell("s", 0, 1), cell("s", 1, 0), cell("s", 0, 0), cell("s", -1, 1), cell("s", 1, -1), cell("s", api.MaxCol+1, 1), cell("s", 1, api.MaxRow+1), cell("s", math.MaxInt, 1), cell("s", 1, math.MaxInt), cell("s", math.MinInt, 1), cell("s", 1, math.MinInt),
	}
}

// noRanges are ranges without an Area, or of too great a one.
func noRanges() []api.Node {
	out := []api.Node{
		span(2, 1, 1, 1), span(1, 2, 1, 1), span(2, 2, 1, 1), span(2, 1, 1, 2), span(1, 2, 2, 1), span(702, 999, 1, 1),
		span(1, 1, 401, 1), span(1, 1, 1, 401), span(1, 1, 20, 21), span(1, 1, 21, 20), span(1, 1, 702, 999), span(math.MinInt, math.MinInt, math.MaxInt, math.MaxInt), span(0, 0, 0, 0),
		area(cell("s", 1, 1), cell("t", 1, 1)), area(cell("s", 1, 1), cell("ss", 2, 2)), area(cell("t", 1, 1), cell("s", 2, 2)), area(cell("s", 1, 1), cell("", 2, 2)), area(cell("s", 1, 1), cell("S", 1, 1)),
		{Kind: api.NRange, Cell: cell("s", 1, 1)}, {Kind: api.NRange, To: cell("s", 1, 1)},
	}
	for _, c := range noCells() {
		out = append(out, area(c, c), area(c, cell(c.Sheet, 2, 2)), area(cell(c.Sheet, 1, 1), c), area(cell("s", 1, 1), c), area(c, cell("s", 1, 1)))
	}
	return out
}

// wrongs are nodes that may not be, for themselves: without what their Kids are.
func wrongs() []api.Node {
	var out []api.Node
	for _, kind := range []int{0, -1, 8, 9, 255, 256, 257, 1<<32 + 1, 1<<32 + api.NBad, math.MinInt, math.MaxInt} {
		out = append(out, api.Node{Kind: kind})
		for _, n := range rights()[:40] {
			n.Kind = kind
			out = append(out, n)
		}
	}
	for _, v := range noValues() {
		out = append(out, leaf(v))
	}
	for _, c := range noCells() {
		out = append(out, at(c))
	}
	out = append(out, noRanges()...)
	for _, op := range append(noOps(), ops()...) {
		if op != "-" {
			out = append(out, api.Node{Kind: api.NUnary, Op: op, Kids: bads(1)})
		}
	}
	for _, op := range noOps() {
		out = append(out, pair(op, bads(2)...))
	}
	for _, name := range noCalls() {
		out = append(out, call(name), call(name, bad()))
	}
	for n := range 30 {
		if n != 1 {
			out = append(out, minus(bads(n)...))
		}
		if n != 2 {
			out = append(out, pair("-", bads(n)...), pair("+", bads(n)...))
		}
		if n > 20 {
			out = append(out, call("SUM", bads(n)...))
		}
	}
	return out
}

// spoilers give a field something that its kind may not name.
type spoiler struct {
	kinds []int // that name it
	turn  func(*api.Node)
}

func spoilers() []spoiler {
	ofCells := []int{api.NCell, api.NRange}
	return []spoiler{
		{[]int{api.NUnary, api.NPair}, func(n *api.Node) { n.Op = "-" }},
		{[]int{api.NUnary, api.NPair}, func(n *api.Node) { n.Op = "+" }},
		{[]int{api.NUnary, api.NPair}, func(n *api.Node) { n.Op = "\x00" }},
		{[]int{api.NCall}, func(n *api.Node) { n.Name = "SUM" }},
		{[]int{api.NCall}, func(n *api.Node) { n.Name = "\x00" }},
		{[]int{api.NValue}, func(n *api.Node) { n.Value = number(0) }},
		{[]int{api.NValue}, func(n *api.Node) { n.Value = text("a") }},
		{[]int{api.NValue}, func(n *api.Node) { n.Value.N = 1 }},
		{[]int{api.NValue}, func(n *api.Node) { n.Value.N = -1 }},
		{[]int{api.NValue}, func(n *api.Node) { n.Value.S = "a" }},
		{ofCells, func(n *api.Node) { n.Cell = cell("s", 1, 1) }},
		{ofCells, func(n *api.Node) { n.Cell.Sheet = "s" }},
		{ofCells, func(n *api.Node) { n.Cell.Col = 1 }},
		{ofCells, func(n *api.Node) { n.Cell.Row = -1 }},
		{[]int{api.NRange}, func(n *api.Node) { n.To = cell("s", 1, 1) }},
		{[]int{api.NRange}, func(n *api.Node) { n.To = n.Cell; n.To.Col++ }},
		{[]int{api.NRange}, func(n *api.Node) { n.To.Sheet = "s" }},
		{[]int{api.NRange}, func(n *api.Node) { n.To.Col = 1 }},
		{[]int{api.NRange}, func(n *api.Node) { n.To.Row = -1 }},
		{[]int{api.NUnary, api.NPair, api.NCall}, func(n *api.Node) { n.Kids = bads(1) }},
		{[]int{api.NUnary, api.NPair, api.NCall}, func(n *api.Node) { n.Kids = bads(2) }},
		{[]int{api.NUnary, api.NPair, api.NCall}, func(n *api.Node) { n.Kids = []api.Node{{}} }},
	}
}

// chance makes numbers, the same ones in each run.
type chance uint32

func (c *chance) below(n int) int {
	*c = *c*1664525 + 1013904223
	return int(*c>>9) % n
}

// formula makes a formula that may be, of a depth of at most depth.
func (c *chance) formula(depth int) api.Node {
	k := 9
	if depth < 2 {
		k = 5
	}
	switch c.below(k) {
	case 0:
		return leaf(number(c.below(3)))
	case 1:
		return leaf([]api.Value{text(""), text("a"), {Kind: api.Bool}, {Kind: api.Bool, N: 1}}[c.below(4)])
	case 2:
		return at(cell([]string{"s", "t"}[c.below(2)], 1+c.below(2), 1+c.below(2)))
	case 3:
		return span(1, 1+c.below(2), 1+c.below(2), 2)
	case 4:
		return bad()
	case 5:
		return minus(c.formula(depth - 1))
	case 6, 7:
		return pair(ops()[c.below(11)], c.formula(depth-1), c.formula(depth-1))
	}
	n := call(calls()[c.below(len(calls()))])
	for range c.below(4) {
		n.Kids = append(n.Kids, c.formula(depth-1))
	}
	return n
}

// copied is n in memory of its own, each list of Kids with some spare room.
func copied(n api.Node) api.Node {
	kids := make([]api.Node, 0, len(n.Kids)+2)
	for _, kid := range n.Kids {
		kids = append(kids, copied(kid))
	}
	n.Kids = kids
	return n
}

// equal and depthOf say in the shortest way what Same and Depth are held to.

func equal(a, b api.Node) bool {
	return a.Kind == b.Kind && a.Op == b.Op && a.Name == b.Name && a.Value == b.Value && a.Cell == b.Cell && a.To == b.To && slices.EqualFunc(a.Kids, b.Kids, equal)
}

func depthOf(n api.Node) int {
	most := 0
	for _, kid := range n.Kids {
		most = max(most, depthOf(kid))
	}
	return 1 + most
}

func checkRight(t *testing.T, n api.Node, want bool) {
	t.Helper()
	if got := Right(n); got != want {
		t.Errorf("Right(%+v) = %v", n, got)
	}
}

func checkDepth(t *testing.T, n api.Node, want int) {
	t.Helper()
	if got := Depth(n); got != want {
		t.Errorf("Depth = %d; want %d", got, want)
	}
}

func TestP501Right(t *testing.T) {
	for _, n := range rights() {
		checkRight(t, n, true)
		// A list that is empty is as one that is nil.
		checkRight(t, copied(n), true)
	}
}

func TestP501RightOfWrong(t *testing.T) {
	for _, n := range wrongs() {
		checkRight(t, n, false)
	}
}

// A Kid that is not Right spoils what is above it, wherever it stands.
func TestP501RightOfWrongKids(t *testing.T) {
	for _, n := range wrongs() {
		checkRight(t, minus(n), false)
		checkRight(t, pair("+", n, bad()), false)
		checkRight(t, pair("+", bad(), n), false)
		checkRight(t, call("SUM", n), false)
		checkRight(t, call("SUM", append(bads(MaxKids-1), n)...), false)
		checkRight(t, call("SUM", bad(), n, bad()), false)
		checkRight(t, deep(api.MaxDepth, n), false)
		checkRight(t, call("IF", bad(), pair("&", minus(n), bad()), bad()), false)
	}
}

func TestP501RightOfOtherFields(t *testing.T) {
	for _, n := range rights() {
		for i, s := range spoilers() {
			if slices.Contains(s.kinds, n.Kind) {
				continue
			}
			if x := with(n, s.turn); Right(x) {
				t.Errorf("Right of a spoilt field, %d: %+v", i, x)
			}
		}
	}
}

func TestP501RightOfNumbers(t *testing.T) {
	for n := -300; n <= 300; n++ {
		checkRight(t, leaf(number(n)), n >= 0)
		checkRight(t, leaf(api.Value{Kind: api.Bool, N: n}), n == 0 || n == 1)
		checkRight(t, leaf(api.Value{Kind: api.Error, N: n}), false)
		checkRight(t, leaf(api.Value{Kind: n}), n == api.Int || n == api.Text || n == api.Bool)
		checkRight(t, api.Node{Kind: n}, n == api.NBad)
	}
	for shift := range 64 {
		checkRight(t, leaf(number(1<<shift)), shift < 63)
		checkRight(t, leaf(number(-1<<shift)), false)
	}
}

func TestP501RightOfTexts(t *testing.T) {
	for n := range 2 * api.MaxText {
		checkRight(t, leaf(text(strings.Repeat("\xff", n))), n <= api.MaxText)
	}
}

func TestP501RightOfRanges(t *testing.T) {
	const side = 30
	for cols := -2; cols <= side; cols++ {
		for rows := -2; rows <= side; rows++ {
			n := span(5, 5, 4+cols, 4+rows)
			checkRight(t, n, cols >= 1 && rows >= 1 && cols*rows <= api.MaxArea)
		}
	}
}

// The ops are those that arith.Pair does not tell to be none.
func TestP501RightOfOps(t *testing.T) {
	one := number(1)
	isOp := func(op string) bool {
		return arith.Pair(op, one, one) != api.Value{Kind: api.Error, N: api.EName}
	}
	for _, op := range append(ops(), noOps()...) {
		checkRight(t, pair(op, bads(2)...), isOp(op))
	}
	for a := range 256 {
		op := string([]byte{byte(a)})
		checkRight(t, pair(op, bads(2)...), isOp(op))
		checkRight(t, api.Node{Kind: api.NUnary, Op: op, Kids: bads(1)}, op == "-")
		for b := range 256 {
			op := string([]byte{byte(a), byte(b)})
			checkRight(t, pair(op, bads(2)...), isOp(op))
		}
	}
}

func TestP501RightOfCalls(t *testing.T) {
	for n := range 300 {
		for _, letter := range []string{"A", "Q", "Z"} {
			checkRight(t, call(strings.Repeat(letter, n)), n >= 1 && n <= 8)
		}
	}
	for b := range 256 {
		great := b >= 'A' && b <= 'Z'
		one := string([]byte{byte(b)})
		checkRight(t, call(one), great)
		for at := range 8 {
			checkRight(t, call(strings.Repeat("A", at)+one+strings.Repeat("Z", 7-at)), great)
		}
	}
	for n := range 300 {
		checkRight(t, call("SUM", bads(n)...), n <= 20)
	}
}

func TestP501RightUpToMaxDepth(t *testing.T) {
	for n := 1; n <= 100; n++ {
		fits := n <= api.MaxDepth
		checkRight(t, deep(n, leaf(number(1))), fits)
		checkRight(t, deep(n, call("SUM")), fits)
		// Of several Kids the deepest one counts, wherever it stands.
		for at := range 4 {
			l := slices.Insert([]api.Node{bad(), minus(bad()), bad()}, at, deep(n, bad()))
			checkRight(t, call("IF", l...), n < api.MaxDepth)
		}
		checkRight(t, pair("+", deep(n, bad()), bad()), n < api.MaxDepth)
		checkRight(t, pair("+", bad(), deep(n, bad())), n < api.MaxDepth)
		// An inner one is Right for itself, too: the whole counts.
		checkRight(t, deep(10, pair("*", bad(), deep(n, bad()))), n <= api.MaxDepth-10)
	}
}

func TestP501RightOfAny(t *testing.T) {
	c := chance(5)
	all := wrongs()
	for range 5000 {
		n := c.formula(1 + c.below(8))
		checkRight(t, n, true)
		// One node of it is turned into one that may not be.
		x := copied(n)
		inner := &x
		for len(inner.Kids) > 0 && c.below(4) > 0 {
			inner = &inner.Kids[c.below(len(inner.Kids))]
		}
		*inner = all[c.below(len(all))]
		checkRight(t, x, false)
	}
}

func TestP501Example(t *testing.T) {
	checkDepth(t, leaf(number(1)), 1)
}

func TestP501Depth(t *testing.T) {
	for n := 1; n <= 200; n++ {
		checkDepth(t, deep(n, bad()), n)
		checkDepth(t, deep(n, api.Node{}), n)
		for at := range 4 {
			l := slices.Insert([]api.Node{bad(), minus(bad()), bad()}, at, deep(n, bad()))
			checkDepth(t, call("IF", l...), 1+max(n, 2))
			checkDepth(t, minus(call("IF", l...), bad()), 2+max(n, 2))
		}
	}
	checkDepth(t, call("SUM", bads(500)...), 2)
	checkDepth(t, pair("+", pair("*", bad(), minus(bad())), bad()), 4)
}

func TestP501DepthOfWrong(t *testing.T) {
	for _, kind := range []int{0, api.NValue, api.NCell, api.NRange, api.NUnary, api.NPair, api.NCall, api.NBad, 8, -1, math.MinInt, math.MaxInt} {
		n := api.Node{Kind: kind}
		checkDepth(t, n, 1)
		n.Kids = []api.Node{}
		checkDepth(t, n, 1)
		n.Kids = []api.Node{{}, {Kind: kind, Kids: bads(3)}, {}}
		checkDepth(t, n, 3)
		checkDepth(t, api.Node{Kids: []api.Node{n}}, 4)
	}
	for _, n := range append(wrongs(), rights()...) {
		checkDepth(t, n, depthOf(n))
	}
}

func TestP501DepthOfAny(t *testing.T) {
	c := chance(51)
	seen := map[int]int{}
	for range 5000 {
		most := 1 + c.below(9)
		n := c.formula(most)
		want := depthOf(n)
		checkDepth(t, n, want)
		if want > most {
			t.Fatalf("a depth of %d, not %d", want, most)
		}
		seen[want]++
	}
	if len(seen) != 9 {
		t.Errorf("depths %v", seen)
	}
}

// veryDeep is how deep a node may be, at the least, for each call to end.
const veryDeep = 200000

func TestP501VeryDeep(t *testing.T) {
	n := deep(veryDeep, bad())
	checkDepth(t, n, veryDeep)
	if Right(n) {
		t.Error("Right of what is too deep")
	}
}

// wide is a formula of a depth, each node of which but for the last has two Kids. (They share memory, which is not to be told.)
func wide(depth int, inner api.Node) api.Node {
	for range depth - 1 {
		inner = pair("+", inner, inner)
	}
	return inner
}

func TestP501Wide(t *testing.T) {
	const depth = api.MaxDepth
	n := wide(depth, bad())
	checkDepth(t, n, depth)
	checkDepth(t, minus(n), depth+1)
	if !Right(n) || Right(minus(n)) || Right(wide(depth, api.Node{})) {
		t.Error("Right of what is wide")
	}
}

func checkSame(t *testing.T, a, b api.Node, want bool) {
	t.Helper()
	if got := Same(a, b); got != want {
		t.Errorf("Same(%+v, %+v) = %v", a, b, got)
	}
	if got := Same(b, a); got != want {
		t.Errorf("Same(%+v, %+v) = %v", b, a, got)
	}
}

func TestP502Same(t *testing.T) {
	all := append(rights(), wrongs()...)
	for _, n := range all {
		checkSame(t, n, n, true)
		checkSame(t, n, copied(n), true)
	}
	for _, a := range all {
		for _, b := range all {
			if Same(a, b) != equal(a, b) {
				t.Fatalf("Same(%+v, %+v) = %v", a, b, Same(a, b))
			}
		}
	}
}

// Each field counts, in nodes that may be and in such as may not, and at each depth.
func TestP502SameOfAllFields(t *testing.T) {
	turns := []func(*api.Node){
		func(n *api.Node) { n.Kind++ },
		func(n *api.Node) { n.Kind += 1 << 32 },
		func(n *api.Node) { n.Op += "x" },
		func(n *api.Node) { n.Name += "x" },
		func(n *api.Node) { n.Name += "\x00" },
		func(n *api.Node) { n.Value.Kind++ },
		func(n *api.Node) { n.Value.N++ },
		func(n *api.Node) { n.Value.N += 1 << 32 },
		func(n *api.Node) { n.Value.S += "x" },
		func(n *api.Node) { n.Cell.Sheet += "x" },
		func(n *api.Node) { n.Cell.Col++ },
		func(n *api.Node) { n.Cell.Row++ },
		func(n *api.Node) { n.To.Sheet += "x" },
		func(n *api.Node) { n.To.Col++ },
		func(n *api.Node) { n.To.Row++ },
		func(n *api.Node) { n.Kids = append(slices.Clone(n.Kids), bad()) },
		func(n *api.Node) { n.Kids = append(bads(1), n.Kids...) },
	}
	for _, n := range append(rights(), api.Node{}, api.Node{Kind: -1, Op: "o", Name: "n", Value: api.Value{Kind: 9, N: -9, S: "v"}, Cell: cell("C", -1, -2), To: cell("T", -3, -4), Kids: bads(2)}) {
		for _, turn := range turns {
			x := with(n, turn)
			checkSame(t, n, x, false)
			checkSame(t, x, copied(x), true)
			checkSame(t, minus(n), minus(x), false)
			checkSame(t, call("IF", bad(), n, bad()), call("IF", bad(), x, bad()), false)
			checkSame(t, call("IF", bad(), bad(), n), call("IF", bad(), bad(), x), false)
			checkSame(t, deep(30, n), deep(30, x), false)
		}
	}
}

// Kids have an order, and belong to one node each.
func TestP502SameOfKids(t *testing.T) {
	a, b, c := leaf(number(1)), leaf(number(2)), leaf(number(3))
	checkSame(t, pair("-", a, b), pair("-", b, a), false)
	checkSame(t, call("X", a, b, c), call("X", a, c, b), false)
	checkSame(t, call("X", a, b, c), call("X", b, c, a), false)
	checkSame(t, call("X", a, b), call("X", a, b, b), false)
	checkSame(t, call("X", a, b), call("X", a), false)
	checkSame(t, call("X"), call("X", api.Node{}), false)
	checkSame(t, call("X", call("X", a, b), call("X", c)), call("X", call("X", a), call("X", b, c)), false)
	checkSame(t, call("X", call("X", a), call("X")), call("X", call("X"), call("X", a)), false)
	checkSame(t, call("X", call("X", call("X"))), call("X", call("X"), call("X")), false)
	checkSame(t, minus(minus(a), b), minus(minus(a, b)), false)
	checkSame(t, api.Node{Kind: api.NCall, Name: "X"}, api.Node{Kind: api.NCall, Name: "X", Kids: []api.Node{}}, true)
	checkSame(t, minus(api.Node{}), minus(api.Node{Kids: []api.Node{}}), true)
}

func TestP502SameOfVeryDeep(t *testing.T) {
	n := deep(veryDeep, bad())
	if !Same(n, deep(veryDeep, bad())) || Same(n, deep(veryDeep, call("A"))) || Same(n, n.Kids[0]) || Same(n.Kids[0], n) {
		t.Error("Same of what is very deep")
	}
}

func TestP502SameOfWide(t *testing.T) {
	n := wide(api.MaxDepth, bad())
	if !Same(n, wide(api.MaxDepth, bad())) || Same(n, wide(api.MaxDepth, call("A"))) || Same(pair("+", n, n), pair("+", n, n.Kids[0])) {
		t.Error("Same of what is wide")
	}
}

func TestP502SameOfAny(t *testing.T) {
	c := chance(52)
	same := 0
	for range 100000 {
		a, b := c.formula(1+c.below(3)), c.formula(1+c.below(3))
		want := equal(a, b)
		checkSame(t, a, b, want)
		if want {
			same++
		}
	}
	if same < 1000 || same > 99000 {
		t.Errorf("%d were the same", same)
	}
}

// What is handed in stays as it is, its spare room, too.
func TestP502NothingIsTurned(t *testing.T) {
	mark := api.Node{Kind: 99, Op: "mark", Kids: bads(1)}
	var fill, check func(n api.Node)
	fill = func(n api.Node) {
		for _, kid := range n.Kids {
			fill(kid)
		}
		for i := len(n.Kids); i < cap(n.Kids); i++ {
			n.Kids[:cap(n.Kids)][i] = mark
		}
	}
	check = func(n api.Node) {
		for _, kid := range n.Kids {
			check(kid)
		}
		for _, x := range n.Kids[len(n.Kids):cap(n.Kids)] {
			if !equal(x, mark) {
				t.Fatalf("spare room of %+v has %+v", n, x)
			}
		}
	}
	c := chance(53)
	for range 2000 {
		first, other := c.formula(5), c.formula(5)
		n, m := copied(first), copied(other)
		fill(n)
		fill(m)
		Right(n)
		Depth(n)
		Same(n, m)
		Same(n, copied(first))
		check(n)
		check(m)
		if !equal(n, first) || !equal(m, other) {
			t.Fatalf("%+v was turned", first)
		}
	}
}

// A call answers the same whatever was asked ahead of it, and what is turned later is not what was asked.
func TestP502SameAgain(t *testing.T) {
	all := append(rights(), wrongs()...)
	for i := range all {
		n := copied(all[len(all)-1-i])
		right, depth := Right(n), Depth(n)
		for _, x := range all[:20] {
			Right(x)
			Depth(x)
			Same(x, n)
		}
		if Right(n) != right || Depth(n) != depth || !Same(n, n) {
			t.Errorf("%+v is told otherwise later", n)
		}
	}
	n := pair("+", bad(), leaf(number(1)))
	if !Right(n) || !Same(n, copied(n)) {
		t.Error("a pair is none")
	}
	n.Kids[1].Value.N = -1
	if Right(n) || Same(n, pair("+", bad(), leaf(number(1)))) {
		t.Error("a pair is told as it was")
	}
}
