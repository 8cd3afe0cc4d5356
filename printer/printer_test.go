package printer

import (
	"math"
	"slices"
	"strconv"
	"strings"
	"testing"
	"unsafe"

	"abacist/addr"
	"abacist/api"
	"abacist/arith"
	"abacist/parse"
	"abacist/tree"
)

func leaf(v api.Value) api.Node { return api.Node{Kind: api.NValue, Value: v} }

func number(n int) api.Node { return leaf(api.Value{Kind: api.Int, N: n}) }

func text(s string) api.Node { return leaf(api.Value{Kind: api.Text, S: s}) }

func truth(n int) api.Node { return leaf(api.Value{Kind: api.Bool, N: n}) }

func cell(sheet string, col, row int) api.Cell { return api.Cell{Sheet: sheet, Col: col, Row: row} }

func at(sheet string, col, row int) api.Node {
	return api.Node{Kind: api.NCell, Cell: cell(sheet, col, row)}
}

func span(sheet string, col, row, toCol, toRow int) api.Node {
	return api.Node{Kind: api.NRange, Cell: cell(sheet, col, row), To: cell(sheet, toCol, toRow)}
}

func minus(l ...api.Node) api.Node { return api.Node{Kind: api.NUnary, Op: "-", Kids: l} }

func pair(op string, l ...api.Node) api.Node { return api.Node{Kind: api.NPair, Op: op, Kids: l} }

func call(name string, l ...api.Node) api.Node {
	return api.Node{Kind: api.NCall, Name: name, Kids: l}
}

func bad() api.Node { return api.Node{Kind: api.NBad} }

// bads are n formulas.
func bads(n int) []api.Node { return slices.Repeat([]api.Node{bad()}, n) }

func ops() []string { return strings.Fields("+ - * / & = <> < > <= >=") }

// deep is inner, with as many nodes above it as make it that deep, if inner has no Kids.
func deep(depth int, inner api.Node) api.Node {
	for range depth - 1 {
		inner = minus(inner)
	}
	return inner
}

func with(n api.Node, turn func(*api.Node)) api.Node {
	turn(&n)
	return n
}

// line is a formula and how it is written.
type line struct {
	node api.Node
	says string
}

// leaves are formulas without Kids, of all kinds.
func leaves() []line {
	return []line{
		{number(0), "0"}, {number(1), "1"}, {number(9), "9"}, {number(10), "10"}, {number(1000000), "1000000"}, {number(1 << 53), "9007199254740992"}, {number(math.MaxInt), "9223372036854775807"},
		{text(""), `""`}, {text(" "), `" "`}, {text("a b"), `"a b"`}, {text("A1"), `"A1"`}, {text("TRUE"), `"TRUE"`}, {text("'a'"), `"'a'"`}, {text("(1+2)"), `"(1+2)"`}, {text("REF!"), `"REF!"`},
		{text(`"`), `""""`}, {text(`""`), `""""""`}, {text(`a"b`), `"a""b"`}, {text(`"a"`), `"""a"""`}, {text(`a""b"c`), `"a""""b""c"`}, {text(`\"\n`), `"\""\n"`}, {text(`","`), `""","""`},
		{text("\x00\n\t\xff"), "\"\x00\n\t\xff\""}, {text("\u00e4\u20ac"), "\"\u00e4\u20ac\""}, {text("\xe2\x82"), "\"\xe2\x82\""}, {text("%s%d"), `"%s%d"`},
		{truth(0), "FALSE"}, {truth(1), "TRUE"},
		{at("s", 1, 1), "s!A1"}, {at("s", 28, 3), "s!AB3"}, {at("t", 26, 10), "t!Z10"}, {at("a0", 27, 99), "a0!AA99"}, {at("ref", 1, 1), "ref!A1"}, {at("true", 1, 1), "true!A1"}, {at("abcdefgh", api.MaxCol, api.MaxRow), "abcdefgh!ZZ999"},
		{span("s", 1, 1, 1, 1), "s!A1:A1"}, {span("s", 1, 2, 27, 3), "s!A2:AA3"}, {span("t", 3, 7, 3, 9), "t!C7:C9"}, {span("abcdefgh", 683, 980, 702, 999), "abcdefgh!ZG980:ZZ999"}, {span("z9", 1, 1, 400, 1), "z9!A1:OJ1"}, {span("s", 1, 600, 1, 999), "s!A600:A999"},
		{bad(), "REF!"},
	}
}

// names are names of functions, be there one or not.
func names() []string {
	return []string{"A", "Z", "IF", "SUM", "REF", "TRU", "TRUEE", "FALSEX", "ABCDEFGH"}
}

// chance makes numbers, the same ones each time.
type chance uint32

func (c *chance) below(n int) int {
	*c = *c*1664525 + 1013904223
	return int(*c>>9) % n
}

func pick[T any](c *chance, l []T) T { return l[c.below(len(l))] }

// line makes some formula, and how it is written.
func (c *chance) line(depth int) line {
	if depth < 2 {
		return pick(c, leaves())
	}
	switch c.below(8) {
	case 0:
		return pick(c, leaves())
	case 1, 2:
		kid := c.line(depth - 1)
		return line{minus(kid.node), "-" + kid.says}
	case 3, 4:
		n, says := call(pick(c, names())), []string{}
		for range c.below(4) {
			kid := c.line(depth - 1)
			n.Kids, says = append(n.Kids, kid.node), append(says, kid.says)
		}
		return line{n, n.Name + "(" + strings.Join(says, ",") + ")"}
	}
	a, b, op := c.line(depth-1), c.line(depth-1), pick(c, ops())
	return line{pair(op, a.node, b.node), "(" + a.says + op + b.says + ")"}
}

func checkPrint(t *testing.T, n api.Node, want string) {
	t.Helper()
	if got := Print(n); got != want {
		t.Errorf("Print(%+v) = %q, not %q", n, got, want)
	}
}

func TestP701Example(t *testing.T) {
	checkPrint(t, pair("+", number(1), number(2)), "(1+2)")
}

func TestP701Leaves(t *testing.T) {
	for _, x := range leaves() {
		checkPrint(t, x.node, x.says)
	}
}

func TestP701Numbers(t *testing.T) {
	c := chance(701)
	for shift := range 63 {
		for _, n := range []int{1 << shift, 1<<shift - 1, 1<<shift | c.below(1<<min(shift, 22))} {
			checkPrint(t, number(n), strconv.Itoa(n))
		}
	}
}

// Each byte stands as it is, but for a quote.
func TestP701Texts(t *testing.T) {
	for b := range 256 {
		s := string([]byte{byte(b)})
		if s != `"` {
			checkPrint(t, text(s), `"`+s+`"`)
			checkPrint(t, text(`"`+s+`"`+s), `"""`+s+`""`+s+`"`)
		}
	}
	for n := range api.MaxText + 1 {
		checkPrint(t, text(strings.Repeat("a", n)), `"`+strings.Repeat("a", n)+`"`)
		checkPrint(t, text(strings.Repeat(`"`, n)), `"`+strings.Repeat(`""`, n)+`"`)
	}
}

func TestP701Cells(t *testing.T) {
	for _, sheet := range []string{"s", "t", "a1", "abcdefgh", "z0000000"} {
		for col := 1; col <= api.MaxCol; col += 5 {
			for row := 1; row <= api.MaxRow; row += 83 {
				c := cell(sheet, col, row)
				checkPrint(t, at(sheet, col, row), addr.Show(c))
				to := cell(sheet, min(col+row%20, api.MaxCol), min(row+col%20, api.MaxRow))
				_, place, _ := strings.Cut(addr.Show(to), "!")
				checkPrint(t, span(sheet, col, row, to.Col, to.Row), addr.Show(c)+":"+place)
			}
		}
	}
}

func TestP701Minus(t *testing.T) {
	for _, x := range leaves() {
		checkPrint(t, minus(x.node), "-"+x.says)
		checkPrint(t, minus(minus(x.node)), "--"+x.says)
		checkPrint(t, minus(pair("-", x.node, minus(x.node))), "-("+x.says+"--"+x.says+")")
		checkPrint(t, minus(call("X", minus(x.node))), "-X(-"+x.says+")")
	}
}

// Each pair has parentheses, whatever its op and those around are, and at the top, too.
func TestP701Pairs(t *testing.T) {
	one, two, three := number(1), number(2), number(3)
	for _, op := range ops() {
		for _, x := range leaves() {
			checkPrint(t, pair(op, x.node, two), "("+x.says+op+"2)")
			checkPrint(t, pair(op, one, x.node), "(1"+op+x.says+")")
			checkPrint(t, pair(op, minus(x.node), minus(x.node)), "(-"+x.says+op+"-"+x.says+")")
		}
		for _, other := range ops() {
			checkPrint(t, pair(other, pair(op, one, two), three), "((1"+op+"2)"+other+"3)")
			checkPrint(t, pair(op, one, pair(other, two, three)), "(1"+op+"(2"+other+"3))")
			checkPrint(t, minus(pair(op, pair(other, one, two), minus(pair(other, two, three)))), "-((1"+other+"2)"+op+"-(2"+other+"3))")
		}
		checkPrint(t, call("X", pair(op, one, two), three), "X((1"+op+"2),3)")
		checkPrint(t, pair(op, call("X"), call("Y", one)), "(X()"+op+"Y(1))")
	}
}

func TestP701Calls(t *testing.T) {
	for _, name := range names() {
		checkPrint(t, call(name), name+"()")
		checkPrint(t, api.Node{Kind: api.NCall, Name: name, Kids: []api.Node{}}, name+"()")
		checkPrint(t, call(name, call(name)), name+"("+name+"())")
		for _, x := range leaves() {
			checkPrint(t, call(name, x.node), name+"("+x.says+")")
			checkPrint(t, call(name, x.node, minus(x.node)), name+"("+x.says+",-"+x.says+")")
			checkPrint(t, call(name, number(1), x.node, call(name), number(2)), name+"(1,"+x.says+","+name+"(),2)")
		}
	}
	var kids []api.Node
	var says []string
	for n := range 20 {
		kids, says = append(kids, number(n)), append(says, strconv.Itoa(n))
		checkPrint(t, call("SUM", kids...), "SUM("+strings.Join(says, ",")+")")
	}
	checkPrint(t, call("SUM", append(kids, number(20))...), "")
}

func TestP701Any(t *testing.T) {
	c := chance(7011)
	for range 5000 {
		x := c.line(1 + c.below(7))
		if got := Print(x.node); got != x.says {
			t.Fatalf("Print(%+v) = %q, not %q", x.node, got, x.says)
		}
	}
}

// wrongs are nodes that may not be.
func wrongs() []api.Node {
	out := []api.Node{
		{}, {Kind: -1}, {Kind: 8}, {Kind: math.MaxInt}, {Kind: math.MinInt}, {Kind: 1<<32 + api.NBad},
		leaf(api.Value{}), number(-1), number(math.MinInt), text(strings.Repeat("a", api.MaxText+1)), text(strings.Repeat(`"`, api.MaxText+1)), truth(2), truth(-1),
		leaf(api.Value{Kind: 5}), leaf(api.Value{Kind: api.Int, S: "a"}), leaf(api.Value{Kind: api.Text, N: 1}), leaf(api.Value{Kind: api.Bool, S: "TRUE"}),
		at("", 1, 1), at("S", 1, 1), at("s", 0, 1), at("s", 1, 0), at("s", api.MaxCol+1, 1), at("s", 1, api.MaxRow+1), at("abcdefghi", 1, 1), at("s!", 1, 1),
		span("s", 2, 1, 1, 1), span("s", 1, 2, 1, 1), span("s", 1, 1, 401, 1), span("s", 1, 1, 21, 20), span("", 1, 1, 1, 1), span("s", 0, 1, 1, 1), span("s", 1, 1, 703, 1),
		{Kind: api.NRange, Cell: cell("s", 1, 1)}, {Kind: api.NRange, To: cell("s", 1, 1)}, {Kind: api.NRange, Cell: cell("s", 1, 1), To: cell("t", 2, 2)},
		minus(), minus(bads(2)...), {Kind: api.NUnary, Kids: bads(1)}, {Kind: api.NUnary, Op: "+", Kids: bads(1)}, {Kind: api.NUnary, Op: "--", Kids: bads(1)},
		pair("+"), pair("+", bads(1)...), pair("+", bads(3)...), pair("", bads(2)...), pair("^", bads(2)...), pair("==", bads(2)...), pair(" +", bads(2)...), pair(",", bads(2)...),
		call(""), call("TRUE"), call("FALSE"), call("sum"), call("A1"), call("ABCDEFGHI"), call("A "), call("SUM", bads(21)...),
	}
	// An Error that is value.Right is written in no formula.
	for n := range api.ENone + 2 {
		out = append(out, leaf(api.Value{Kind: api.Error, N: n}))
	}
	for _, n := range []api.Node{number(1), at("s", 1, 1), span("s", 1, 1, 2, 2), minus(bad()), pair("+", bads(2)...), call("SUM", bad()), bad()} {
		out = append(out, spoiled(n)...)
	}
	return out
}

// spoiled are n with something in a field that its kind does not name.
func spoiled(n api.Node) []api.Node {
	var out []api.Node
	for _, turn := range []func(*api.Node){
		func(n *api.Node) { n.Op = "#" },
		func(n *api.Node) { n.Name = "sum" },
		func(n *api.Node) { n.Value.N += 2; n.Value.S = "a" },
		func(n *api.Node) { n.Cell.Row = -1 },
		func(n *api.Node) { n.To = cell("t", 1, 1) },
		func(n *api.Node) { n.Kids = bads(21) },
	} {
		out = append(out, with(n, turn))
	}
	return out
}

// What may not be is written as nothing, as a Kid too, with all that is around it.
func TestP701Wrong(t *testing.T) {
	for _, n := range wrongs() {
		for _, x := range []api.Node{
			n, minus(n), minus(minus(n)), pair("+", n, number(1)), pair("+", number(1), n), call("SUM", n), call("SUM", number(1), n, number(2)), call("SUM", append(bads(19), n)...), deep(api.MaxDepth-3, pair("&", text("a"), call("X", bad(), n))),
		} {
			checkPrint(t, x, "")
		}
	}
}

func TestP701UpToMaxDepth(t *testing.T) {
	for depth := 1; depth < 2*api.MaxDepth; depth++ {
		want := strings.Repeat("-", depth-1) + "1"
		pairs, called := number(1), number(1)
		says, saysCalled := "1", "1"
		for range depth - 1 {
			pairs, says = pair("+", number(2), pairs), "(2+"+says+")"
			called, saysCalled = call("F", called, bad()), "F("+saysCalled+",REF!)"
		}
		if depth > api.MaxDepth {
			want, says, saysCalled = "", "", ""
		}
		checkPrint(t, deep(depth, number(1)), want)
		checkPrint(t, pairs, says)
		checkPrint(t, called, saysCalled)
	}
}

// What is written may be far more than what may be read.
func TestP701Wide(t *testing.T) {
	n, bytes := number(1), 1
	for range api.MaxDepth - 1 {
		n, bytes = pair("+", n, n), 2*bytes+3
	}
	got := Print(n)
	if len(got) != bytes || strings.Count(got, "1") != 1<<(api.MaxDepth-1) || strings.Trim(got, "(1+)") != "" {
		t.Errorf("%d bytes, not %d", len(got), bytes)
	}
	checkPrint(t, minus(n), "")
}

// turned makes some node, right or not: a formula in which something was turned.
func (c *chance) turned(n api.Node) api.Node {
	if len(n.Kids) > 0 && c.below(3) > 0 {
		n.Kids = slices.Clone(n.Kids)
		i := c.below(len(n.Kids))
		n.Kids[i] = c.turned(n.Kids[i])
		return n
	}
	switch c.below(10) {
	case 0:
		n.Kind = c.below(10) - 1
	case 1:
		n.Op = pick(c, append(ops(), "", "(", "!"))
	case 2:
		n.Name = pick(c, append(names(), "", "TRUE", "a"))
	case 3:
		n.Value.N += c.below(5) - 2
	case 4:
		n.Value.Kind = c.below(6)
	case 5:
		n.Cell.Col += c.below(5) - 2
	case 6:
		n.To.Row += c.below(5) - 2
	case 7:
		n.To.Sheet = pick(c, []string{"s", "t", ""})
	case 8:
		n.Kids = bads(c.below(23))
	case 9:
		n = deep(15+c.below(10), n)
	}
	return n
}

// Something is written of those nodes that are tree.Right, and of no others.
func TestP701RightAlone(t *testing.T) {
	c := chance(7012)
	right, wrong := 0, 0
	for range 20000 {
		n := c.turned(c.line(1 + c.below(4)).node)
		is := tree.Right(n)
		if is {
			right++
		} else {
			wrong++
		}
		if got := Print(n); (got != "") != is {
			t.Fatalf("Print(%+v) = %q", n, got)
		}
	}
	if right < 1000 || wrong < 1000 {
		t.Errorf("%d right, %d wrong", right, wrong)
	}
}

// The ops that are written are arith.Pair's.
func TestP701OpsAreArithPairs(t *testing.T) {
	one := api.Value{Kind: api.Int, N: 1}
	for _, op := range append(ops(), "^", "==", "%", "<<", "") {
		is := arith.Pair(op, one, one).Kind != api.Error
		if got := Print(pair(op, number(1), number(1))); (got == "(1"+op+"1)") != is {
			t.Errorf("%q: %q", op, got)
		}
	}
}

func sheets() []string { return []string{"s", "t", "a", "abcdefgh", "z9", "ref", "true"} }

func checkBack(t *testing.T, n api.Node) {
	t.Helper()
	s := Print(n)
	for _, sheet := range sheets() {
		if got, place, e := parse.Parse(s, sheet); !tree.Same(got, n) || place != -1 || e != api.OK {
			t.Fatalf("Parse(%q, %q) = %+v, %d, %d, not %+v", s, sheet, got, place, e, n)
		}
	}
}

func TestP702ReadBack(t *testing.T) {
	for _, x := range leaves() {
		checkBack(t, x.node)
		checkBack(t, minus(x.node))
		checkBack(t, call("X", x.node, x.node))
		for _, op := range ops() {
			checkBack(t, pair(op, x.node, x.node))
			checkBack(t, pair(op, minus(x.node), pair(op, x.node, minus(x.node))))
		}
	}
	for n := range 21 {
		checkBack(t, call("SUM", bads(n)...))
	}
	for depth := range api.MaxDepth {
		checkBack(t, deep(depth+1, at("s", 1, 1)))
	}
}

func TestP702ReadBackOfAny(t *testing.T) {
	c := chance(702)
	read := 0
	for range 5000 {
		x := c.line(1 + c.below(6))
		if len(Print(x.node)) > api.MaxText {
			continue
		}
		read++
		checkBack(t, x.node)
	}
	if read < 2000 {
		t.Errorf("only %d were read", read)
	}
}

// As much as can be read is read; one byte more is not.
func TestP702UpToMaxText(t *testing.T) {
	for _, n := range []int{api.MaxText - 3, api.MaxText - 2, api.MaxText - 1, api.MaxText} {
		node := text(strings.Repeat("a", n))
		if n+2 <= api.MaxText {
			checkBack(t, node)
			continue
		}
		if _, place, e := parse.Parse(Print(node), "s"); place != 0 || e != api.ErrLong {
			t.Errorf("%d bytes: %d, %d", n+2, place, e)
		}
	}
	checkBack(t, text(strings.Repeat(`"`, api.MaxText/2-1)))
}

// copied is n, with lists of its own that have spare room.
func copied(n api.Node) api.Node {
	kids := make([]api.Node, len(n.Kids), len(n.Kids)+3)
	for i, kid := range n.Kids {
		kids[i] = copied(kid)
	}
	n.Kids = kids
	return n
}

// What is handed in stays as it is, its spare room, too.
func TestP702NothingIsTurned(t *testing.T) {
	mark := api.Node{Kind: 99, Op: "mark", Kids: bads(1)}
	var fill, check func(n api.Node)
	fill = func(n api.Node) {
		for i := range n.Kids[:cap(n.Kids)] {
			if i < len(n.Kids) {
				fill(n.Kids[i])
			} else {
				n.Kids[:cap(n.Kids)][i] = mark
			}
		}
	}
	check = func(n api.Node) {
		for i, kid := range n.Kids[:cap(n.Kids)] {
			if i < len(n.Kids) {
				check(kid)
			} else if !tree.Same(kid, mark) {
				t.Fatalf("spare room of %+v has %+v", n, kid)
			}
		}
	}
	c := chance(7021)
	for range 2000 {
		first := c.line(5).node
		if c.below(2) == 0 {
			first = c.turned(first)
		}
		n := copied(first)
		fill(n)
		Print(n)
		check(n)
		if !tree.Same(n, first) {
			t.Fatalf("%+v was turned", first)
		}
	}
}

func isPieceOf(s, whole string) bool {
	if s == "" || whole == "" {
		return false
	}
	at, first := uintptr(unsafe.Pointer(unsafe.StringData(s))), uintptr(unsafe.Pointer(unsafe.StringData(whole)))
	return at >= first && at < first+uintptr(len(whole))
}

// texts are all texts of n.
func texts(n api.Node) []string {
	out := []string{n.Op, n.Name, n.Value.S, n.Cell.Sheet, n.To.Sheet}
	for _, kid := range n.Kids {
		out = append(out, texts(kid)...)
	}
	return out
}

func TestP702AnswerIsNew(t *testing.T) {
	c := chance(7022)
	for range 1000 {
		n := c.line(4).node
		got, again := Print(n), Print(n)
		for _, x := range texts(n) {
			if isPieceOf(got, x) || isPieceOf(x, got) {
				t.Fatalf("%q is of the argument's memory", got)
			}
		}
		if len(got) > 1 && isPieceOf(got, again) {
			t.Fatalf("%q is told twice in one place", got)
		}
	}
}

// A call answers the same whatever was asked ahead of it, and what is turned later is not what was asked.
func TestP702SameAgain(t *testing.T) {
	c := chance(7023)
	var all []line
	for range 300 {
		all = append(all, c.line(4))
	}
	for i, x := range all {
		y := all[len(all)-1-i]
		checkPrint(t, x.node, x.says)
		checkPrint(t, minus(api.Node{}), "")
		checkPrint(t, y.node, y.says)
		checkPrint(t, x.node, x.says)
	}
	n := pair("+", bad(), number(1))
	checkPrint(t, n, "(REF!+1)")
	n.Kids[1].Value.N = 2
	checkPrint(t, n, "(REF!+2)")
	n.Kids[1].Value.N = -1
	checkPrint(t, n, "")
}
