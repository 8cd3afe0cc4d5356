package knots

import (
	"cmp"
	"iter"
	"math"
	"slices"
	"strconv"
	"strings"
	"sync"
	"testing"
	"unsafe"

	"abacist/addr"
	"abacist/api"
	"abacist/deps"
	"abacist/parse"
	"abacist/tree"
)

func cell(sheet string, col, row int) api.Cell { return api.Cell{Sheet: sheet, Col: col, Row: row} }

// at is the cell of that name; where no sheet stands ahead it is of s.
func at(name string) api.Cell {
	if !strings.Contains(name, "!") {
		name = "s!" + name
	}
	c, ok := addr.Read(name)
	if !ok {
		panic(name)
	}
	return c
}

// formula is an entry that reads what says does.
func formula(c api.Cell, says string) api.Entry {
	n, _, e := parse.Parse(says, c.Sheet)
	if e != api.OK {
		panic(says)
	}
	return api.Entry{Cell: c, Formula: true, Node: n}
}

func number(c api.Cell, n int) api.Entry {
	return api.Entry{Cell: c, Value: api.Value{Kind: api.Int, N: n}}
}

// reader is an entry whose formula reads each of l.
func reader(c api.Cell, l ...api.Cell) api.Entry {
	n := api.Node{Kind: api.NCall, Name: "SUM"}
	for _, read := range l {
		n.Kids = append(n.Kids, api.Node{Kind: api.NCell, Cell: read})
	}
	return api.Entry{Cell: c, Formula: true, Node: n}
}

// book has an entry for each line: a cell's name, and, behind a space, a formula; without one it is a number.
func book(lines ...string) []api.Entry {
	var out []api.Entry
	for i, line := range lines {
		name, says, ok := strings.Cut(line, " ")
		if ok {
			out = append(out, formula(at(name), says))
		} else {
			out = append(out, number(at(name), i))
		}
	}
	return out
}

func compare(a, b api.Cell) int {
	return cmp.Or(strings.Compare(a.Sheet, b.Sheet), cmp.Compare(a.Row, b.Row), cmp.Compare(a.Col, b.Col))
}

// knotsOf reads knots: between two `;` one, its cells' names, and `@`, if it is Round.
func knotsOf(says string) []Knot {
	var out []Knot
	if says == "" {
		return nil
	}
	for _, one := range strings.Split(says, ";") {
		var k Knot
		for _, word := range strings.Fields(one) {
			if word == "@" {
				k.Round = true
			} else {
				k.Cells = append(k.Cells, at(word))
			}
		}
		out = append(out, k)
	}
	return out
}

func same(a, b []Knot) bool {
	return slices.EqualFunc(a, b, func(x, y Knot) bool { return x.Round == y.Round && slices.Equal(x.Cells, y.Cells) })
}

// check holds Order of l to want.
func check(t *testing.T, l []api.Entry, want []Knot) {
	t.Helper()
	if got := Order(l); !same(got, want) {
		t.Fatalf("Order = %v, not %v", got, want)
	}
}

// wrongCells are such as may not be.
func wrongCells() []api.Cell {
	out := []api.Cell{
		{}, cell("s", 0, 1), cell("s", 1, 0), cell("s", -1, 1), cell("s", 1, -1), cell("s", api.MaxCol+1, 1), cell("s", 1, api.MaxRow+1), cell("s", math.MinInt, 1), cell("s", 1, math.MaxInt), cell("s", 1<<32+1, 1), cell("s", 1, 1<<32+1),
	}
	for _, sheet := range []string{"", "S", "1s", "s!", "s ", "abcdefghi", "\u00e4", "s\x00"} {
		out = append(out, cell(sheet, 1, 1))
	}
	return out
}

// chance makes numbers, the same ones each time.
type chance uint32

func (c *chance) below(n int) int {
	*c = *c*1664525 + 1013904223
	return int(*c>>9) % n
}

func pick[T any](c *chance, l []T) T { return l[c.below(len(l))] }

// shuffled is l, in some order.
func shuffled[T any](c *chance, l []T) []T {
	var out []T
	for i, x := range l {
		out = slices.Insert(out, c.below(i+1), x)
	}
	return out
}

// names are cells that the books made by chance have.
func names() []string {
	return strings.Fields("a!A1 a!B1 a!A2 s!A1 s!B1 s!C1 s!A2 s!B2 s!C2 s!A3 s!ZZ999 t!A1 t!B1 t!A10")
}

// book makes some entries, a few of them of the same cell; of five some dense are formulas.
func (c *chance) book(count, dense int) []api.Entry {
	var out []api.Entry
	for range count {
		e := number(at(pick(c, names())), c.below(9))
		if c.below(5) < dense {
			a, b := pick(c, names()), pick(c, names())
			e = formula(e.Cell, pick(c, []string{a, a + "+1", "-" + a, a + "*" + a, a + "+" + b, b + "&" + a, "COUNT(A1:B2)", "IF(" + a + "<5," + b + ",REF!)", "a!Z9+" + a}))
		}
		out = append(out, e)
	}
	return out
}

// readsOf lists in the plainest way the cells that n and its Kids read, in no order.
func readsOf(n api.Node) []api.Cell {
	var out []api.Cell
	switch n.Kind {
	case api.NCell:
		out = append(out, n.Cell)
	case api.NRange:
		out = append(out, addr.Cells(api.Range{From: n.Cell, To: n.To})...)
	}
	for _, kid := range n.Kids {
		out = append(out, readsOf(kid)...)
	}
	return out
}

// net has in the plainest way which cell reads which one, and which one is after which, of each two by itself.
type net struct {
	cells        []api.Cell
	reads, after map[[2]api.Cell]bool
}

func netOf(l []api.Entry) net {
	last := map[api.Cell]api.Entry{}
	for _, e := range l {
		last[e.Cell] = e
	}
	n := net{reads: map[[2]api.Cell]bool{}, after: map[[2]api.Cell]bool{}}
	for c, e := range last {
		n.cells = append(n.cells, c)
		if !e.Formula {
			continue
		}
		for _, read := range readsOf(e.Node) {
			if _, ok := last[read]; ok {
				n.reads[[2]api.Cell{c, read}] = true
				n.after[[2]api.Cell{c, read}] = true
			}
		}
	}
	slices.SortFunc(n.cells, compare)
	for _, by := range n.cells {
		for _, a := range n.cells {
			for _, b := range n.cells {
				if n.after[[2]api.Cell{a, by}] && n.after[[2]api.Cell{by, b}] {
					n.after[[2]api.Cell{a, b}] = true
				}
			}
		}
	}
	return n
}

// knot is that of c.
func (n net) knot(c api.Cell) Knot {
	k := Knot{Round: n.reads[[2]api.Cell{c, c}]}
	for _, other := range n.cells {
		if other == c || n.after[[2]api.Cell{c, other}] && n.after[[2]api.Cell{other, c}] {
			k.Cells = append(k.Cells, other)
		}
	}
	k.Round = k.Round || len(k.Cells) > 1
	return k
}

// ready tells whether k reads no cell that is not told yet, but its own.
func (n net) ready(k Knot, told map[api.Cell]bool) bool {
	for _, c := range k.Cells {
		for _, read := range n.cells {
			if n.reads[[2]api.Cell{c, read}] && !told[read] && !slices.Contains(k.Cells, read) {
				return false
			}
		}
	}
	return true
}

// orderOf tells the knots by the promise's words: again and again the first one, of all cells in their order, that is ready.
func orderOf(l []api.Entry) []Knot {
	n := netOf(l)
	told := map[api.Cell]bool{}
	var out []Knot
	for len(told) < len(n.cells) {
		i := slices.IndexFunc(n.cells, func(c api.Cell) bool { return !told[c] && n.ready(n.knot(c), told) })
		k := n.knot(n.cells[i])
		out = append(out, k)
		for _, c := range k.Cells {
			told[c] = true
		}
	}
	return out
}

func TestP1301Example(t *testing.T) {
	check(t, nil, nil)
}

func TestP1301Plain(t *testing.T) {
	for _, x := range []struct{ want, book string }{
		{"A1", "A1"},
		{"A1", "A1 1+2"},
		{"A1;B1;C1", "A1/B1/C1"},
		{"A1;B1;C1", "C1/B1/A1"},
		{"B1;A1", "A1 B1/B1"},
		{"C1;B1;A1", "A1 B1/B1 C1/C1"},
		{"A1;B1;C1;D1", "D1 B1+C1/C1 A1/B1 A1/A1"},
		{"D1;B1;C1;A1", "A1 B1+C1/B1 D1/C1 D1/D1"},
		{"B1;C1;A1", "A1 SUM(B1:C1)/B1/C1"},
		{"t!A1;A1", "A1 t!A1/t!A1"},
		{"A1;t!A1", "A1/t!A1 s!A1"},
	} {
		check(t, book(strings.Split(x.book, "/")...), knotsOf(x.want))
	}
}

// A knot comes as soon as it can, ahead of all that are not Less, and not layer by layer.
func TestP1301LeastOfAllThatCould(t *testing.T) {
	for _, x := range []struct{ want, book string }{
		// A1 can come behind B1, ahead of C1 that could have come at first.
		{"B1;A1;C1", "A1 B1/B1/C1"},
		{"C1;B1;A1;D1", "A1 B1/B1 C1/C1/D1"},
		{"A1;B1;C1;D1", "A1/B1 A1/C1 B1/D1"},
		{"A1;C1;B1;D1;E1", "A1/B1 C1/C1/D1 A1/E1"},
		// A1 waits for all that it reads, and comes at once behind the last one.
		{"B1;C1;D1;A1;E1", "A1 B1+C1+D1/B1/C1/D1/E1"},
		{"B1;D1;C1;A1;E1", "A1 B1+C1/B1/C1 D1/D1/E1"},
		{"B1;A1;D1;C1;E1", "A1 B1/B1/C1 D1/D1/E1"},
		{"B1;A1;t!A1", "A1 B1+B1*B1+SUM(B1:B9)/B1/t!A1"},
	} {
		check(t, book(strings.Split(x.book, "/")...), knotsOf(x.want))
	}
}

// By the first cell of a knot, not by the last one, nor by the one that reads or is read.
func TestP1301ByFirstCell(t *testing.T) {
	for _, x := range []struct{ want, book string }{
		{"A1 D1 @;B1 C1 @", "A1 D1/D1 A1/B1 C1/C1 B1"},
		{"A1 D1 @;B1;C1", "A1 D1/D1 A1/B1/C1"},
		{"A1;B1 E1 @;C1 D1 @", "A1/B1 E1/E1 B1+A1/C1 D1/D1 C1"},
		{"C1;A1 t!A1 @;B1", "A1 t!A1/t!A1 s!A1+s!C1/B1 C1/C1"},
		{"C1;A1 t!A1 @;B1;D1", "A1 t!A1+C1/t!A1 s!A1/B1 t!A1/C1/D1"},
		{"B1 D1 @;A1;C1", "A1 D1/B1 D1/C1/D1 B1"},
	} {
		check(t, book(strings.Split(x.book, "/")...), knotsOf(x.want))
	}
}

// By sheet, then by row, then by column; sheets go byte by byte; whatever the order of the entries.
func TestP1301Less(t *testing.T) {
	all := []api.Cell{
		cell("a", 1, 1), cell("a", 2, 1), cell("a", 702, 1), cell("a", 1, 2), cell("a", 1, 9), cell("a", 1, 10), cell("a0", 1, 1), cell("a10", 1, 1), cell("a2", 1, 1), cell("aa", 1, 1), cell("b", 27, 1), cell("b", 1, 3), cell("z", 26, 1), cell("z", 27, 1),
	}
	c := chance(1301)
	for range 100 {
		var alone, ring []api.Entry
		for i, x := range shuffled(&c, all) {
			alone = append(alone, number(x, i))
			ring = append(ring, reader(x, all...))
		}
		var want []Knot
		for _, x := range all {
			want = append(want, Knot{Cells: []api.Cell{x}})
		}
		check(t, alone, want)
		check(t, ring, []Knot{{all, true}})
	}
}

func TestP1301Round(t *testing.T) {
	for _, x := range []struct{ want, book string }{
		{"A1 @", "A1 A1"},
		{"A1 @", "A1 1+A1*0"},
		{"A1 @", "A1 SUM(A1:B2)"},
		{"A1 @", "A1 IF(TRUE,1,A1)"},
		{"A1 @", "A1 A1/A1 A1"},
		{"A1 B1 @", "A1 B1/B1 A1"},
		{"A1 B1 @", "A1 A1+B1/B1 B1+A1"},
		{"A1 B1 C1 @", "C1 B1/B1 A1/A1 C1"},
		{"A1 t!A1 @", "t!A1 s!A1/A1 t!A1"},
		// What hangs on a Round one, and what it hangs on, is in it only if it is round itself.
		{"A1;B1 C1 D1 @;E1;F1", "A1/B1 A1+D1/C1 B1/D1 C1/E1 D1/F1 E1"},
		{"C1 @;A1;B1", "A1 C1/B1 A1/C1 C1"},
		{"A1 @;B1 @;C1 @", "A1 A1/B1 A1+B1/C1 B1+C1"},
		// Two rounds are one knot if they share a cell, or hang on each other; two if the one hangs on the other alone.
		{"A1 B1 C1 @", "A1 B1+C1/B1 A1/C1 A1"},
		{"A1 B1 C1 D1 @", "A1 B1+C1/B1 A1/C1 D1/D1 C1+B1"},
		{"C1 D1 @;A1 B1 @", "A1 B1+C1/B1 A1+D1/C1 D1/D1 C1"},
		{"A1 B1 @;C1 D1 @", "A1 B1/B1 A1/C1 D1+A1/D1 C1+B1"},
		{"A1 C1 @;B1 D1 @", "A1 C1/B1 D1/C1 A1/D1 B1"},
		// Several cells of a knot wait for one that is alone, and it is told once.
		{"D1;A1 B1 C1 @;E1", "A1 B1+D1/B1 C1+D1/C1 A1+D1/D1/E1 A1+B1+C1"},
	} {
		check(t, book(strings.Split(x.book, "/")...), knotsOf(x.want))
	}
}

// What a formula reads that has no entry is waited for by none.
func TestP1301NotAmongCells(t *testing.T) {
	check(t, book("A1 Z1", "B1 A1", "C1"), knotsOf("A1;B1;C1"))
	check(t, book("A1 B1+C1", "C1 SUM(D1:Z9)"), knotsOf("C1;A1"))
	check(t, book("A1 u!A1", "t!A1 s!Z9"), knotsOf("A1;t!A1"))
	check(t, book("A1 B1", "C1 B1+A1"), knotsOf("A1;C1"))
}

// Of several entries of a cell the last one counts, and what is no formula reads nothing.
func TestP1301LastCounts(t *testing.T) {
	check(t, book("A1 A1", "A1"), knotsOf("A1"))
	check(t, book("A1", "A1 A1"), knotsOf("A1 @"))
	check(t, book("A1 B1", "B1 A1", "A1"), knotsOf("A1;B1"))
	check(t, book("A1", "B1 A1", "A1 B1"), knotsOf("A1 B1 @"))
	check(t, book("A1 C1", "B1", "C1", "A1 B1"), knotsOf("B1;A1;C1"))
	check(t, book("A1 B1", "B1", "A1 C1", "C1"), knotsOf("B1;C1;A1"))
	l := book("A1 A1", "B1 C1", "C1 B1")
	for i := range l {
		l[i].Formula = false
	}
	check(t, l, knotsOf("A1;B1;C1"))
	check(t, append(l, api.Entry{Cell: at("B1"), Formula: true}), knotsOf("A1;B1;C1"))
	check(t, []api.Entry{{Cell: at("A1"), Value: api.Value{Kind: api.Text, S: "=A1"}}}, knotsOf("A1"))
}

// Cells that may not be are knots all the same, if they have entries; no formula reads them.
func TestP1301WrongCells(t *testing.T) {
	all := wrongCells()
	slices.SortFunc(all, compare)
	var want []Knot
	for _, c := range all {
		want = append(want, Knot{Cells: []api.Cell{c}})
	}
	var l []api.Entry
	for _, c := range slices.Backward(all) {
		l = append(l, reader(c, all...))
	}
	check(t, l, want)
	// They wait for A1 of a, and it hangs on none of them.
	top := cell("a", 1, 1)
	for i, c := range slices.Backward(all) {
		l[len(all)-1-i] = reader(c, c, top)
	}
	check(t, append(l, reader(top, all...)), append([]Knot{{Cells: []api.Cell{top}}}, want...))
}

// A formula that may not be is waited for, and waits, all the same.
func TestP1301WrongFormulas(t *testing.T) {
	read := api.Node{Kind: api.NCell, Cell: at("B1")}
	deep := read
	for range 100000 {
		deep = api.Node{Kind: api.NUnary, Op: "-", Kids: []api.Node{deep}}
	}
	for _, n := range []api.Node{deep, {Kind: 99, Kids: []api.Node{read}}, {Kind: api.NPair, Op: "?", Kids: []api.Node{read}}, {Kind: api.NBad, Kids: []api.Node{read, read}}, {Kids: []api.Node{{}, read}}} {
		e := api.Entry{Cell: at("A1"), Formula: true, Node: n}
		check(t, append(book("B1"), e), knotsOf("B1;A1"))
		check(t, append(book("B1 A1"), e), knotsOf("A1 B1 @"))
	}
	over := api.Node{Kind: api.NRange, Cell: at("A1"), To: cell("s", api.MaxArea+1, 1)}
	check(t, append(book("B1"), api.Entry{Cell: at("A1"), Formula: true, Node: over}), knotsOf("A1;B1"))
	over.To.Col--
	check(t, append(book("B1"), api.Entry{Cell: at("A1"), Formula: true, Node: over}), knotsOf("B1;A1 @"))
}

func TestP1301Any(t *testing.T) {
	c := chance(13011)
	round, great, many := 0, 0, 0
	for range 3000 {
		l := c.book(c.below(24), c.below(6))
		got := Order(l)
		if want := orderOf(l); !same(got, want) {
			t.Fatalf("Order of %v = %v, not %v", l, got, want)
		}
		for _, k := range got {
			if k.Round {
				round++
			}
			if len(k.Cells) > 2 {
				great++
			}
		}
		if len(got) > 6 {
			many++
		}
	}
	if round < 1000 || great < 150 || many < 1000 {
		t.Errorf("only %d are Round, %d of more than two cells, %d books of more than six knots", round, great, many)
	}
}

// The order hangs on what the cells have, not on the order of the entries.
func TestP1301WhateverOrder(t *testing.T) {
	c := chance(13012)
	for range 200 {
		var l []api.Entry
		for _, name := range names() {
			if c.below(6) > 0 {
				e := c.book(1, 3)[0]
				e.Cell = at(name)
				l = append(l, e)
			}
		}
		want := orderOf(l)
		for range 5 {
			check(t, shuffled(&c, l), want)
		}
	}
}

// long is the i-th of many cells, by addr.Less.
func long(i int) api.Cell { return cell("s", 1+i%api.MaxCol, 1+i/api.MaxCol) }

// checkAlone holds Order of l to telling each of cells alone, one behind the other.
func checkAlone(t *testing.T, l []api.Entry, cells iter.Seq2[int, api.Cell]) {
	t.Helper()
	var want []Knot
	for _, c := range cells {
		want = append(want, Knot{Cells: []api.Cell{c}})
	}
	if got := Order(l); !same(got, want) {
		t.Fatalf("%d knots, not %d, or not as they should be", len(got), len(want))
	}
}

// Many cells may hang each on the one behind, or ahead: Order ends all the same.
func TestP1301Long(t *testing.T) {
	const count = 200000
	var down, up []api.Entry
	var cells []api.Cell
	for i := range count {
		cells = append(cells, long(i))
		down = append(down, reader(long(i), long(i+1)))
		up = append(up, reader(long(count-1-i), long(count-2-i)))
	}
	up[count-1] = number(long(0), 0)
	checkAlone(t, down, slices.Backward(cells))
	checkAlone(t, up, slices.All(cells))
	down[count-1] = reader(long(count-1), long(0))
	got := Order(down)
	if len(got) != 1 || !got[0].Round || !slices.Equal(got[0].Cells, cells) {
		t.Fatalf("%d knots of a ring", len(got))
	}
}

// Many cells may be knots of two, and all of them wait for the last one.
func TestP1301Wide(t *testing.T) {
	const count = 40000
	l := []api.Entry{number(long(2*count), 0)}
	want := []Knot{{Cells: []api.Cell{long(2 * count)}}}
	for i := range count {
		l = append(l, reader(long(2*i+1), long(2*i), long(2*count)), reader(long(2*i), long(2*i+1)))
		want = append(want, Knot{[]api.Cell{long(2 * i), long(2*i + 1)}, true})
	}
	if got := Order(l); !same(got, want) {
		t.Errorf("%d knots, not as they should be", len(got))
	}
}

// Many cells may all read many.
func TestP1301Thick(t *testing.T) {
	cells := addr.Cells(api.Range{From: at("A1"), To: at("T20")})
	var l []api.Entry
	for _, c := range cells {
		l = append(l, formula(c, "SUM(A1:T20)"))
	}
	check(t, append(l, book("U1 SUM(A1:T20)", "Z9")...), []Knot{{cells, true}, knotsOf("U1")[0], knotsOf("Z9")[0]})
	for i, c := range cells {
		l[i] = reader(c, cells[i+1:]...)
	}
	checkAlone(t, l, slices.Backward(cells))
}

// The knots have all cells of deps, each once.
func TestP1301AllCells(t *testing.T) {
	c := chance(13013)
	for range 300 {
		l := c.book(c.below(30), 3)
		var all []api.Cell
		for _, k := range Order(l) {
			if len(k.Cells) == 0 {
				t.Fatalf("a knot of nothing of %v", l)
			}
			all = append(all, k.Cells...)
		}
		slices.SortFunc(all, compare)
		if want := deps.New(l).Cells(); !slices.Equal(all, want) {
			t.Fatalf("the knots have %v, not %v", all, want)
		}
	}
}

// What is handed in stays as it is, its spare room, too.
func TestP1302NothingIsTurned(t *testing.T) {
	mark := number(at("Z26"), 77)
	c := chance(1302)
	for range 300 {
		first := c.book(c.below(12), 4)
		l := make([]api.Entry, len(first), len(first)+3)
		for i, e := range first {
			l[i] = e
			l[i].Node = copied(e.Node)
		}
		for i := len(first); i < cap(l); i++ {
			l[:cap(l)][i] = mark
		}
		Order(l)
		for i, e := range l[:cap(l)] {
			want := mark
			if i < len(first) {
				want = first[i]
			}
			if e.Cell != want.Cell || e.Formula != want.Formula || e.Value != want.Value || !tree.Same(e.Node, want.Node) {
				t.Fatalf("entry %d is %+v, not %+v", i, e, want)
			}
		}
	}
}

// copied is n, with lists of its own.
func copied(n api.Node) api.Node {
	n.Kids = slices.Clone(n.Kids)
	for i, kid := range n.Kids {
		n.Kids[i] = copied(kid)
	}
	return n
}

// Each knot's list is of its own: what is added to one, or turned in it, turns no other one, and no later answer.
func TestP1302ListsOfTheirOwn(t *testing.T) {
	c := chance(13021)
	for range 200 {
		l := c.book(14, c.below(5))
		want := orderOf(l)
		got := Order(l)
		for i := range got {
			room := got[i].Cells[:cap(got[i].Cells)]
			for k := range room {
				room[k] = at("Z9")
			}
			if !same(got[i+1:], want[i+1:]) {
				t.Fatalf("what is behind knot %d turned with it", i)
			}
			got[i] = Knot{}
		}
		check(t, l, want)
	}
	l := book("A1", "B1", "C1 C1+D1", "D1 C1", "E1")
	got := Order(l)
	for i := range slices.Backward(got) {
		got[i].Cells = append(got[i].Cells, at("Z9"), at("Z8"), at("Z7"))
		got[i].Cells[0] = at("Z6")
	}
	for i, k := range got {
		if k.Cells[0] != at("Z6") || k.Cells[len(k.Cells)-3] != at("Z9") {
			t.Errorf("knot %d is %v", i, k)
		}
	}
}

// What is turned in the entries behind Order turns nothing of what it told.
func TestP1302NotKept(t *testing.T) {
	l := book("A1", "B1 A1+1", "C1 SUM(A1:C1)", "t!A1 s!C1")
	want := orderOf(l)
	got := Order(l)
	for i := range l {
		l[i] = formula(at("Z"+strconv.Itoa(i+1)), "Z1+Z2+Z3+Z4")
	}
	if !same(got, want) {
		t.Errorf("%v, not %v", got, want)
	}
	check(t, l, knotsOf("Z1 Z2 Z3 Z4 @"))
	check(t, book("A1"), knotsOf("A1"))
}

// sheet is a sheet's name in memory of its own.
func sheet() string { return strings.Clone("abcdefgh") }

func TestP1302AnswerIsNew(t *testing.T) {
	l := []api.Entry{
		number(cell(sheet(), 1, 1), 1),
		reader(cell(sheet(), 2, 1), cell(sheet(), 1, 1), cell(sheet(), 3, 1)),
		{Cell: cell(sheet(), 3, 1), Formula: true, Node: api.Node{Kind: api.NRange, Cell: cell(sheet(), 1, 1), To: cell(sheet(), 3, 1)}},
	}
	given := map[*byte]struct{}{}
	for _, e := range l {
		for _, n := range append([]api.Node{e.Node, {Cell: e.Cell}}, e.Node.Kids...) {
			given[unsafe.StringData(n.Cell.Sheet)] = struct{}{}
			given[unsafe.StringData(n.To.Sheet)] = struct{}{}
		}
	}
	for _, k := range Order(l) {
		for _, c := range k.Cells {
			if _, ok := given[unsafe.StringData(c.Sheet)]; ok {
				t.Errorf("%v is of the arguments' memory", c)
			}
		}
	}
}

// A call answers the same whatever was asked ahead of it.
func TestP1302SameAgain(t *testing.T) {
	c := chance(13022)
	var all [][]api.Entry
	var first [][]Knot
	for range 200 {
		l := c.book(14, c.below(5))
		all, first = append(all, l), append(first, Order(l))
	}
	for i, l := range slices.Backward(all) {
		check(t, l, first[i])
	}
}

func TestP1302NilIsEmpty(t *testing.T) {
	check(t, []api.Entry{}, nil)
	l := book("A1", "B1 A1")
	l[1].Node.Kids = []api.Node{}
	check(t, l, knotsOf("A1;B1"))
}

// Calls side by side answer as they do alone.
func TestP1302TogetherAsAlone(t *testing.T) {
	c := chance(13023)
	l := c.book(20, 3)
	want := orderOf(l)
	var group sync.WaitGroup
	for range 8 {
		group.Go(func() {
			for range 50 {
				if !same(Order(l), want) {
					t.Errorf("told otherwise side by side")
				}
			}
		})
	}
	group.Wait()
}
