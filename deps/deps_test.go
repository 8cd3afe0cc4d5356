package deps

import (
	"cmp"
	"math"
	"slices"
	"strings"
	"sync"
	"testing"
	"unsafe"

	"abacist/addr"
	"abacist/api"
	"abacist/parse"
	"abacist/tree"
)

func cell(sheet string, col, row int) api.Cell { return api.Cell{Sheet: sheet, Col: col, Row: row} }

// at is the cell of that name; where no sheet stands ahead it is of s.
func at(name string) api.Cell {
	if !strings.Contains(name, "!") {
		name = "s!" + name
	}
	c, ok := addr.Read(name)
	if !ok {
		panic(name)
	}
	return c
}

// cells are those whose names stand in says.
func cells(says string) []api.Cell {
	var out []api.Cell
	for _, name := range strings.Fields(says) {
		out = append(out, at(name))
	}
	return out
}

// formula is an entry that reads what says does.
func formula(c api.Cell, says string) api.Entry {
	n, _, e := parse.Parse(says, c.Sheet)
	if e != api.OK {
		panic(says)
	}
	return api.Entry{Cell: c, Formula: true, Node: n}
}

func number(c api.Cell, n int) api.Entry {
	return api.Entry{Cell: c, Value: api.Value{Kind: api.Int, N: n}}
}

// book has an entry for each line: a cell's name, and, behind a space, a formula; without one it is a number.
func book(lines ...string) []api.Entry {
	var out []api.Entry
	for i, line := range lines {
		name, says, ok := strings.Cut(line, " ")
		if ok {
			out = append(out, formula(at(name), says))
		} else {
			out = append(out, number(at(name), i))
		}
	}
	return out
}

func compare(a, b api.Cell) int {
	return cmp.Or(strings.Compare(a.Sheet, b.Sheet), cmp.Compare(a.Row, b.Row), cmp.Compare(a.Col, b.Col))
}

// line is a cell, and all that hangs on it or that it hangs on.
type line struct {
	cell                  api.Cell
	reads, readers, after []api.Cell
}

func hangs(name, reads, readers, after string) line {
	return line{at(name), cells(reads), cells(readers), cells(after)}
}

// check holds d to lines, which are of all its cells, by addr.Less.
func check(t *testing.T, d *Deps, lines ...line) {
	t.Helper()
	var all []api.Cell
	for _, x := range lines {
		all = append(all, x.cell)
	}
	if got := d.Cells(); !slices.Equal(got, all) {
		t.Fatalf("Cells = %v, not %v", got, all)
	}
	for _, x := range lines {
		checkCell(t, d, x)
	}
}

func checkCell(t *testing.T, d *Deps, x line) {
	t.Helper()
	if got := d.Reads(x.cell); !slices.Equal(got, x.reads) {
		t.Fatalf("Reads(%v) = %v, not %v", x.cell, got, x.reads)
	}
	if got := d.Readers(x.cell); !slices.Equal(got, x.readers) {
		t.Fatalf("Readers(%v) = %v, not %v", x.cell, got, x.readers)
	}
	if got := d.After(x.cell); !slices.Equal(got, x.after) {
		t.Fatalf("After(%v) = %v, not %v", x.cell, got, x.after)
	}
}

// checkNothing holds d to knowing nothing of each of l.
func checkNothing(t *testing.T, d *Deps, l ...api.Cell) {
	t.Helper()
	for _, c := range l {
		checkCell(t, d, line{cell: c})
	}
}

// wrongCells are such as may not be.
func wrongCells() []api.Cell {
	out := []api.Cell{
		{}, cell("s", 0, 1), cell("s", 1, 0), cell("s", -1, 1), cell("s", 1, -1), cell("s", api.MaxCol+1, 1), cell("s", 1, api.MaxRow+1), cell("s", math.MinInt, 1), cell("s", 1, math.MaxInt), cell("s", 1<<32+1, 1), cell("s", 1, 1<<32+1),
	}
	for _, sheet := range []string{"", "S", "1s", "s!", "s ", "abcdefghi", "\u00e4", "s\x00"} {
		out = append(out, cell(sheet, 1, 1))
	}
	return out
}

// chance makes numbers, the same ones each time.
type chance uint32

func (c *chance) below(n int) int {
	*c = *c*1664525 + 1013904223
	return int(*c>>9) % n
}

func pick[T any](c *chance, l []T) T { return l[c.below(len(l))] }

// names are cells that the books made by chance have, by addr.Less.
func names() []string {
	return strings.Fields("a!A1 a!B1 a!A2 s!A1 s!B1 s!C1 s!A2 s!B2 s!C2 s!A3 s!ZZ999 t!A1 t!B1 t!A10")
}

// book makes some entries, up to three of a cell.
func (c *chance) book(count int) []api.Entry {
	var out []api.Entry
	for range count {
		e := number(at(pick(c, names())), c.below(9))
		if c.below(4) > 0 {
			a, b := pick(c, names()), pick(c, names())
			e = formula(e.Cell, pick(c, []string{"1+2", a, a + "+" + b, "-" + a, a + "*" + a, "SUM(A1:B2)", "IF(" + a + "<5," + b + ",REF!)", "COUNT(s!A1:C3," + a + ")", "a!Z9+" + a}))
		}
		out = append(out, e)
	}
	return out
}

// readsOf lists in the plainest way the cells that n and its Kids read, in no order.
func readsOf(n api.Node) []api.Cell {
	var out []api.Cell
	switch n.Kind {
	case api.NCell:
		out = append(out, n.Cell)
	case api.NRange:
		out = append(out, addr.Cells(api.Range{From: n.Cell, To: n.To})...)
	}
	for _, kid := range n.Kids {
		out = append(out, readsOf(kid)...)
	}
	return out
}

// linesOf tells what hangs on what in the plainest way: each pair of cells by itself, and what is after by way of each cell in its turn.
func linesOf(l []api.Entry) []line {
	last := map[api.Cell]api.Entry{}
	for _, e := range l {
		last[e.Cell] = e
	}
	var all []api.Cell
	for c := range last {
		all = append(all, c)
	}
	slices.SortFunc(all, compare)
	reads := make([][]int, len(all))
	after := make([][]int, len(all))
	for i, a := range all {
		reads[i], after[i] = make([]int, len(all)), make([]int, len(all))
		for k, b := range all {
			if last[a].Formula && slices.Contains(readsOf(last[a].Node), b) {
				reads[i][k], after[i][k] = 1, 1
			}
		}
	}
	for by := range all {
		for i := range all {
			for k := range all {
				after[i][k] |= after[i][by] & after[by][k]
			}
		}
	}
	var out []line
	for i, a := range all {
		x := line{cell: a}
		for k, b := range all {
			if reads[i][k] == 1 {
				x.reads = append(x.reads, b)
			}
			if reads[k][i] == 1 {
				x.readers = append(x.readers, b)
			}
			if after[k][i] == 1 {
				x.after = append(x.after, b)
			}
		}
		out = append(out, x)
	}
	return out
}

func TestP1201Example(t *testing.T) {
	check(t, New(nil))
	checkNothing(t, New(nil), at("A1"), api.Cell{})
}

func TestP1201Plain(t *testing.T) {
	d := New(book("A1", "B1 A1+1", "C1 A1+B1", "D1", "E1 C1"))
	check(t, d,
		hangs("A1", "", "B1 C1", "B1 C1 E1"),
		hangs("B1", "A1", "C1", "C1 E1"),
		hangs("C1", "A1 B1", "E1", "E1"),
		hangs("D1", "", "", ""),
		hangs("E1", "C1", "", ""),
	)
}

// By sheet, then by row, then by column; sheets go byte by byte; whatever the order of the entries.
func TestP1201Order(t *testing.T) {
	all := []api.Cell{
		cell("a", 1, 1), cell("a", 2, 1), cell("a", 702, 1), cell("a", 1, 2), cell("a", 1, 9), cell("a", 1, 10), cell("a0", 1, 1), cell("a10", 1, 1), cell("a2", 1, 1), cell("aa", 1, 1), cell("b", 27, 1), cell("b", 1, 3), cell("z", 26, 1), cell("z", 27, 1),
	}
	top := cell("m", 5, 5)
	c := chance(1201)
	for range 100 {
		var sum, l []api.Entry
		n := api.Node{Kind: api.NCall, Name: "SUM"}
		for _, i := range c.shuffled(len(all)) {
			l = append(l, api.Entry{Cell: all[i], Formula: true, Node: api.Node{Kind: api.NCell, Cell: top}})
			sum = append(sum, number(all[i], i))
			n.Kids = append(n.Kids, api.Node{Kind: api.NCell, Cell: all[i]})
		}
		d := New(append(l, number(top, 1)))
		checkCell(t, d, line{cell: top, readers: all, after: all})
		d = New(append([]api.Entry{{Cell: top, Formula: true, Node: n}}, sum...))
		checkCell(t, d, line{cell: top, reads: all})
		want := slices.Insert(slices.Clone(all), 12, top)
		if got := d.Cells(); !slices.Equal(got, want) {
			t.Fatalf("Cells = %v, not %v", got, want)
		}
	}
}

// shuffled are the numbers below n, in some order.
func (c *chance) shuffled(n int) []int {
	out := []int{}
	for i := range n {
		out = slices.Insert(out, c.below(i+1), i)
	}
	return out
}

// Of several entries of a cell the last one counts, whatever it is.
func TestP1201LastCounts(t *testing.T) {
	check(t, New(book("A1", "B1", "C1 A1", "C1 B1")), hangs("A1", "", "", ""), hangs("B1", "", "C1", "C1"), hangs("C1", "B1", "", ""))
	check(t, New(book("A1", "B1", "C1 A1", "C1")), hangs("A1", "", "", ""), hangs("B1", "", "", ""), hangs("C1", "", "", ""))
	check(t, New(book("C1", "A1", "B1", "C1 A1")), hangs("A1", "", "C1", "C1"), hangs("B1", "", "", ""), hangs("C1", "A1", "", ""))
	check(t, New(book("C1 B1", "A1", "B1", "C1", "C1 A1+B1", "B1 A1", "B1", "A1")), hangs("A1", "", "C1", "C1"), hangs("B1", "", "C1", "C1"), hangs("C1", "A1 B1", "", ""))
	check(t, New(book("A1 A1", "A1 A1", "A1 A1")), hangs("A1", "A1", "A1", "A1"))
	check(t, New(book("A1 B1", "B1 A1", "A1")), hangs("A1", "", "B1", "B1"), hangs("B1", "A1", "", ""))
	l := append(book("A1", "B1 A1"), api.Entry{Cell: at("B1")})
	check(t, New(l), hangs("A1", "", "", ""), hangs("B1", "", "", ""))
}

// What a cell has is looked at only where Formula says so; a value that is no formula reads nothing.
func TestP1201NoFormula(t *testing.T) {
	l := book("A1", "B1 A1")
	l[1].Formula = false
	check(t, New(l), hangs("A1", "", "", ""), hangs("B1", "", "", ""))
	l[1].Formula, l[1].Value = true, api.Value{Kind: 99, N: -1, S: "x"}
	check(t, New(l), hangs("A1", "", "B1", "B1"), hangs("B1", "A1", "", ""))
	l[1].Node = api.Node{}
	check(t, New(l), hangs("A1", "", "", ""), hangs("B1", "", "", ""))
	for _, v := range []api.Value{{}, {Kind: api.Text, S: "s!A1"}, {Kind: api.Text, S: "=A1"}, {Kind: api.Error, N: api.ERef}, {Kind: api.Bool, N: 1}, {Kind: -1, N: 77}} {
		l[1] = api.Entry{Cell: at("B1"), Value: v}
		check(t, New(l), hangs("A1", "", "", ""), hangs("B1", "", "", ""))
		l[1] = api.Entry{Cell: at("B1"), Formula: true, Node: api.Node{Kind: api.NValue, Value: v}}
		check(t, New(l), hangs("A1", "", "", ""), hangs("B1", "", "", ""))
	}
	check(t, New(book("A1", "B1 REF!+1", "C1 SUM()", `D1 "A1"&"s!A1"`)), hangs("A1", "", "", ""), hangs("B1", "", "", ""), hangs("C1", "", "", ""), hangs("D1", "", "", ""))
}

// What a formula reads that has no entry is no cell, and nothing hangs on it.
func TestP1201NotAmongCells(t *testing.T) {
	d := New(book("A1 Z9+B1", "B1 SUM(C1:D9)", "t!A1 s!A1+u!A1"))
	check(t, d, hangs("A1", "B1", "t!A1", "t!A1"), hangs("B1", "", "A1", "A1 t!A1"), hangs("t!A1", "A1", "", ""))
	checkNothing(t, d, cells("Z9 C1 D9 D1 u!A1 t!B1 ZZ999")...)
	checkNothing(t, d, wrongCells()...)
	check(t, New(book("A1 B1")), hangs("A1", "", "", ""))
}

func TestP1201Ranges(t *testing.T) {
	d := New(book("A1", "B2", "C3", "D1 SUM(A1:B2)", "E1 SUM(A1:C3,B2)", "t!A1 COUNT(s!B2:E9,B1)", "t!B1 SUM(A1:C3)"))
	check(t, d,
		hangs("A1", "", "D1 E1", "D1 E1"),
		hangs("D1", "A1 B2", "", ""),
		hangs("E1", "A1 B2 C3", "", ""),
		hangs("B2", "", "D1 E1 t!A1", "D1 E1 t!A1 t!B1"),
		hangs("C3", "", "E1 t!A1", "E1 t!A1 t!B1"),
		hangs("t!A1", "B2 C3 t!B1", "t!B1", "t!A1 t!B1"),
		hangs("t!B1", "t!A1 t!B1", "t!A1 t!B1", "t!A1 t!B1"),
	)
}

// A range reads up to api.MaxArea cells; a greater one, and one that is none, reads nothing.
func TestP1201RangesThatAreNone(t *testing.T) {
	reads := func(from, to api.Cell) []api.Cell {
		l := append(book("A1", "B1", "t!C9"), api.Entry{Cell: at("t!C9"), Formula: true, Node: api.Node{Kind: api.NRange, Cell: from, To: to}})
		return New(l).Reads(at("t!C9"))
	}
	if got := reads(at("A1"), cell("s", 400, 1)); !slices.Equal(got, cells("A1 B1")) {
		t.Errorf("Reads of 400 cells: %v", got)
	}
	for _, to := range []api.Cell{cell("s", 401, 1), cell("s", api.MaxCol, api.MaxRow), cell("t", 2, 1), cell("s", 0, 1), {}} {
		if got := reads(at("A1"), to); len(got) > 0 {
			t.Errorf("Reads of A1 to %v: %v", to, got)
		}
	}
	if got := reads(at("B1"), at("A1")); len(got) > 0 {
		t.Errorf("Reads of B1 to A1: %v", got)
	}
}

// A cell that hangs on itself, straight or round about, is after itself, and no other one is.
func TestP1201Round(t *testing.T) {
	check(t, New(book("A1 A1+1")), hangs("A1", "A1", "A1", "A1"))
	check(t, New(book("A1 B1", "B1 A1")), hangs("A1", "B1", "B1", "A1 B1"), hangs("B1", "A1", "A1", "A1 B1"))
	check(t, New(book("A1", "B1 A1+D1", "C1 B1", "D1 C1", "E1 D1", "F1 E1")),
		hangs("A1", "", "B1", "B1 C1 D1 E1 F1"),
		hangs("B1", "A1 D1", "C1", "B1 C1 D1 E1 F1"),
		hangs("C1", "B1", "D1", "B1 C1 D1 E1 F1"),
		hangs("D1", "C1", "B1 E1", "B1 C1 D1 E1 F1"),
		hangs("E1", "D1", "F1", "F1"),
		hangs("F1", "E1", "", ""),
	)
	// Two rounds that share a cell, and one that hangs on them.
	check(t, New(book("A1 B1+C1", "B1 A1", "C1 A1", "t!A1 s!C1+A1")),
		hangs("A1", "B1 C1", "B1 C1", "A1 B1 C1 t!A1"),
		hangs("B1", "A1", "A1", "A1 B1 C1 t!A1"),
		hangs("C1", "A1", "A1 t!A1", "A1 B1 C1 t!A1"),
		hangs("t!A1", "C1 t!A1", "t!A1", "t!A1"),
	)
	// A1 and B1 hang on one that is round, but aren't themselves.
	check(t, New(book("A1 C1", "B1 A1", "C1 C1")), hangs("A1", "C1", "B1", "B1"), hangs("B1", "A1", "", ""), hangs("C1", "C1", "A1 C1", "A1 B1 C1"))
}

// Cells that may not be are cells all the same, if they have entries; no formula reads them.
func TestP1201WrongCells(t *testing.T) {
	var l []api.Entry
	for i, c := range wrongCells() {
		l = append(l, number(c, i))
		l = append(l, api.Entry{Cell: c, Formula: true, Node: api.Node{Kind: api.NPair, Op: "+", Kids: []api.Node{{Kind: api.NCell, Cell: c}, {Kind: api.NCell, Cell: at("A1")}}}})
	}
	d := New(append(l, number(at("A1"), 1)))
	want := append(wrongCells(), at("A1"))
	slices.SortFunc(want, compare)
	if got := d.Cells(); !slices.Equal(got, want) {
		t.Fatalf("Cells = %v, not %v", got, want)
	}
	for _, c := range wrongCells() {
		checkCell(t, d, line{cell: c, reads: cells("A1")})
	}
	want = wrongCells()
	slices.SortFunc(want, compare)
	checkCell(t, d, line{cell: at("A1"), readers: want, after: want})
}

// A formula that may not be reads what it says all the same.
func TestP1201WrongFormulas(t *testing.T) {
	read := api.Node{Kind: api.NCell, Cell: at("A1")}
	deep := read
	for range 100000 {
		deep = api.Node{Kind: api.NUnary, Op: "-", Kids: []api.Node{deep}}
	}
	for _, n := range []api.Node{deep, {Kind: 99, Kids: []api.Node{read}}, {Kind: api.NPair, Op: "?", Kids: []api.Node{read}}, {Kind: api.NBad, Kids: []api.Node{read, read}}, {Kids: []api.Node{{}, read}}} {
		d := New(append(book("A1", "B1"), api.Entry{Cell: at("B1"), Formula: true, Node: n}))
		check(t, d, hangs("A1", "", "B1", "B1"), hangs("B1", "A1", "", ""))
	}
}

func TestP1201Any(t *testing.T) {
	c := chance(12011)
	round, far := 0, 0
	for range 1500 {
		l := c.book(c.below(20))
		want := linesOf(l)
		d := New(l)
		check(t, d, want...)
		for _, name := range names() {
			if !slices.Contains(d.Cells(), at(name)) {
				checkNothing(t, d, at(name))
			}
		}
		for _, x := range want {
			if slices.Contains(x.after, x.cell) {
				round++
			}
			if len(x.after) > len(x.readers) {
				far++
			}
		}
	}
	if round < 500 || far < 500 {
		t.Errorf("only %d are after themselves, %d have more after them than readers", round, far)
	}
}

// Many cells may hang each on the one ahead: each call ends all the same.
func TestP1201Long(t *testing.T) {
	const count = 60000
	name := func(i int) api.Cell { return cell("s", 1+i%api.MaxCol, 1+i/api.MaxCol) }
	var l []api.Entry
	for i := range count {
		l = append(l, api.Entry{Cell: name(i), Formula: true, Node: api.Node{Kind: api.NCell, Cell: name((i + 1) % count)}})
	}
	d := New(l)
	all := d.Cells()
	if len(all) != count || !slices.IsSortedFunc(all, compare) {
		t.Fatalf("%d cells", len(all))
	}
	for _, i := range []int{0, 1, count / 2, count - 1} {
		checkCell(t, d, line{name(i), []api.Cell{name((i + 1) % count)}, []api.Cell{name((i + count - 1) % count)}, all})
	}
	d = New(append(l, number(name(7), 0)))
	checkCell(t, d, line{name(7), nil, []api.Cell{name(6)}, slices.Delete(slices.Clone(all), 7, 8)})
	checkCell(t, d, line{name(9), []api.Cell{name(10)}, []api.Cell{name(8)}, []api.Cell{name(8)}})
}

// Many cells may all read many: After looks at each once.
func TestP1201Thick(t *testing.T) {
	var l []api.Entry
	for _, c := range addr.Cells(api.Range{From: at("A1"), To: at("T20")}) {
		l = append(l, formula(c, "SUM(A1:T20)"))
	}
	d := New(l)
	all := d.Cells()
	for _, c := range all {
		checkCell(t, d, line{c, all, all, all})
	}
}

func TestP1202NilOne(t *testing.T) {
	var none *Deps
	for _, d := range []*Deps{none, {}} {
		check(t, d)
		checkNothing(t, d, append(wrongCells(), at("A1"), at("t!B2"))...)
	}
}

// What is handed in stays as it is, its spare room, too.
func TestP1202NothingIsTurned(t *testing.T) {
	mark := number(at("Z26"), 77)
	c := chance(1202)
	for range 300 {
		first := c.book(c.below(12))
		l := make([]api.Entry, len(first), len(first)+3)
		for i, e := range first {
			l[i] = e
			l[i].Node = copied(e.Node)
		}
		for i := len(first); i < cap(l); i++ {
			l[:cap(l)][i] = mark
		}
		d := New(l)
		for _, x := range d.Cells() {
			d.Reads(x)
			d.Readers(x)
			d.After(x)
		}
		for i, e := range l[:cap(l)] {
			want := mark
			if i < len(first) {
				want = first[i]
			}
			if e.Cell != want.Cell || e.Formula != want.Formula || e.Value != want.Value || !tree.Same(e.Node, want.Node) {
				t.Fatalf("entry %d is %+v, not %+v", i, e, want)
			}
		}
	}
}

// copied is n, with lists of its own.
func copied(n api.Node) api.Node {
	n.Kids = slices.Clone(n.Kids)
	for i, kid := range n.Kids {
		n.Kids[i] = copied(kid)
	}
	return n
}

// What is turned in the entries behind New turns nothing of what it told.
func TestP1202NotKept(t *testing.T) {
	l := book("A1", "B1 A1+1", "C1 SUM(A1:B1)", "t!A1 s!C1")
	d := New(l)
	want := linesOf(l)
	l[1].Node.Kids[0].Cell = at("t!A1")
	l[2].Node.Kids[0].Kind = api.NBad
	l[3].Node = api.Node{}
	for i := range l {
		l[i].Cell = at("Z9")
		l[i].Formula = false
	}
	check(t, d, want...)
}

// sheet is a sheet's name in memory of its own.
func sheet() string { return strings.Clone("abcdefgh") }

func TestP1202AnswerIsNew(t *testing.T) {
	l := []api.Entry{
		number(cell(sheet(), 1, 1), 1),
		{Cell: cell(sheet(), 2, 1), Formula: true, Node: api.Node{Kind: api.NCell, Cell: cell(sheet(), 1, 1)}},
		{Cell: cell(sheet(), 3, 1), Formula: true, Node: api.Node{Kind: api.NRange, Cell: cell(sheet(), 1, 1), To: cell(sheet(), 3, 1)}},
	}
	given := map[*byte]struct{}{}
	for _, e := range l {
		for _, c := range []api.Cell{e.Cell, e.Node.Cell, e.Node.To} {
			given[unsafe.StringData(c.Sheet)] = struct{}{}
		}
	}
	d := New(l)
	asked := []func() []api.Cell{d.Cells}
	for _, e := range l {
		asked = append(asked, func() []api.Cell { return d.Reads(e.Cell) }, func() []api.Cell { return d.Readers(e.Cell) }, func() []api.Cell { return d.After(e.Cell) })
	}
	for i, ask := range asked {
		first := ask()
		for _, c := range first {
			if _, ok := given[unsafe.StringData(c.Sheet)]; ok {
				t.Errorf("%d: %v is of the arguments' memory", i, c)
			}
		}
		want := slices.Clone(first)
		first = first[:cap(first)]
		for k := range first {
			first[k] = at("Z9")
		}
		if got := ask(); !slices.Equal(got, want) {
			t.Errorf("%d: %v, not %v, behind a turned answer", i, got, want)
		}
	}
	check(t, d, linesOf(l)...)
}

// A call answers the same whatever was asked ahead of it, and of whichever other one.
func TestP1202SameAgain(t *testing.T) {
	c := chance(12021)
	var all []*Deps
	var first [][]line
	for range 100 {
		l := c.book(12)
		all, first = append(all, New(l)), append(first, linesOf(l))
	}
	for i := range all {
		k := len(all) - 1 - i
		check(t, all[k], first[k]...)
		slices.Reverse(first[k])
		for _, x := range first[k] {
			checkCell(t, all[k], x)
		}
	}
}

func TestP1202NilIsEmpty(t *testing.T) {
	check(t, New([]api.Entry{}))
	l := book("A1", "B1 A1")
	l[1].Node.Kids = []api.Node{}
	check(t, New(l), hangs("A1", "", "B1", "B1"), hangs("B1", "A1", "", ""))
}

// Calls side by side answer as they do alone.
func TestP1202TogetherAsAlone(t *testing.T) {
	c := chance(12022)
	l := c.book(18)
	want := linesOf(l)
	d := New(l)
	var group sync.WaitGroup
	for range 8 {
		group.Go(func() {
			for range 20 {
				for _, x := range want {
					for _, d := range []*Deps{d, New(l)} {
						if !slices.Equal(d.Reads(x.cell), x.reads) || !slices.Equal(d.Readers(x.cell), x.readers) || !slices.Equal(d.After(x.cell), x.after) {
							t.Errorf("%v told otherwise side by side", x.cell)
						}
					}
				}
			}
		})
	}
	group.Wait()
}
