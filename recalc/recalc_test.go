package recalc

import (
	"cmp"
	"maps"
	"math"
	"slices"
	"strconv"
	"strings"
	"sync"
	"testing"
	"unsafe"

	"abacist/addr"
	"abacist/api"
	"abacist/deps"
	"abacist/eval"
	"abacist/knots"
	"abacist/parse"
	"abacist/tree"
	"abacist/value"
)

func number(n int) api.Value { return api.Value{Kind: api.Int, N: n} }

func text(s string) api.Value { return api.Value{Kind: api.Text, S: s} }

func truth(n int) api.Value { return api.Value{Kind: api.Bool, N: n} }

func fault(n int) api.Value { return api.Value{Kind: api.Error, N: n} }

func cell(sheet string, col, row int) api.Cell { return api.Cell{Sheet: sheet, Col: col, Row: row} }

// at is the cell of that name; where no sheet stands ahead it is of s.
func at(name string) api.Cell {
	if !strings.Contains(name, "!") {
		name = "s!" + name
	}
	c, ok := addr.Read(name)
	if !ok {
		panic(name)
	}
	return c
}

func has(c api.Cell, v api.Value) api.Entry { return api.Entry{Cell: c, Value: v} }

func formula(c api.Cell, n api.Node) api.Entry { return api.Entry{Cell: c, Formula: true, Node: n} }

// says is an entry that has the formula s.
func says(c api.Cell, s string) api.Entry {
	n, _, e := parse.Parse(s, c.Sheet)
	if e != api.OK {
		panic(s)
	}
	return formula(c, n)
}

// valueOf reads a value: nothing, a number, a truth, an error, or else a text, which it is for sure with `'` ahead.
func valueOf(s string) api.Value {
	if rest, ok := strings.CutPrefix(s, "'"); ok {
		return text(rest)
	}
	all := []api.Value{{}, truth(0), truth(1)}
	for n := api.EOver; n <= api.ENone; n++ {
		all = append(all, fault(n))
	}
	if n, e := strconv.Atoi(s); e == nil {
		return number(n)
	}
	for _, v := range all {
		if value.Show(v) == s {
			return v
		}
	}
	return text(s)
}

// book has an entry for each line: a cell's name, and, behind a space, what it has, a formula if `=` is ahead.
func book(lines ...string) []api.Entry {
	var out []api.Entry
	for _, line := range lines {
		name, what, _ := strings.Cut(line, " ")
		if s, ok := strings.CutPrefix(what, "="); ok {
			out = append(out, says(at(name), s))
		} else {
			out = append(out, has(at(name), valueOf(what)))
		}
	}
	return out
}

// showsOf reads what cells show, as book reads what they have.
func showsOf(lines ...string) []api.Shown {
	var out []api.Shown
	for _, line := range lines {
		name, what, _ := strings.Cut(line, " ")
		out = append(out, api.Shown{Cell: at(name), Value: valueOf(what)})
	}
	return out
}

// check holds All and Rounds of l to what is wanted.
func check(t *testing.T, l []api.Entry, want []api.Shown, rounds []int) {
	t.Helper()
	if got := All(l); !slices.Equal(got, want) {
		t.Fatalf("All = %v, not %v", got, want)
	}
	if got := Rounds(l); !slices.Equal(got, rounds) {
		t.Fatalf("Rounds = %v, not %v", got, rounds)
	}
}

// told is a book, what its cells show, and how many rounds its knots take.
type told struct {
	book, want string // lines, between them `;`
	rounds     []int
}

func (x told) check(t *testing.T) {
	t.Helper()
	check(t, book(strings.Split(x.book, ";")...), showsOf(strings.Split(x.want, ";")...), x.rounds)
}

// compare is addr.Less, by the words of its chapter.
func compare(a, b api.Cell) int {
	return cmp.Or(strings.Compare(a.Sheet, b.Sheet), cmp.Compare(a.Row, b.Row), cmp.Compare(a.Col, b.Col))
}

// list has what is in shown, by addr.Less.
func list(shown map[api.Cell]api.Value) []api.Shown {
	var out []api.Shown
	for _, c := range slices.SortedFunc(maps.Keys(shown), compare) {
		out = append(out, api.Shown{Cell: c, Value: shown[c]})
	}
	return out
}

// plainly is All and Rounds by the promise's words, each formula with all that was reckoned ahead.
func plainly(l []api.Entry) ([]api.Shown, []int) {
	entries := map[api.Cell]api.Entry{}
	for _, e := range l {
		entries[e.Cell] = e
	}
	shown := map[api.Cell]api.Value{}
	var rounds []int
	for _, k := range knots.Order(l) {
		if !k.Round {
			e := entries[k.Cells[0]]
			v := e.Value
			if e.Formula {
				v = eval.Eval(e.Node, list(shown))
			}
			shown[e.Cell] = v
			rounds = append(rounds, 1)
			continue
		}
		for _, c := range k.Cells {
			shown[c] = api.Value{}
		}
		count := 0
		for {
			ahead := maps.Clone(shown)
			for _, c := range k.Cells {
				shown[c] = eval.Eval(entries[c].Node, list(ahead))
			}
			count++
			if count == 12 || maps.Equal(shown, ahead) {
				break
			}
		}
		rounds = append(rounds, count)
	}
	return list(shown), rounds
}

// chance makes numbers, the same ones each time.
type chance uint32

func (c *chance) below(n int) int {
	*c = *c*1664525 + 1013904223
	return int(*c>>9) % n
}

func pick[T any](c *chance, l []T) T { return l[c.below(len(l))] }

// shuffled is l, in some order.
func shuffled[T any](c *chance, l []T) []T {
	var out []T
	for i, x := range l {
		out = slices.Insert(out, c.below(i+1), x)
	}
	return out
}

// wrongValues are such as may not be.
func wrongValues() []api.Value {
	return []api.Value{{N: 1}, {S: "a"}, {Kind: api.Int, N: 5, S: "5"}, {Kind: api.Text, N: 1}, text(strings.Repeat("a", api.MaxText+1)), truth(2), fault(0), fault(api.ENone + 1), {Kind: -1}, {Kind: 9}, {Kind: 1<<32 + api.Int}, {Kind: math.MinInt, N: math.MaxInt, S: "\xff"}}
}

// rightValues are such as may be.
func rightValues() []api.Value {
	out := []api.Value{{}, number(math.MinInt), number(-1), number(0), number(7), number(math.MaxInt), text(""), text("a"), text("=A1"), text("h\u00e9\xff\x00"), text(strings.Repeat("z", api.MaxText)), truth(0), truth(1)}
	for n := api.EOver; n <= api.ENone; n++ {
		out = append(out, fault(n))
	}
	return out
}

// wrongCells are such as may not be.
func wrongCells() []api.Cell {
	out := []api.Cell{
		{}, cell("s", 0, 1), cell("s", 1, 0), cell("s", -1, 1), cell("s", 1, -1), cell("s", api.MaxCol+1, 1), cell("s", 1, api.MaxRow+1), cell("s", math.MinInt, 1), cell("s", 1, math.MaxInt), cell("s", 1<<32+1, 1), cell("s", 1, 1<<32+1),
	}
	for _, sheet := range []string{"", "S", "1s", "s!", "s ", "abcdefghi", "\u00e4", "s\x00"} {
		out = append(out, cell(sheet, 1, 1))
	}
	return out
}

// wrongFormulas are nodes that are no formulas, though they read B1, all but the first.
func wrongFormulas() []api.Node {
	read := api.Node{Kind: api.NCell, Cell: at("B1")}
	deep := read
	for range 100000 {
		deep = api.Node{Kind: api.NUnary, Op: "-", Kids: []api.Node{deep}}
	}
	return []api.Node{
		{}, deep,
		{Kind: 99, Kids: []api.Node{read}},
		{Kind: api.NPair, Op: "?", Kids: []api.Node{read, read}},
		{Kind: api.NUnary, Op: "-", Kids: []api.Node{read, read}},
		{Kind: api.NBad, Kids: []api.Node{read}},
		{Kind: api.NCall, Name: "sum", Kids: []api.Node{read}},
		{Kind: api.NCell, Cell: at("B1"), Name: "A"},
	}
}

// names are cells that the books made by chance have.
func names() []string {
	return strings.Fields("a!A1 a!B1 s!A1 s!B1 s!C1 s!A2 s!B2 s!C2 s!A3 s!ZZ999 t!A1 t!B1 t!A10")
}

// entry makes some entry; of six some dense are formulas.
func (c *chance) entry(dense int) api.Entry {
	e := has(at(pick(c, names())), number(c.below(9)))
	switch c.below(6) {
	case 0:
		e.Value = pick(c, rightValues())
	case 1:
		if c.below(8) == 0 {
			e.Value = pick(c, wrongValues())
		}
	}
	if c.below(6) < dense {
		a, b := pick(c, names()), pick(c, names())
		e = says(e.Cell, pick(c, []string{
			a, a + "+1", "-" + a, a + "+" + b, b + "&" + a, a + "/" + b, "SUM(A1:B2)", "COUNT(A1:C2)+" + a, "NOT(" + a + ")", "ISERR(" + a + ")", "ISBLANK(" + b + ")", "REF!", "a!Z9&" + a,
			"IF(" + a + "<5," + a + "+1," + b + ")", "IF(ISBLANK(" + a + "),1," + b + ")", "MAX(" + a + "," + b + ",3)", "LEFT(" + a + "&\"x\",3)", "IF(" + a + ">2," + b + ",REF!)",
		}))
		// What a formula's entry has beside it is not looked at.
		e.Value = number(c.below(3))
	}
	return e
}

// book makes some entries, a few of them of the same cell.
func (c *chance) book(count, dense int) []api.Entry {
	var out []api.Entry
	for range count {
		out = append(out, c.entry(dense))
	}
	return out
}

func TestP1401Example(t *testing.T) {
	check(t, nil, nil, nil)
}

func TestP1401Plain(t *testing.T) {
	for _, x := range []told{
		{"A1 5", "A1 5", []int{1}},
		{"A1 =1+2", "A1 3", []int{1}},
		{"A1 =B1+1;B1 5", "A1 6;B1 5", []int{1, 1}},
		{"A1 5;B1 =A1+1;C1 =B1*A1", "A1 5;B1 6;C1 30", []int{1, 1, 1}},
		{"C1 5;B1 =C1+1;A1 =B1*C1", "A1 30;B1 6;C1 5", []int{1, 1, 1}},
		{"A1 =1/0;B1 =A1+1;C1 =ISERR(B1)", "A1 #DIV;B1 #DIV;C1 TRUE", []int{1, 1, 1}},
		{"A1 x;B1 =A1&A1;C1 =B1&A1", "A1 x;B1 xx;C1 xxx", []int{1, 1, 1}},
		{"A1 1;B1 2;A2 3;B2 4;C1 =SUM(A1:B2);C2 =SUM(C1,A1:A2)", "A1 1;B1 2;C1 10;A2 3;B2 4;C2 14", []int{1, 1, 1, 1, 1, 1}},
		{"t!A1 =A2;t!A2 =s!A1;A1 8;A2 9", "A1 8;A2 9;t!A1 8;t!A2 8", []int{1, 1, 1, 1}},
		{"A1 =REF!;B1 =IF(TRUE,4,A1);C1 =NOPE(B1)", "A1 #REF;B1 4;C1 #NAME", []int{1, 1, 1}},
		// A formula may show nothing, and is told all the same.
		{"A1 =B1;B1 ", "A1 ;B1 ", []int{1, 1}},
	} {
		x.check(t)
	}
}

// What has no entry is Blank, and is not told.
func TestP1401NoEntry(t *testing.T) {
	for _, x := range []told{
		{"A1 =Z9", "A1 ", []int{1}},
		{"A1 =Z9+1;B1 =SUM(C1:Z9);C2 4", "A1 1;B1 4;C2 4", []int{1, 1, 1}},
		{"A1 =ISBLANK(t!A1);B1 =u!A1&A1", "A1 TRUE;B1 'TRUE", []int{1, 1}},
		{"A1 =A1+Z9", "A1 0", []int{2}},
	} {
		x.check(t)
	}
}

// A cell without a formula shows its Value, whatever it is; what reads it takes it as eval does.
func TestP1401Values(t *testing.T) {
	for _, v := range slices.Concat(rightValues(), wrongValues()) {
		read := v
		if !value.Right(v) {
			read = fault(api.EType)
		}
		l := []api.Entry{says(at("A1"), "B1"), has(at("B1"), v), says(at("C1"), "A1")}
		check(t, l, []api.Shown{{Cell: at("A1"), Value: read}, {Cell: at("B1"), Value: v}, {Cell: at("C1"), Value: read}}, []int{1, 1, 1})
	}
}

// What an entry is not, is not looked at.
func TestP1401OtherFields(t *testing.T) {
	l := book("A1 =A1", "B1 =B1+1", "C1 =A1&B1")
	for i := range l {
		l[i].Value = text("x")
	}
	check(t, l, showsOf("A1 ", "B1 12", "C1 '12"), []int{1, 12, 1})
	for i := range l {
		l[i].Formula = false
	}
	check(t, l, showsOf("A1 x", "B1 x", "C1 x"), []int{1, 1, 1})
}

// Of several entries of a cell the last one counts.
func TestP1401LastCounts(t *testing.T) {
	for _, x := range []told{
		{"A1 1;A1 2", "A1 2", []int{1}},
		{"A1 =A1+1;A1 2", "A1 2", []int{1}},
		{"A1 2;A1 =A1+1", "A1 12", []int{12}},
		{"A1 =1+1;B1 =A1;A1 =1+2;C1 =A1", "A1 3;B1 3;C1 3", []int{1, 1, 1}},
		{"A1 =B1;B1 =A1;A1 7", "A1 7;B1 7", []int{1, 1}},
		{"A1 7;B1 =A1+1;A1 =B1", "A1 6;B1 6", []int{12}},
		{"A1 7;A1 ", "A1 ", []int{1}},
		{"A1 =1;A1 x;A1 =2", "A1 2", []int{1}},
	} {
		x.check(t)
	}
}

// All goes by sheet, then by row, then by column, whatever the order of the entries and of the knots.
func TestP1401Less(t *testing.T) {
	all := []api.Cell{
		cell("a", 1, 1), cell("a", 2, 1), cell("a", 702, 1), cell("a", 1, 2), cell("a", 1, 9), cell("a", 1, 10), cell("a0", 1, 1), cell("a10", 1, 1), cell("a2", 1, 1), cell("aa", 1, 1), cell("b", 27, 1), cell("b", 1, 3), cell("z", 26, 1), cell("z", 27, 1),
	}
	c := chance(1401)
	for range 100 {
		var l []api.Entry
		var want []api.Shown
		behind := shuffled(&c, all)
		for i, x := range behind {
			e := has(x, number(0))
			if i > 0 {
				e = says(x, addr.Show(behind[i-1])+"+1")
			}
			l = append(l, e)
			want = append(want, api.Shown{Cell: x, Value: number(i)})
		}
		slices.SortFunc(want, func(a, b api.Shown) int { return compare(a.Cell, b.Cell) })
		check(t, shuffled(&c, l), want, slices.Repeat([]int{1}, len(all)))
	}
}

// A Round knot is reckoned till a round turns nothing, that round counted; or MaxRounds times.
func TestP1401HowManyRounds(t *testing.T) {
	for most := 1; most < 20; most++ {
		n, rounds := min(most, api.MaxRounds), min(most+1, api.MaxRounds)
		s := strconv.Itoa(most)
		check(t, book("A1 =IF(A1<"+s+",A1+1,A1)"), []api.Shown{{Cell: at("A1"), Value: number(n)}}, []int{rounds})
		check(t, book("A1 =IF(B1<"+s+",B1+1,B1)", "B1 "+s), []api.Shown{{Cell: at("A1"), Value: number(most)}, {Cell: at("B1"), Value: number(most)}}, []int{1, 1})
	}
	for _, x := range []told{
		{"A1 =A1", "A1 ", []int{1}},
		{"A1 =A1&A1", "A1 '", []int{2}},
		{"A1 =A1+0", "A1 0", []int{2}},
		{"A1 =IF(ISBLANK(A1),A1,7)", "A1 ", []int{1}},
		{"A1 =IF(TRUE,1,A1)", "A1 1", []int{2}},
		{"A1 =A1+1", "A1 12", []int{12}},
		{"A1 =NOT(A1)", "A1 FALSE", []int{12}},
		{"A1 =1-A1", "A1 0", []int{12}},
		{"A1 =1/A1", "A1 #DIV", []int{2}},
		{"A1 =A1&\"ab\"", "A1 abababababababababababab", []int{12}},
		// Of another kind, though it looks the same, is turned.
		{"A1 =IF(ISBLANK(A1),\"\",A1)", "A1 '", []int{2}},
		{"A1 =IF(ISBLANK(A1),1,IF(A1=1,\"1\",\"1\"))", "A1 '1", []int{3}},
		// It is ended by no value that was there before, if it was not there in the round ahead.
		{"A1 =IF(A1=0,1,IF(A1=1,2,IF(A1=2,1,1)))", "A1 2", []int{12}},
	} {
		x.check(t)
	}
}

// In a round each formula is reckoned with what the round ahead had, not with what the same round has.
func TestP1401RoundAhead(t *testing.T) {
	for _, x := range []told{
		{"A1 =B1;B1 =A1", "A1 ;B1 ", []int{1}},
		{"A1 =B1+1;B1 =A1", "A1 6;B1 6", []int{12}},
		{"A1 =B1;B1 =A1+1", "A1 6;B1 6", []int{12}},
		{"A1 =B1+1;B1 =A1+1", "A1 12;B1 12", []int{12}},
		{"A1 =C1+1;B1 =A1;C1 =B1", "A1 4;B1 4;C1 4", []int{12}},
		{"A1 =B1;B1 =C1;C1 =A1+1", "A1 4;B1 4;C1 4", []int{12}},
		{"A1 =B1+1;B1 =C1&\"\";C1 =A1*2", "A1 #TYPE;B1 #TYPE;C1 #TYPE", []int{5}},
		{"A1 =A1+1;B1 =A1+B1", "A1 12;B1 144", []int{12, 12}},
		{"A1 =A1+B1*0+1;B1 =A1+B1", "A1 12;B1 66", []int{12}},
		{"A1 =A1+1;B1 =A1+B1+C1*0;C1 =B1", "A1 12;B1 144;C1 132", []int{12, 12}},
		{"A1 =IF(ISBLANK(B1),1,2);B1 =IF(ISBLANK(A1),1,2)", "A1 2;B1 2", []int{3}},
		{"A1 =NOT(B1);B1 =NOT(A1)", "A1 FALSE;B1 FALSE", []int{12}},
		{"A1 =NOT(B1);B1 =A1", "A1 FALSE;B1 FALSE", []int{12}},
		{"A1 =SUM(A1:C1)+1;B1 =A1;C1 =A1", "A1 2730;B1 1365;C1 1365", []int{12}},
	} {
		x.check(t)
	}
}

// A round goes on if only one cell of the knot turned, be it the first, the last or one between.
func TestP1401OneTurns(t *testing.T) {
	for turns := range 3 {
		var l []api.Entry
		var want []api.Shown
		for i, name := range strings.Fields("A1 B1 C1") {
			s, v := "SUM(A1:C1)*0", number(0)
			if i == turns {
				s, v = name+"+1+SUM(A1:C1)*0", number(12)
			}
			l = append(l, says(at(name), s))
			want = append(want, api.Shown{Cell: at(name), Value: v})
		}
		check(t, l, want, []int{12})
	}
	// It goes once round a ring, and once more to see that nothing turned.
	told{"A1 =IF(ISBLANK(D1),1,1);B1 =A1;C1 =B1;D1 =C1", "A1 1;B1 1;C1 1;D1 1", []int{5}}.check(t)
	told{"A1 =B1;B1 =C1;C1 =D1;D1 =IF(ISBLANK(A1),1,1)", "A1 1;B1 1;C1 1;D1 1", []int{5}}.check(t)
}

// Each knot has its own rounds: what is behind it sees how it ended, and what is ahead of it is there from its first round on.
func TestP1401KnotByKnot(t *testing.T) {
	for _, x := range []told{
		{"A1 =A1+1;B1 =A1;C1 =B1+C1;D1 =C1", "A1 12;B1 12;C1 144;D1 144", []int{12, 1, 12, 1}},
		{"A1 3;B1 =MIN(9,B1+A1)", "A1 3;B1 9", []int{1, 4}},
		{"A1 =D1&B1;B1 =A1;C1 =B1;D1 x", "A1 xxxxxx;B1 xxxxxx;C1 xxxxxx;D1 x", []int{1, 12, 1}},
		{"A1 =IF(A1<3,A1+1,A1);B1 =IF(B1<A1,B1+1,B1);C1 =IF(C1<7,C1+B1,C1)", "A1 3;B1 3;C1 9", []int{4, 4, 4}},
		{"C1 =IF(C1<3,C1+1,C1);B1 =IF(B1<C1,B1+C1,B1);A1 =B1+C1", "A1 6;B1 3;C1 3", []int{4, 2, 1}},
		{"A1 =A1&C1;B1 =A1;C1 =1/0", "A1 #DIV;B1 #DIV;C1 #DIV", []int{1, 2, 1}},
		// Rounds go by the knots' order, not by that of the cells.
		{"A1 =B1;B1 =C1;C1 =C1+1", "A1 12;B1 12;C1 12", []int{12, 1, 1}},
		{"A1 =t!A1;B1 1;t!A1 =t!A1+s!B1", "A1 12;B1 1;t!A1 12", []int{1, 12, 1}},
		{"A1 1;B1 =C1+1;C1 =B1;D1 =A1;E1 =E1", "A1 1;B1 6;C1 6;D1 1;E1 ", []int{1, 12, 1, 1}},
	} {
		x.check(t)
	}
}

// Cells that may not be show what they have, and are read by none.
func TestP1401WrongCells(t *testing.T) {
	all := wrongCells()
	slices.SortFunc(all, compare)
	var l []api.Entry
	var want []api.Shown
	for i, c := range all {
		l = append(l, has(c, number(i)))
		want = append(want, api.Shown{Cell: c, Value: number(i)})
	}
	rounds := slices.Repeat([]int{1}, len(all))
	check(t, l, want, rounds)
	slices.Reverse(l)
	check(t, l, want, rounds)
	for i, e := range l {
		l[i] = formula(e.Cell, says(at("A1"), "1+2").Node)
		want[i].Value = number(3)
	}
	check(t, l, want, rounds)
	for i, e := range l {
		l[i] = formula(e.Cell, api.Node{Kind: api.NCell, Cell: e.Cell})
		want[i].Value = fault(api.EType)
	}
	check(t, l, want, rounds)
}

// A formula that may not be is EType, and may be round all the same.
func TestP1401WrongFormulas(t *testing.T) {
	wrong := fault(api.EType)
	for i, n := range wrongFormulas() {
		e := formula(at("A1"), n)
		check(t, []api.Entry{e}, []api.Shown{{Cell: at("A1"), Value: wrong}}, []int{1})
		check(t, append(book("B1 4", "C1 =ISERR(A1)"), e), []api.Shown{{Cell: at("A1"), Value: wrong}, {Cell: at("B1"), Value: number(4)}, {Cell: at("C1"), Value: truth(1)}}, []int{1, 1, 1})
		// The last round tells that nothing turned; B1 turns as late as in the second one.
		rounds := []int{3}
		if i == 0 {
			rounds = []int{1, 1}
		}
		check(t, append(book("B1 =A1"), e), []api.Shown{{Cell: at("A1"), Value: wrong}, {Cell: at("B1"), Value: wrong}}, rounds)
	}
	over := api.Node{Kind: api.NCall, Name: "SUM", Kids: []api.Node{{Kind: api.NRange, Cell: at("A1"), To: cell("s", api.MaxArea+1, 1)}}}
	check(t, []api.Entry{formula(at("A2"), over)}, []api.Shown{{Cell: at("A2"), Value: wrong}}, []int{1})
	check(t, []api.Entry{formula(at("A1"), over)}, []api.Shown{{Cell: at("A1"), Value: wrong}}, []int{1})
}

func TestP1401Any(t *testing.T) {
	c := chance(14011)
	kinds, took := map[int]int{}, map[int]int{}
	for range 6000 {
		l := c.book(c.below(24), c.below(7))
		want, rounds := plainly(l)
		if got := All(l); !slices.Equal(got, want) {
			t.Fatalf("All of %v = %v, not %v", l, got, want)
		}
		if got := Rounds(l); !slices.Equal(got, rounds) {
			t.Fatalf("Rounds of %v = %v, not %v", l, got, rounds)
		}
		for _, x := range want {
			kinds[x.Value.Kind]++
		}
		for _, n := range rounds {
			took[n]++
		}
	}
	for kind := api.Blank; kind <= api.Error; kind++ {
		if kinds[kind] < 500 {
			t.Errorf("only %d of kind %d", kinds[kind], kind)
		}
	}
	for n := 1; n <= 5; n++ {
		if took[n] < 50 {
			t.Errorf("only %d of %d rounds", took[n], n)
		}
	}
	if took[api.MaxRounds] < 500 {
		t.Errorf("only %d of all rounds", took[api.MaxRounds])
	}
}

// What is told hangs on what the cells have, not on the order of the entries.
func TestP1401WhateverOrder(t *testing.T) {
	c := chance(14012)
	for range 200 {
		var l []api.Entry
		for _, name := range names() {
			if c.below(6) > 0 {
				e := c.entry(4)
				e.Cell = at(name)
				l = append(l, e)
			}
		}
		want, rounds := plainly(l)
		for range 5 {
			check(t, shuffled(&c, l), want, rounds)
		}
	}
}

// All has the cells of deps, each once; and each formula shows what it is with all of them, but of knots that went through all rounds.
func TestP1401ShowsWhatItSays(t *testing.T) {
	c := chance(14013)
	settled := 0
	for range 500 {
		l := c.book(c.below(30), 3)
		got, rounds := All(l), Rounds(l)
		var all []api.Cell
		for _, x := range got {
			all = append(all, x.Cell)
		}
		if want := deps.New(l).Cells(); !slices.Equal(all, want) {
			t.Fatalf("the cells are %v, not %v", all, want)
		}
		shown := map[api.Cell]api.Value{}
		for _, x := range got {
			shown[x.Cell] = x.Value
		}
		entries := map[api.Cell]api.Entry{}
		for _, e := range l {
			entries[e.Cell] = e
		}
		for i, k := range knots.Order(l) {
			if rounds[i] > 1 && rounds[i] < api.MaxRounds {
				settled++
			}
			for _, x := range k.Cells {
				if e := entries[x]; e.Formula && rounds[i] < api.MaxRounds && shown[x] != eval.Eval(e.Node, got) {
					t.Fatalf("%v shows %v in %v", x, shown[x], got)
				}
			}
		}
	}
	if settled < 100 {
		t.Errorf("only %d settled behind some rounds", settled)
	}
}

// long is the i-th of many cells, by addr.Less.
func long(i int) api.Cell { return cell("s", 1+i%api.MaxCol, 1+i/api.MaxCol) }

// oneMore is a formula: the cell c, and 1.
func oneMore(c api.Cell) api.Node {
	one := api.Node{Kind: api.NValue, Value: number(1)}
	return api.Node{Kind: api.NPair, Op: "+", Kids: []api.Node{{Kind: api.NCell, Cell: c}, one}}
}

// Many cells may hang each on the one behind, or ahead, or in a ring.
func TestP1401Long(t *testing.T) {
	const count = 20000
	var down, up []api.Entry
	var downWant, upWant, ringWant []api.Shown
	for i := range count {
		down = append(down, formula(long(i), oneMore(long(i+1))))
		up = append(up, formula(long(count-1-i), oneMore(long(count-2-i))))
		downWant = append(downWant, api.Shown{Cell: long(i), Value: number(count - 1 - i)})
		upWant = append(upWant, api.Shown{Cell: long(i), Value: number(i)})
		ringWant = append(ringWant, api.Shown{Cell: long(i), Value: number(api.MaxRounds)})
	}
	down[count-1] = has(long(count-1), number(0))
	up[count-1] = has(long(0), number(0))
	rounds := slices.Repeat([]int{1}, count)
	check(t, down, downWant, rounds)
	check(t, up, upWant, rounds)
	down[count-1] = formula(long(count-1), oneMore(long(0)))
	check(t, down, ringWant, []int{api.MaxRounds})
}

// Many cells may all read many.
func TestP1401Thick(t *testing.T) {
	cells := addr.Cells(api.Range{From: at("A1"), To: at("T20")})
	var l []api.Entry
	var want []api.Shown
	for _, c := range cells {
		l = append(l, says(c, "IF(ISBLANK(B1),SUM(A1:T20)+1,SUM(A1:T20))"))
	}
	// 1 each, then 400 times as much in each round, till it is too great for a number.
	for _, c := range cells {
		want = append(want, api.Shown{Cell: c, Value: fault(api.EOver)})
	}
	check(t, l, want, []int{10})
}

// copied is n, with lists of its own that have spare room, which mark fills.
func copied(n api.Node, mark api.Node) api.Node {
	kids := slices.Repeat([]api.Node{mark}, len(n.Kids)+3)
	for i, kid := range n.Kids {
		kids[i] = copied(kid, mark)
	}
	n.Kids = kids[:len(n.Kids)]
	return n
}

// checkMarks looks whether the spare room in n is as copied made it.
func checkMarks(t *testing.T, n api.Node, mark api.Node) {
	t.Helper()
	for i, kid := range n.Kids[:cap(n.Kids)] {
		if i < len(n.Kids) {
			checkMarks(t, kid, mark)
		} else if i < len(n.Kids)+3 && !tree.Same(kid, mark) {
			t.Fatalf("spare room of %+v has %+v", n, kid)
		}
	}
}

// sameEntry tells whether the two entries are the same throughout.
func sameEntry(a, b api.Entry) bool {
	return a.Cell == b.Cell && a.Formula == b.Formula && a.Value == b.Value && tree.Same(a.Node, b.Node)
}

// What is handed in stays as it is, its spare room, too.
func TestP1402NothingIsTurned(t *testing.T) {
	markNode := api.Node{Kind: 99, Op: "mark", Kids: []api.Node{{Kind: api.NBad}}}
	markEntry := has(at("Z26"), number(77))
	c := chance(1402)
	for turn := range 300 {
		first := c.book(c.below(12), 4)
		l := make([]api.Entry, len(first), len(first)+3)
		for i, e := range first {
			l[i] = e
			l[i].Node = copied(e.Node, markNode)
		}
		for i := len(first); i < cap(l); i++ {
			l[:cap(l)][i] = markEntry
		}
		if turn%2 == 0 {
			All(l)
		} else {
			Rounds(l)
		}
		for i, e := range l[:cap(l)] {
			want := markEntry
			if i < len(first) {
				want = first[i]
				checkMarks(t, e.Node, markNode)
			}
			if !sameEntry(e, want) {
				t.Fatalf("entry %d is %+v, not %+v", i, e, want)
			}
		}
	}
}

// What is turned in an answer, or behind it in the entries, turns no other answer.
func TestP1402NotKept(t *testing.T) {
	c := chance(14021)
	for range 200 {
		l := c.book(14, c.below(6))
		want, rounds := plainly(l)
		got, took := All(l), Rounds(l)
		room, tookRoom := got[:cap(got)], took[:cap(took)]
		for i := range room {
			room[i] = api.Shown{Cell: at("Z9"), Value: text("z")}
		}
		for i := range tookRoom {
			tookRoom[i] = 99
		}
		check(t, l, want, rounds)
		got, took = All(l), Rounds(l)
		for i := range l {
			for k := range l[i].Node.Kids {
				l[i].Node.Kids[k] = api.Node{Kind: api.NBad}
			}
			l[i] = says(at("Z"+strconv.Itoa(i+1)), "1/0")
		}
		if !slices.Equal(got, want) || !slices.Equal(took, rounds) {
			t.Fatalf("%v, %v, not %v, %v", got, took, want, rounds)
		}
		check(t, book("A1 1"), showsOf("A1 1"), []int{1})
	}
}

// shares tells whether the two have bytes in common.
func shares(a, b string) bool {
	if a == "" || b == "" {
		return false
	}
	x, y := uintptr(unsafe.Pointer(unsafe.StringData(a))), uintptr(unsafe.Pointer(unsafe.StringData(b)))
	return x < y+uintptr(len(b)) && y < x+uintptr(len(a))
}

// own is s, in memory of its own.
func own(s string) string { return strings.Clone(s) }

func TestP1402AnswerIsNew(t *testing.T) {
	wrong := api.Value{Kind: 9, S: own("wrong")}
	l := []api.Entry{
		has(cell(own("abcdefgh"), 1, 1), text(own("first"))),
		has(cell(own("abcdefgh"), 1, 1), text(own("text"))),
		has(cell(own("abcdefgh"), 2, 1), wrong),
		formula(cell(own("abcdefgh"), 3, 1), api.Node{Kind: api.NCell, Cell: cell(own("abcdefgh"), 1, 1)}),
		formula(cell(own("abcdefgh"), 4, 1), api.Node{Kind: api.NValue, Value: text(own("written"))}),
		formula(cell(own("abcdefgh"), 5, 1), api.Node{Kind: api.NPair, Op: "&", Kids: []api.Node{{Kind: api.NCell, Cell: cell(own("abcdefgh"), 5, 1)}, {Kind: api.NValue, Value: text(own("more"))}}}),
	}
	var given []string
	for _, e := range l {
		given = append(given, e.Cell.Sheet, e.Value.S)
		for _, n := range append([]api.Node{e.Node}, e.Node.Kids...) {
			given = append(given, n.Cell.Sheet, n.Value.S)
		}
	}
	got := All(l)
	want := []api.Value{text("text"), {Kind: 9, S: "wrong"}, text("text"), text("written"), text(strings.Repeat("more", 12))}
	for i, x := range got {
		if x.Value != want[i] {
			t.Errorf("%v shows %v, not %v", x.Cell, x.Value, want[i])
		}
		for _, s := range given {
			if shares(s, x.Cell.Sheet) || shares(s, x.Value.S) {
				t.Errorf("%v is of the arguments' memory", x)
			}
		}
	}
}

// A call answers the same whatever was asked ahead of it.
func TestP1402SameAgain(t *testing.T) {
	c := chance(14022)
	var all [][]api.Entry
	var shown [][]api.Shown
	var rounds [][]int
	for range 200 {
		l := c.book(14, c.below(6))
		all, shown, rounds = append(all, l), append(shown, All(l)), append(rounds, Rounds(l))
	}
	for i, l := range slices.Backward(all) {
		check(t, l, shown[i], rounds[i])
	}
}

func TestP1402NilIsEmpty(t *testing.T) {
	check(t, []api.Entry{}, nil, nil)
	l := book("A1 4", "B1 =A1")
	l[1].Node.Kids = []api.Node{}
	check(t, l, showsOf("A1 4", "B1 4"), []int{1, 1})
}

// Calls side by side answer as they do alone.
func TestP1402TogetherAsAlone(t *testing.T) {
	c := chance(14023)
	l := c.book(20, 3)
	want, rounds := plainly(l)
	var group sync.WaitGroup
	for range 8 {
		group.Go(func() {
			for range 50 {
				if !slices.Equal(All(l), want) || !slices.Equal(Rounds(l), rounds) {
					t.Errorf("told otherwise side by side")
				}
			}
		})
	}
	group.Wait()
}
