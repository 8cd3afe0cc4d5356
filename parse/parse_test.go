package parse

import (
	"math"
	"slices"
	"strconv"
	"strings"
	"testing"
	"unsafe"

	"abacist/addr"
	"abacist/api"
	"abacist/arith"
	"abacist/token"
	"abacist/tree"
)

func leaf(v api.Value) api.Node { return api.Node{Kind: api.NValue, Value: v} }

func number(n int) api.Node { return leaf(api.Value{Kind: api.Int, N: n}) }

func text(s string) api.Node { return leaf(api.Value{Kind: api.Text, S: s}) }

func truth(n int) api.Node { return leaf(api.Value{Kind: api.Bool, N: n}) }

func cell(sheet string, col, row int) api.Cell { return api.Cell{Sheet: sheet, Col: col, Row: row} }

func at(sheet string, col, row int) api.Node {
	return api.Node{Kind: api.NCell, Cell: cell(sheet, col, row)}
}

func span(sheet string, col, row, toCol, toRow int) api.Node {
	return api.Node{Kind: api.NRange, Cell: cell(sheet, col, row), To: cell(sheet, toCol, toRow)}
}

func minus(n api.Node) api.Node {
	return api.Node{Kind: api.NUnary, Op: "-", Kids: []api.Node{n}}
}

func pair(op string, a, b api.Node) api.Node {
	return api.Node{Kind: api.NPair, Op: op, Kids: []api.Node{a, b}}
}

func call(name string, l ...api.Node) api.Node {
	return api.Node{Kind: api.NCall, Name: name, Kids: l}
}

func bad() api.Node { return api.Node{Kind: api.NBad} }

// ranks are the ops of pairs, from low to high.
func ranks() [][]string {
	return [][]string{{"=", "<>", "<", ">", "<=", ">="}, {"&"}, {"+", "-"}, {"*", "/"}}
}

func ops() []string { return slices.Concat(ranks()...) }

func rankIn(op string) int {
	return slices.IndexFunc(ranks(), func(l []string) bool { return slices.Contains(l, op) })
}

// above is the rank of what is no pair.
func above() int { return len(ranks()) }

// chance makes numbers, the same ones each time.
type chance uint32

func (c *chance) below(n int) int {
	*c = *c*1664525 + 1013904223
	return int(*c>>9) % n
}

func pick[T any](c *chance, l ...T) T { return l[c.below(len(l))] }

// single makes some formula without Kids.
func (c *chance) single() api.Node {
	switch c.below(6) {
	case 0:
		return number(pick(c, 0, 1, 9, 10, 1234567890, math.MaxInt))
	case 1:
		return text(pick(c, "", " ", "a", `"`, `""`, `a"b`, "TRUE", "+", "(", ")", ",", ":", "!", "A1", "\x00\xff"))
	case 2:
		return truth(c.below(2))
	case 3:
		return at(pick(c, "s", "t", "true", "abcdefgh", "a0"), pick(c, 1, 26, 27, 28, api.MaxCol), pick(c, 1, 9, 10, api.MaxRow))
	case 4:
		col, row := 1+c.below(api.MaxCol-19), 1+c.below(api.MaxRow-19)
		return span(pick(c, "s", "t"), col, row, col+c.below(20), row+c.below(20))
	}
	return bad()
}

// formula makes some formula.
func (c *chance) formula(depth int) api.Node {
	if depth < 2 {
		return c.single()
	}
	switch c.below(8) {
	case 0:
		return c.single()
	case 1, 2:
		return minus(c.formula(depth - 1))
	case 3:
		n := call(pick(c, "A", "REF", "SUM", "IF", "TRU", "FALSEX", "ABCDEFGH"))
		for range c.below(4) {
			n.Kids = append(n.Kids, c.formula(depth-1))
		}
		return n
	}
	return pair(pick(c, ops()...), c.formula(depth-1), c.formula(depth-1))
}

// rankOfNode tells how much n holds together as it is written.
func rankOfNode(n api.Node) int {
	if n.Kind == api.NPair {
		return rankIn(n.Op)
	}
	return above()
}

// written writes n token by token, with no more parentheses than there must be; cells of s have no sheet's name ahead.
func written(n api.Node, rank int) []string {
	var out []string
	switch n.Kind {
	case api.NValue:
		out = append(out, writtenValue(n.Value))
	case api.NCell:
		out = writtenCell(n.Cell)
	case api.NRange:
		to := writtenCell(n.To)
		out = append(writtenCell(n.Cell), ":", to[len(to)-1])
	case api.NUnary:
		out = append([]string{"-"}, written(n.Kids[0], above())...)
	case api.NPair:
		own := rankIn(n.Op)
		out = slices.Concat(written(n.Kids[0], own), []string{n.Op}, written(n.Kids[1], own+1))
	case api.NCall:
		out = append(out, n.Name, "(")
		for i, kid := range n.Kids {
			if i > 0 {
				out = append(out, ",")
			}
			out = append(out, written(kid, 0)...)
		}
		out = append(out, ")")
	case api.NBad:
		out = append(out, "REF", "!")
	}
	if rankOfNode(n) < rank {
		return slices.Concat([]string{"("}, out, []string{")"})
	}
	return out
}

func writtenValue(v api.Value) string {
	switch v.Kind {
	case api.Int:
		return strconv.Itoa(v.N)
	case api.Text:
		return `"` + strings.ReplaceAll(v.S, `"`, `""`) + `"`
	}
	return []string{"FALSE", "TRUE"}[v.N]
}

func writtenCell(c api.Cell) []string {
	sheet, place, _ := strings.Cut(addr.Show(c), "!")
	if sheet == "s" {
		return []string{place}
	}
	return []string{sheet, "!", place}
}

func equal(a, b api.Node) bool {
	return a.Kind == b.Kind && a.Op == b.Op && a.Name == b.Name && a.Value == b.Value && a.Cell == b.Cell && a.To == b.To &&
		slices.EqualFunc(a.Kids, b.Kids, equal)
}

func depthOf(n api.Node) int {
	depth := 0
	for _, kid := range n.Kids {
		depth = max(depth, depthOf(kid))
	}
	return depth + 1
}

func checkIn(t *testing.T, s, sheet string, want api.Node) {
	t.Helper()
	if n, at, e := Parse(s, sheet); !equal(n, want) || at != -1 || e != api.OK {
		t.Errorf("Parse(%q, %q) = %v, %d, %d, not %v", s, sheet, n, at, e, want)
	}
}

func checkParse(t *testing.T, s string, want api.Node) {
	t.Helper()
	checkIn(t, s, "s", want)
}

func checkError(t *testing.T, s, sheet string, place int, want api.Errno) {
	t.Helper()
	if n, at, e := Parse(s, sheet); !equal(n, api.Node{}) || at != place || e != want {
		t.Errorf("Parse(%q, %q) = %v, %d, %d, not %d, %d", s, sheet, n, at, e, place, want)
	}
}

func checkNone(t *testing.T, s string, place int) {
	t.Helper()
	checkError(t, s, "s", place, api.ErrSyntax)
}

func TestP601Example(t *testing.T) {
	checkParse(t, "1+2", pair("+", number(1), number(2)))
}

func TestP601OpsAreArithPairs(t *testing.T) {
	one := api.Value{Kind: api.Int, N: 1}
	for _, op := range ops() {
		if got := arith.Pair(op, one, one); got.Kind == api.Error {
			t.Errorf("%s is no op: %v", op, got)
		}
		checkParse(t, "1"+op+"2", pair(op, number(1), number(2)))
		checkNone(t, "1"+op, 1+len(op))
		checkNone(t, "1"+op+")", 1+len(op))
		if op != "-" {
			checkNone(t, op+"1", 0)
			checkNone(t, "1+"+op+"1", 2)
		}
	}
}

func TestP601Ranks(t *testing.T) {
	a, b, c := number(1), number(2), number(3)
	for _, x := range ops() {
		for _, y := range ops() {
			s := "1" + x + "2" + y + "3"
			want := pair(x, a, pair(y, b, c))
			if rankIn(x) >= rankIn(y) {
				want = pair(y, pair(x, a, b), c)
			}
			checkParse(t, s, want)
			checkParse(t, "(1"+x+"2)"+y+"3", pair(y, pair(x, a, b), c))
			checkParse(t, "1"+x+"(2"+y+"3)", pair(x, a, pair(y, b, c)))
		}
	}
}

func TestP601RanksOfThree(t *testing.T) {
	for _, s := range []string{
		"1=2&3+4*5", "1*2+3&4=5", "1+2*3-4/5", "1&2+3&4", "1<2+3<4", "1-2-3-4", "1/2/3/4", "1=2=3=4", "1*2=3*4", "1-2&3-4", "1*2/3*4",
	} {
		n, _, _ := Parse(s, "s")
		if got := strings.Join(written(n, 0), ""); got != s {
			t.Errorf("Parse(%q) is read as %q", s, got)
		}
	}
	five := func(i int) api.Node { return number(i) }
	checkParse(t, "1=2&3+4*5", pair("=", five(1), pair("&", five(2), pair("+", five(3), pair("*", five(4), five(5))))))
	checkParse(t, "1*2+3&4=5", pair("=", pair("&", pair("+", pair("*", five(1), five(2)), five(3)), five(4)), five(5)))
	checkParse(t, "1+2*3-4/5", pair("-", pair("+", five(1), pair("*", five(2), five(3))), pair("/", five(4), five(5))))
	checkParse(t, "1-2-3-4", pair("-", pair("-", pair("-", five(1), five(2)), five(3)), five(4)))
}

func TestP601Minus(t *testing.T) {
	one, two := number(1), number(2)
	checkParse(t, "-1", minus(one))
	checkParse(t, "---1", minus(minus(minus(one))))
	checkParse(t, "- - 1", minus(minus(one)))
	checkParse(t, "-(-1)", minus(minus(one)))
	checkParse(t, "-9223372036854775807", minus(number(math.MaxInt)))
	checkParse(t, `-"a"`, minus(text("a")))
	checkParse(t, "-TRUE", minus(truth(1)))
	checkParse(t, "-t!A1:B2", minus(span("t", 1, 1, 2, 2)))
	checkParse(t, "-REF!", minus(bad()))
	checkParse(t, "-X(-1)", minus(call("X", minus(one))))
	for _, op := range ops() {
		checkParse(t, "-1"+op+"2", pair(op, minus(one), two))
		checkParse(t, "1"+op+"-2", pair(op, one, minus(two)))
		checkParse(t, "--1"+op+"--2", pair(op, minus(minus(one)), minus(minus(two))))
		checkParse(t, "-(1"+op+"2)", minus(pair(op, one, two)))
	}
	checkNone(t, "-", 1)
	checkNone(t, "--", 2)
	checkNone(t, "-+1", 1)
	checkNone(t, "1-", 2)
	checkNone(t, "9223372036854775808", 0)
	checkNone(t, "-9223372036854775808", 1)
}

func TestP601Numbers(t *testing.T) {
	for _, n := range []int{0, 1, 9, 10, 1 << 31, 1 << 32, 1 << 53, math.MaxInt - 1, math.MaxInt} {
		s := strconv.Itoa(n)
		checkParse(t, s, number(n))
		checkParse(t, "0"+s, number(n))
		checkParse(t, strings.Repeat("0", api.MaxText-len(s))+s, number(n))
	}
	checkParse(t, strings.Repeat("0", api.MaxText), number(0))
	for _, s := range []string{"9223372036854775808", "9223372036854775810", "18446744073709551615", "18446744073709551616", "18446744073709551617", "99999999999999999999", strings.Repeat("9", api.MaxText-2)} {
		checkNone(t, s, 0)
		checkNone(t, "1+"+s, 2)
		if len(s) < 100 {
			checkNone(t, " 0"+s, 1)
		}
	}
	checkNone(t, "1.5", 1)
	checkNone(t, "1_0", 1)
	checkNone(t, "0x10", 1)
	checkNone(t, "1E5", 1)
	checkNone(t, "1 0", 2)
}

func TestP601Texts(t *testing.T) {
	for _, says := range []string{"", " ", "a", "TRUE", "A1", "1", "+", "-", "(", ")", ",", ":", "!", "<=", "REF!", `"`, `""`, `a"b`, "\x00", "\xff", "\u00e4", strings.Repeat("a", api.MaxText-2)} {
		s := `"` + strings.ReplaceAll(says, `"`, `""`) + `"`
		checkParse(t, s, text(says))
	}
	checkParse(t, strings.Repeat(`"`, api.MaxText), text(strings.Repeat(`"`, api.MaxText/2-1)))
}

// A text that reads as a sign, a word or a name does is none.
func TestP601TextsAreNoSigns(t *testing.T) {
	for _, says := range []string{"+", "-", "*", "=", "&", "(", ")", ",", ":", "!"} {
		quoted := `"` + says + `"`
		checkNone(t, "1"+quoted+"2", 1)
		checkNone(t, "X"+quoted+"1)", 0)
		checkNone(t, "X(1"+quoted+"2)", 3)
		checkNone(t, "(1"+quoted, 2)
		checkNone(t, "REF"+quoted, 0)
		checkNone(t, "t"+quoted+"A1", 0)
		checkNone(t, "A1"+quoted+"A2", 2)
		checkNone(t, quoted+"1", 3)
	}
	checkNone(t, `t!"A1"`, 0)
	checkNone(t, `A1:"A2"`, 0)
	checkNone(t, `"t"!A1`, 3)
	checkNone(t, `"X"(1)`, 3)
	checkParse(t, `"TRUE"`, text("TRUE"))
}

func TestP601Bools(t *testing.T) {
	checkParse(t, "TRUE", truth(1))
	checkParse(t, "FALSE", truth(0))
	checkParse(t, "TRUE=FALSE", pair("=", truth(1), truth(0)))
	checkParse(t, "X(TRUE,FALSE)", call("X", truth(1), truth(0)))
	for _, s := range []string{"TRUE", "FALSE"} {
		checkNone(t, s+"()", len(s))
		checkNone(t, s+"(1)", len(s))
		checkNone(t, s+"!", len(s))
		checkNone(t, s+"!A1", len(s))
		checkNone(t, s+":A1", len(s))
		checkNone(t, s+" 1", len(s)+1)
		checkNone(t, "t!"+s, 0)
		checkNone(t, "A1:"+s, 0)
	}
	checkNone(t, "true", 0)
	checkNone(t, "TRUEE", 0)
	checkNone(t, "TRU", 0)
	checkParse(t, "TRUEE()", call("TRUEE"))
	checkParse(t, "true!A1", at("true", 1, 1))
}

func TestP601Calls(t *testing.T) {
	one := number(1)
	for _, name := range []string{"A", "Z", "IF", "SUM", "REF", "ABCDEFG", "ABCDEFGH", "ZZZZZZZZ", "TRU", "TRUEFALS"} {
		checkParse(t, name+"()", call(name))
		checkParse(t, name+"(1)", call(name, one))
		checkParse(t, " "+name+" ( 1 , t!A1:B2 ) ", call(name, one, span("t", 1, 1, 2, 2)))
		checkParse(t, name+"("+name+"())", call(name, call(name)))
		checkParse(t, "-"+name+"()+"+name+"()", pair("+", minus(call(name)), call(name)))
		checkNone(t, name, 0)
		checkNone(t, "1+"+name, 2)
		checkNone(t, name+")", 0)
		checkNone(t, name+" 1", 0)
		checkNone(t, name+"(", len(name)+1)
		checkNone(t, name+"(1", len(name)+2)
		checkNone(t, name+"(1,", len(name)+3)
		checkNone(t, name+"(1,)", len(name)+3)
		checkNone(t, name+"(,", len(name)+1)
		checkNone(t, name+"(,1)", len(name)+1)
		checkNone(t, name+"(1,,1)", len(name)+3)
		checkNone(t, name+"(1 1)", len(name)+3)
		checkNone(t, name+"())", len(name)+2)
		checkNone(t, name+"()1", len(name)+2)
		checkNone(t, name+"()(", len(name)+2)
		checkNone(t, name+"():A1", len(name)+2)
		checkNone(t, name+"()!", len(name)+2)
		checkNone(t, "t!"+name+"()", 0)
		checkNone(t, "A1:"+name+"()", 0)
	}
	checkParse(t, "X(1=2,-1,(1))", call("X", pair("=", one, number(2)), minus(one), one))
}

func TestP601NoCalls(t *testing.T) {
	checkNone(t, "ABCDEFGHI()", 0)
	checkNone(t, "1+ABCDEFGHI(1)", 2)
	checkNone(t, strings.Repeat("A", 100)+"()", 0)
	checkNone(t, "LOG10(1)", 0)
	checkNone(t, "A1()", 2)
	checkNone(t, "ZZ999(1)", 5)
	checkNone(t, "A0()", 0)
	checkNone(t, "sum(1)", 0)
	checkNone(t, "1(1)", 1)
	checkNone(t, "(1)(1)", 3)
	checkNone(t, "Sum(1)", 0)
}

func TestP601CallsOfMany(t *testing.T) {
	for n := 1; n <= 25; n++ {
		s := "AB(" + strings.Repeat("1,", n-1) + "1)"
		const behind = 3 + 2*20 - 1
		if n <= 20 {
			checkParse(t, s, call("AB", slices.Repeat([]api.Node{number(1)}, n)...))
		} else {
			checkNone(t, s, behind)
		}
		if n >= 20 {
			comma := s[:behind] + ","
			for _, rest := range []string{"", ")", ",", "1", "1)", " 1+", "A1:"} {
				checkNone(t, comma+rest, behind)
			}
			checkNone(t, s[:behind], behind)
			checkNone(t, s[:behind]+" 1", behind+1)
		}
	}
	twenty := "AB(" + strings.Repeat("1,", 19) + "1)"
	all := call("AB", slices.Repeat([]api.Node{number(1)}, 20)...)
	checkParse(t, "X("+twenty+","+twenty+")", call("X", all, all))
	checkNone(t, "X("+twenty[:len(twenty)-1]+",1))", 2+len(twenty)-1)
	checkParse(t, strings.Replace(twenty, "1)", "X(1,2))", 1), call("AB", append(slices.Clone(all.Kids[:19]), call("X", number(1), number(2)))...))
}

func TestP601Cells(t *testing.T) {
	for _, c := range []api.Cell{cell("s", 1, 1), cell("s", 26, 9), cell("s", 27, 10), cell("s", 28, 3), cell("s", api.MaxCol, api.MaxRow), cell("s", 1, api.MaxRow), cell("s", api.MaxCol, 1)} {
		_, place, _ := strings.Cut(addr.Show(c), "!")
		for _, sheet := range []string{"s", "t", "a0", "z9", "abcdefgh", "a1234567"} {
			want := at(sheet, c.Col, c.Row)
			checkIn(t, place, sheet, want)
			checkParse(t, sheet+"!"+place, want)
			checkParse(t, " "+sheet+"  ! "+place+" ", want)
			checkIn(t, "s!"+place+"+"+place, sheet, pair("+", at("s", c.Col, c.Row), want))
		}
	}
}

// noPlaces are words, or nothing, that are no column and row.
func noPlaces() []string {
	return []string{"", "A", "AB", "ZZ", "A0", "A00", "A01", "A1000", "A0999", "AAA1", "ZZZ999", "ZZ1000", "A1B", "A1B2", "A99999999999999999999", "ABCDEFGHIJKLMNOPQRSTUVWXYZ1", "REF", "REF1", "TRUE1"}
}

func TestP601NoCells(t *testing.T) {
	for _, place := range noPlaces() {
		checkNone(t, "1+t!"+place, 2)
		checkNone(t, "1+t!"+place+"+1", 2)
		checkNone(t, "1+t!"+place+":A1", 2)
		checkNone(t, " t ! "+place, 1)
		if place != "" {
			checkNone(t, place, 0)
			checkNone(t, "1+"+place, 2)
			checkNone(t, "1+"+place+" )", 2)
			checkNone(t, "1+"+place+":A1", 2)
		}
	}
	for _, s := range []string{"t", "t1", "abcdefgh", "t A1", "t+A1", "t:A1", "t!", "t!!A1", "t!1", "t!a1", "t!t!A1", "t!(A1)", "t!-A1", "t!TRUE", "t!REF!", `t!"A1"`, "abcdefghi!A1", "a12345678!A1", strings.Repeat("a", 100) + "!A1", "a1", "a1+1"} {
		checkNone(t, s, 0)
		checkNone(t, "X(1,"+s, 4)
	}
	for _, s := range []string{"T!A1", "1!A1", "!A1", "A1!A1", "A!A1"} {
		place := map[string]int{"1!A1": 1, "A1!A1": 2}[s]
		checkNone(t, s, place)
	}
	checkNone(t, "1t!A1", 1)
	checkNone(t, "tA1!A1", 0)
	checkNone(t, "$A$1", 0)
}

func TestP601Ranges(t *testing.T) {
	for _, r := range [][4]int{{1, 1, 1, 1}, {1, 1, 2, 2}, {27, 3, 28, 9}, {1, 1, 20, 20}, {1, 1, 400, 1}, {1, 1, 1, 400}, {303, 999, 702, 999}, {702, 600, 702, 999}, {702, 999, 702, 999}, {1, 1, 19, 21}} {
		from, _ := strings.CutPrefix(addr.Show(cell("s", r[0], r[1])), "s!")
		to, _ := strings.CutPrefix(addr.Show(cell("s", r[2], r[3])), "s!")
		for _, sheet := range []string{"s", "t", "abcdefgh"} {
			want := span(sheet, r[0], r[1], r[2], r[3])
			checkIn(t, from+":"+to, sheet, want)
			checkParse(t, sheet+"!"+from+":"+to, want)
			checkParse(t, " "+sheet+" ! "+from+" : "+to+" ", want)
			checkIn(t, "X(s!"+from+":"+to+","+from+")", sheet, call("X", span("s", r[0], r[1], r[2], r[3]), at(sheet, r[0], r[1])))
		}
	}
}

func TestP601NoRanges(t *testing.T) {
	ends := append(noPlaces(), "t!B2", "s!B2", "1", `"B2"`, "(B2)", "-B2", ":B2", "REF!", "TRUE", "b2", ")", ",", "+1")
	for _, end := range ends {
		checkNone(t, "A1:"+end, 0)
		checkNone(t, "1+A1:"+end, 2)
		checkNone(t, "1+t!A1:"+end, 2)
		checkNone(t, "X(1, t ! A1 : "+end, 5)
	}
	for _, s := range []string{"A2:A1", "B1:A1", "B2:A1", "B1:A2", "A2:B1", "A1:T21", "A1:U20", "A1:OK1", "A1:A401", "A1:ZZ999", "ZZ999:A1", "A1:Z999"} {
		checkNone(t, s, 0)
		checkNone(t, "1+"+s, 2)
		checkNone(t, "1+t!"+s+"+", 2)
	}
	checkNone(t, "A1:B2:C3", 5)
	checkNone(t, "t!A1:B2:", 7)
	checkNone(t, "A1:B2!", 5)
	checkNone(t, "A1:B2 C3", 6)
	checkNone(t, "A1:B2(", 5)
	checkNone(t, ":A1", 0)
	checkNone(t, "(A1):A2", 4)
}

func TestP601Gone(t *testing.T) {
	checkParse(t, "REF!", bad())
	checkParse(t, " REF ! ", bad())
	checkParse(t, "REF!+REF!", pair("+", bad(), bad()))
	checkParse(t, "X(REF!,REF())", call("X", bad(), call("REF")))
	for _, s := range []string{"REF", "REF+1", "REF)", "REF:A1", "REF1!", "REFS!", "RE!", "REF A1", "ref!", "REF0!"} {
		checkNone(t, s, 0)
		checkNone(t, "1+"+s, 2)
	}
	checkNone(t, "REF!A1", 4)
	checkNone(t, "REF!!", 4)
	checkNone(t, "REF!:A1", 4)
	checkNone(t, "REF!REF!", 4)
	checkNone(t, "REF!(", 4)
	checkNone(t, "#REF", 0)
}

func TestP601Parentheses(t *testing.T) {
	one := number(1)
	checkParse(t, "(1)", one)
	checkParse(t, "((1))", one)
	checkParse(t, "(A1:B2)", span("s", 1, 1, 2, 2))
	checkParse(t, "X((1),(2))", call("X", one, number(2)))
	most := api.MaxText/2 - 1
	checkParse(t, strings.Repeat("(", most)+"1"+strings.Repeat(")", most), one)
	checkNone(t, strings.Repeat("(", api.MaxText), api.MaxText)
	checkNone(t, strings.Repeat(")", api.MaxText), 0)
	checkNone(t, "(", 1)
	checkNone(t, "()", 1)
	checkNone(t, "(1", 2)
	checkNone(t, "(1 ", 3)
	checkNone(t, "((1)", 4)
	checkNone(t, "(1))", 3)
	checkNone(t, "(1,2)", 2)
	checkNone(t, "(1 2)", 3)
	checkNone(t, "(1)2", 3)
	checkNone(t, "(,)", 1)
	checkNone(t, "X((1,2))", 4)
}

func TestP601Nothing(t *testing.T) {
	for n := range api.MaxText + 1 {
		checkNone(t, strings.Repeat(" ", n), n)
	}
	checkNone(t, "1+   ", 5)
	checkNone(t, "X(   ", 5)
}

func TestP601ErrorsInOrder(t *testing.T) {
	long := strings.Repeat("1", api.MaxText+1)
	for _, sheet := range []string{"s", "", "S", "abcdefghi", "1", "a b", "s!", "\xff"} {
		checkError(t, long, sheet, 0, api.ErrLong)
		checkError(t, "#"+long, sheet, 0, api.ErrLong)
		checkError(t, "1+#", sheet, 2, api.ErrSyntax)
		checkError(t, `1 "a`, sheet, 2, api.ErrSyntax)
		checkError(t, "+)#", sheet, 2, api.ErrSyntax)
		if sheet == "s" {
			continue
		}
		deep := strings.Repeat("-", 30)
		for _, s := range []string{"", "1", "1+", "A1", "t!A1", deep, deep + "1", strings.Repeat("1", api.MaxText)} {
			checkError(t, s, sheet, 0, api.ErrArg)
		}
	}
	checkNone(t, strings.Repeat("-", 30)+"+", 30)
	checkNone(t, strings.Repeat("-", 30), 30)
	checkNone(t, strings.Repeat("-", 30)+"1)", 31)
	checkNone(t, strings.Repeat("A(", 30)+strings.Repeat(")", 29), 89)
}

// Sheets are those of addr.Name, whatever the formula is.
func TestP601Sheets(t *testing.T) {
	for b := range 256 {
		for _, sheet := range []string{string([]byte{byte(b)}), "a" + string([]byte{byte(b)}), "a" + string([]byte{byte(b)}) + "a"} {
			if addr.Name(sheet) {
				checkIn(t, "A1", sheet, at(sheet, 1, 1))
				checkIn(t, "1", sheet, number(1))
			} else {
				checkError(t, "A1", sheet, 0, api.ErrArg)
				checkError(t, "1", sheet, 0, api.ErrArg)
			}
		}
	}
}

func TestP601UpToMaxDepth(t *testing.T) {
	for n := 1; n <= 60; n++ {
		for _, s := range []string{
			strings.Repeat("-", n-1) + "1",
			strings.Repeat("1+", n-1) + "1",
			strings.Repeat("1+(", n-1) + "1" + strings.Repeat(")", n-1),
			strings.Repeat("A(", n) + strings.Repeat(")", n),
			strings.Repeat("(", 20) + strings.Repeat("-", n-1) + "1" + strings.Repeat(")", 20),
		} {
			if len(s) > api.MaxText {
				continue
			}
			got, place, e := Parse(s, "s")
			switch {
			case n <= api.MaxDepth && (depthOf(got) != n || place != -1 || e != api.OK):
				t.Errorf("Parse(%q) = %v, %d, %d", s, got, place, e)
			case n > api.MaxDepth:
				checkError(t, s, "s", 0, api.ErrDeep)
			}
		}
	}
	checkError(t, " X(1, "+strings.Repeat("-", 19)+"1 )", "s", 0, api.ErrDeep)
	checkError(t, strings.Repeat("1*", 99)+"1", "s", 0, api.ErrDeep)
	checkError(t, strings.Repeat("-", api.MaxText-1)+"1", "s", 0, api.ErrDeep)
}

// spaced puts the tokens one behind the other, with blanks where there must be some, and elsewhere by chance.
func (c *chance) spaced(l []string) string {
	out := strings.Repeat(" ", c.below(2))
	for i, s := range l {
		if i > 0 && glues(l[i-1], s) {
			out += " "
		}
		out += s
		if c.below(8) == 0 {
			out += strings.Repeat(" ", c.below(3))
		}
	}
	return out
}

// glues tells whether a and b, one behind the other, are other tokens than those two.
func glues(a, b string) bool {
	l, _, e := token.Split(a + b)
	return e != api.OK || len(l) != 2 || l[1].At != len(a)
}

func TestP601Written(t *testing.T) {
	c := chance(601)
	read := 0
	for range 20000 {
		n := c.formula(1 + c.below(6))
		s := c.spaced(written(n, 0))
		if len(s) <= api.MaxText {
			checkParse(t, s, n)
			read++
		}
	}
	if read < 10000 {
		t.Errorf("only %d were read", read)
	}
}

// What follows reads formulas in another way: first it finds what stands together, and then it keeps lists of what is open.

// unit is what stands together: a formula without Kids (Kind is not 0), or a sign, or a call's beginning (name), or what is none.
type unit struct {
	at         int
	node       api.Node
	sign, name string
	none       bool
}

func units(l []api.Token, sheet string) []unit {
	var out []unit
	for len(l) > 0 {
		u, used := nextUnit(l, sheet)
		u.at = l[0].At
		out = append(out, u)
		if u.none {
			break
		}
		l = l[used:]
	}
	return out
}

func signAt(l []api.Token, i int, sign string) bool {
	return i < len(l) && l[i].Kind == api.TSign && l[i].Text == sign
}

func nextUnit(l []api.Token, sheet string) (unit, int) {
	s := l[0].Text
	switch l[0].Kind {
	case api.TSign:
		return unit{sign: s}, 1
	case api.TText:
		return unit{node: text(s)}, 1
	case api.TNum:
		n, err := strconv.ParseUint(s, 10, 63)
		return unit{node: number(int(n)), none: err != nil}, 1
	}
	letters := l[0].Kind == api.TWord && !strings.ContainsAny(s, "0123456789")
	switch {
	case s == "TRUE":
		return unit{node: truth(1)}, 1
	case s == "FALSE":
		return unit{node: truth(0)}, 1
	case letters && len(s) <= 8 && signAt(l, 1, "("):
		return unit{name: s}, 2
	case s == "REF" && signAt(l, 1, "!"):
		return unit{node: bad()}, 2
	}
	used := 0
	if l[0].Kind == api.TName {
		if !signAt(l, 1, "!") {
			return unit{none: true}, 1
		}
		sheet, used = s, 2
	}
	from, ok := cellAt(l, used, sheet)
	if !ok || !signAt(l, used+1, ":") {
		return unit{node: api.Node{Kind: api.NCell, Cell: from}, none: !ok}, used + 1
	}
	to, ok := cellAt(l, used+2, sheet)
	cols, rows := to.Col-from.Col+1, to.Row-from.Row+1
	none := !ok || cols < 1 || rows < 1 || cols*rows > api.MaxArea
	return unit{node: api.Node{Kind: api.NRange, Cell: from, To: to}, none: none}, used + 3
}

func cellAt(l []api.Token, i int, sheet string) (api.Cell, bool) {
	if i >= len(l) || l[i].Kind != api.TWord {
		return api.Cell{}, false
	}
	return addr.Read(sheet + "!" + l[i].Text)
}

// level is what is open between two parentheses.
type level struct {
	name  string
	kids  []api.Node
	nodes []api.Node
	ops   []string
}

// ahead stands for a `-` ahead.
const ahead = "-1"

func (v *level) close(rank int) {
	for len(v.ops) > 0 {
		op, last := v.ops[len(v.ops)-1], len(v.nodes)-1
		switch {
		case op == ahead:
			v.nodes[last] = minus(v.nodes[last])
		case rankIn(op) < rank:
			return
		default:
			v.nodes = append(v.nodes[:last-1], pair(op, v.nodes[last-1], v.nodes[last]))
		}
		v.ops = v.ops[:len(v.ops)-1]
	}
}

// otherwise reads l, which ends at end.
func otherwise(l []api.Token, sheet string, end int) (api.Node, int) {
	open := []*level{{}}
	whole := false
	for _, u := range units(l, sheet) {
		top := open[len(open)-1]
		isOp := rankIn(u.sign) >= 0
		begun := top.name != "" && len(top.kids) == 0 && len(top.nodes) == 0 && len(top.ops) == 0
		switch {
		case u.none:
			return api.Node{}, u.at
		case !whole && u.node.Kind != 0:
			top.nodes = append(top.nodes, u.node)
			whole = true
		case !whole && u.name != "":
			open = append(open, &level{name: u.name})
		case !whole && u.sign == "(":
			open = append(open, &level{})
		case !whole && u.sign == "-":
			top.ops = append(top.ops, ahead)
		case whole && isOp:
			top.close(rankIn(u.sign))
			top.ops = append(top.ops, u.sign)
			whole = false
		case whole && u.sign == "," && top.name != "" && len(top.kids) < 19:
			top.close(0)
			top.kids = append(top.kids, top.nodes[0])
			top.nodes = nil
			whole = false
		case (whole || begun) && u.sign == ")" && len(open) > 1:
			top.close(0)
			open = open[:len(open)-1]
			n := call(top.name, append(top.kids, top.nodes...)...)
			if top.name == "" {
				n = top.nodes[0]
			}
			below := open[len(open)-1]
			below.nodes = append(below.nodes, n)
			whole = true
		default:
			return api.Node{}, u.at
		}
	}
	if !whole || len(open) > 1 {
		return api.Node{}, end
	}
	open[0].close(0)
	return open[0].nodes[0], -1
}

// checkAsOtherwise holds Parse of s to how otherwise reads it, and tells whether it was a formula.
func checkAsOtherwise(t *testing.T, s string) bool {
	t.Helper()
	l, _, e := token.Split(s)
	if e != api.OK {
		t.Fatalf("Split(%q): %d", s, e)
	}
	n, place := otherwise(l, "s", len(s))
	switch {
	case place >= 0:
		checkNone(t, s, place)
	case depthOf(n) > api.MaxDepth:
		checkError(t, s, "s", 0, api.ErrDeep)
	default:
		checkParse(t, s, n)
		return true
	}
	return false
}

func someTokens() []string {
	return []string{
		"1", "0", "9223372036854775807", "9223372036854775808", `"a"`, `""`, `"+"`, `"("`, "TRUE", "FALSE", "REF", "SUM", "A", "ABCDEFGHI",
		"A1", "B2", "C1", "ZZ999", "A0", "AAA1", "t", "s", "abcdefghi",
		"+", "-", "-", "*", "/", "&", "=", "<", ">", "<>", "<=", ">=", "(", "(", "(", ")", ")", ")", ",", ",", ":", ":", "!", "!",
	}
}

func TestP601AnyTokens(t *testing.T) {
	c := chance(6011)
	fine := 0
	for range 60000 {
		var l []string
		for range c.below(9) {
			l = append(l, pick(&c, someTokens()...))
		}
		if checkAsOtherwise(t, c.spaced(l)) {
			fine++
		}
	}
	if fine < 1000 {
		t.Errorf("only %d are formulas", fine)
	}
}

// Formulas in which a token is left out, or another one, or two are put where they should not stand.
func TestP601SpoiledTokens(t *testing.T) {
	c := chance(6012)
	spoiled := 0
	for range 20000 {
		l := written(c.formula(1+c.below(5)), 0)
		for range 1 + c.below(2) {
			i := c.below(len(l))
			switch c.below(4) {
			case 0:
				l = slices.Delete(l, i, i+1)
			case 1:
				l = slices.Insert(l, i, pick(&c, someTokens()...))
			case 2:
				l[i] = pick(&c, someTokens()...)
			case 3:
				l = l[:i]
			}
			l = append(l, pick(&c, ")", "", "", "")) // So that none is left out of nothing.
		}
		l = slices.DeleteFunc(l, func(s string) bool { return s == "" })
		if s := c.spaced(l); len(s) <= api.MaxText && !checkAsOtherwise(t, s) {
			spoiled++
		}
	}
	if spoiled < 5000 {
		t.Errorf("only %d are spoiled", spoiled)
	}
}

// All strings of few tokens.
func TestP601AllShort(t *testing.T) {
	some := []string{"1", `"-"`, "TRUE", "REF", "X", "A1", "B2", "t", "+", "-", "(", ")", ",", ":", "!"}
	var all func(s string, most int)
	all = func(s string, most int) {
		checkAsOtherwise(t, s)
		if most == 0 {
			return
		}
		for _, next := range some {
			all(s+" "+next, most-1)
		}
	}
	all("", 4)
}

func TestP602Right(t *testing.T) {
	c := chance(602)
	fine := 0
	for range 30000 {
		var l []string
		for range 1 + c.below(12) {
			l = append(l, pick(&c, someTokens()...))
		}
		s := c.spaced(l)
		n, place, e := Parse(s, pick(&c, "s", "t", "abcdefgh", "S", ""))
		if e == api.OK {
			fine++
		}
		if e == api.OK && (!tree.Right(n) || place != -1) || e != api.OK && (!equal(n, api.Node{}) || place < 0 || place > len(s)) {
			t.Fatalf("Parse(%q) = %v, %d, %d", s, n, place, e)
		}
	}
	if fine < 100 {
		t.Errorf("only %d are formulas", fine)
	}
}

// Whatever the bytes are, there is an answer.
func TestP602AnyBytes(t *testing.T) {
	c := chance(6021)
	for range 20000 {
		b := make([]byte, c.below(12))
		for i := range b {
			b[i] = byte(c.below(256))
		}
		s := string(b)
		_, want, split := token.Split(s)
		n, place, e := Parse(s, "s")
		if split != api.OK && (place != want || e != split) {
			t.Fatalf("Parse(%q) = %d, %d", s, place, e)
		}
		if e == api.OK && !tree.Right(n) || e != api.OK && !equal(n, api.Node{}) {
			t.Fatalf("Parse(%q) = %v, %d, %d", s, n, place, e)
		}
	}
}

// texts are all texts of n.
func texts(n api.Node) []string {
	out := []string{n.Op, n.Name, n.Value.S, n.Cell.Sheet, n.To.Sheet}
	for _, kid := range n.Kids {
		out = append(out, texts(kid)...)
	}
	return out
}

func isPieceOf(s, whole string) bool {
	if s == "" || whole == "" {
		return false
	}
	at, first := uintptr(unsafe.Pointer(unsafe.StringData(s))), uintptr(unsafe.Pointer(unsafe.StringData(whole)))
	return at >= first && at < first+uintptr(len(whole))
}

func TestP602TextsAreNew(t *testing.T) {
	s := strings.Clone(`SUM(abc!A1:B2,"text")&A1<-"more"+def!A1`)
	sheet := strings.Clone("sheet")
	n, _, e := Parse(s, sheet)
	if e != api.OK {
		t.Fatal(e)
	}
	for _, x := range texts(n) {
		if isPieceOf(x, s) || isPieceOf(x, sheet) {
			t.Errorf("%q is of the argument's memory", x)
		}
	}
}

// spoil turns all of n, the spare room of its lists too.
func spoil(n *api.Node) {
	all := n.Kids[:cap(n.Kids)]
	for i := range all {
		spoil(&all[i])
	}
	n.Kids = append(n.Kids, bad())
	n.Kind, n.Op, n.Name = 99, "#", "#"
}

// No two lists of what is told are one, be they of one answer or of two.
func TestP602ListsAreNew(t *testing.T) {
	c := chance(6022)
	for range 500 {
		n := c.formula(5)
		s := strings.Join(written(n, 0), " ")
		if len(s) > api.MaxText {
			continue
		}
		turned, _, _ := Parse(s, "s")
		spoil(&turned)
		checkParse(t, s, n)
		for i := range n.Kids {
			again, _, _ := Parse(s, "s")
			spoil(&again.Kids[i])
			again.Kids[i] = n.Kids[i]
			if !equal(again, n) {
				t.Errorf("Parse(%q): Kid %d shares a list with others", s, i)
			}
		}
	}
}

// A call answers the same whatever was asked ahead of it.
func TestP602SameAgain(t *testing.T) {
	c := chance(6023)
	type asked struct {
		s    string
		want api.Node
	}
	var all []asked
	for range 300 {
		n := c.formula(4)
		if s := c.spaced(written(n, 0)); len(s) <= api.MaxText {
			all = append(all, asked{s, n})
		}
	}
	for i, x := range all {
		y := all[len(all)-1-i]
		checkIn(t, "A1", "t", at("t", 1, 1))
		checkError(t, x.s, "S", 0, api.ErrArg)
		checkParse(t, y.s, y.want)
		Parse(x.s+"+", "u")
		checkParse(t, y.s, y.want)
	}
}
