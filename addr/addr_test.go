package addr

import (
	"math"
	"regexp"
	"slices"
	"strconv"
	"strings"
	"testing"
	"unsafe"

	"abacist/api"
)

func cell(sheet string, col, row int) api.Cell { return api.Cell{Sheet: sheet, Col: col, Row: row} }

func span(sheet string, col, row, toCol, toRow int) api.Range {
	return api.Range{From: cell(sheet, col, row), To: cell(sheet, toCol, toRow)}
}

// columns are the names of all columns, the first one's at 1.
func columns() []string {
	const great = "ABCDEFGHIJKLMNOPQRSTUVWXYZ"
	out := append([]string{""}, strings.Split(great, "")...)
	for _, a := range great {
		for _, b := range great {
			out = append(out, string(a)+string(b))
		}
	}
	return out
}

func names() []string {
	return []string{"s", "a", "z", "a0", "z9", "sheet", "abcdefgh", "a0000000", "zzzzzzzz"}
}

// noNames are no names of sheets.
func noNames() []string {
	return []string{
		"", "abcdefghi", strings.Repeat("a", 300), "0", "9a", "00000000",
		"A", "Z", "aB", "Ab", "a b", " a", "a ", "a!", "!", "a_", "a-", "a.", "a\n", "a\x00", "\x00",
		"`", "{", "a`", "a{", "/", ":", "a/", "a:", "\u00e9", "a\u00e9", "a\xff", "\xff", "a\u0661", "\uff41",
	}
}

// rights are cells that may be, and wrongs such as may not.
func rights() []api.Cell {
	var out []api.Cell
	for _, name := range names() {
		for _, col := range []int{1, 2, 26, 27, 28, 52, 53, 675, 676, 677, 701, api.MaxCol} {
			for _, row := range []int{1, 9, 10, 99, 100, 998, api.MaxRow} {
				out = append(out, cell(name, col, row))
			}
		}
	}
	return out
}

func wrongs() []api.Cell {
	out := []api.Cell{{}}
	for _, name := range noNames() {
		out = append(out, cell(name, 1, 1), cell(name, api.MaxCol, api.MaxRow))
	}
	for _, n := range []int{0, -1, -26, math.MinInt, math.MaxInt, 1 << 32, 1<<32 + 1, 1<<16 + 1} {
		out = append(out, cell("s", n, 1), cell("s", 1, n), cell("s", n, n))
	}
	return append(out, cell("s", api.MaxCol+1, 1), cell("s", 1, api.MaxRow+1))
}

// chance makes numbers, the same ones in each run.
type chance uint32

func (c *chance) below(n int) int {
	*c = *c*1664525 + 1013904223
	return int(*c>>9) % n
}

func checkNone(t *testing.T, s string) {
	t.Helper()
	if c, ok := Read(s); ok || c != (api.Cell{}) {
		t.Errorf("Read(%q) = %v, %v; want none", s, c, ok)
	}
}

func checkRead(t *testing.T, s string, want api.Cell) {
	t.Helper()
	if c, ok := Read(s); !ok || c != want {
		t.Errorf("Read(%q) = %v, %v; want %v", s, c, ok, want)
	}
}

func TestP301Name(t *testing.T) {
	for _, s := range names() {
		if !Name(s) {
			t.Errorf("Name(%q) = false", s)
		}
	}
	for _, s := range noNames() {
		if Name(s) {
			t.Errorf("Name(%q) = true", s)
		}
	}
	for n := range 20 {
		if got := Name(strings.Repeat("a", n)); got != (n >= 1 && n <= api.MaxName) {
			t.Errorf("Name of %d letters = %v", n, got)
		}
	}
}

func TestP301NameByByte(t *testing.T) {
	for b := range 256 {
		small, digit := b >= 'a' && b <= 'z', b >= '0' && b <= '9'
		one := string([]byte{byte(b)})
		if got := Name(one); got != small {
			t.Errorf("Name(%q) = %v", one, got)
		}
		for at := 1; at < api.MaxName; at++ {
			s := strings.Repeat("a", at) + one + strings.Repeat("b", api.MaxName-1-at)
			if got := Name(s); got != (small || digit) {
				t.Errorf("Name(%q) = %v", s, got)
			}
		}
	}
}

func TestP301Right(t *testing.T) {
	for _, c := range rights() {
		if !Right(c) {
			t.Errorf("Right(%v) = false", c)
		}
	}
	for _, c := range wrongs() {
		if Right(c) {
			t.Errorf("Right(%v) = true", c)
		}
	}
	for n := -1100; n <= 1100; n++ {
		if got := Right(cell("s", n, 1)); got != (n >= 1 && n <= api.MaxCol) {
			t.Errorf("Right of column %d = %v", n, got)
		}
		if got := Right(cell("s", 1, n)); got != (n >= 1 && n <= api.MaxRow) {
			t.Errorf("Right of row %d = %v", n, got)
		}
	}
}

func TestP301Example(t *testing.T) {
	if got := Show(cell("s", 28, 3)); got != "s!AB3" {
		t.Errorf("Show = %q", got)
	}
}

func TestP301ShowAndReadBack(t *testing.T) {
	for s, c := range map[string]api.Cell{
		"s!A1": cell("s", 1, 1), "s!Z26": cell("s", 26, 26), "s!AA27": cell("s", 27, 27), "s!AZ52": cell("s", 52, 52), "s!BA53": cell("s", 53, 53),
		"s!YZ1": cell("s", 676, 1), "s!ZA1": cell("s", 677, 1), "s!ZZ999": cell("s", 702, 999), "a1!B10": cell("a1", 2, 10), "abcdefgh!C100": cell("abcdefgh", 3, 100),
	} {
		if got := Show(c); got != s {
			t.Errorf("Show(%v) = %q; want %q", c, got, s)
		}
		checkRead(t, s, c)
	}
}

// Each cell of a sheet has a name of its own.
func TestP301ShowOfAll(t *testing.T) {
	all := columns()
	if len(all) != api.MaxCol+1 {
		t.Fatalf("%d columns", len(all)-1)
	}
	seen := map[string]api.Cell{}
	for col := 1; col <= api.MaxCol; col++ {
		for row := 1; row <= api.MaxRow; row++ {
			c := cell("s", col, row)
			s := Show(c)
			if want := "s!" + all[col] + strconv.Itoa(row); s != want {
				t.Fatalf("Show(%v) = %q; want %q", c, s, want)
			}
			if got, ok := Read(s); !ok || got != c {
				t.Fatalf("Read(%q) = %v, %v; want %v", s, got, ok, c)
			}
			seen[s] = c
		}
	}
	if len(seen) != api.MaxCol*api.MaxRow {
		t.Errorf("%d names", len(seen))
	}
}

func TestP301ShowOfWrong(t *testing.T) {
	for _, c := range wrongs() {
		if got := Show(c); got != "" {
			t.Errorf("Show(%v) = %q; want nothing", c, got)
		}
	}
}

func TestP301ReadOfNone(t *testing.T) {
	for _, s := range []string{
		"", "s", "A1", "s!", "!", "!!", "!A1", "s!A", "s!1", "s!1A", "s!A1A", "s!A1B2", "sA1", "s.A1", "s:A1",
		"s!A0", "s!A00", "s!A01", "s!A001", "s!A0999", "s!A1000", "s!A1001", "s!A99999", "s!A18446744073709551617", "s!A9223372036854775808", "s!A" + strings.Repeat("9", 300),
		"s!AAA1", "s!ZZZ1", "s!ABCD1", "s!a1", "s!Aa1", "s!aA1", "s!@1", "s![1", "s!\u00c41", "s!\uff211",
		"S!A1", "9!A1", "s s!A1", "abcdefghi!A1", "\u00e9!A1", "s\x00!A1", "s!A1\x00", "s!A1\n",
		" s!A1", "s !A1", "s! A1", "s!A 1", "s!A1 ", "s!!A1", "s!A!1", "s!A1!", "s!s!A1", "s!A1!A1",
		"s!A-1", "s!A+1", "s!A1.0", "s!A1e1", "s!A0x1", "s!A1_0", "s!$A$1", "s!A$1", "s!A1:B2", "s!A\u0661", "#REF!", "REF!",
	} {
		checkNone(t, s)
	}
	for _, name := range noNames() {
		checkNone(t, name+"!A1")
	}
}

// A column that is counted on till it wraps round must not be taken for one that may be.
func TestP301ReadOfLongColumns(t *testing.T) {
	for n := 3; n <= 400; n++ {
		for _, letter := range "ABYZ" {
			checkNone(t, "s!"+strings.Repeat(string(letter), n)+"1")
		}
	}
	// 2^64 + 1, written as columns are: with 64 bits it is that of A.
	const wrapped = "GKGWBYLWRXTLPQ"
	col := uint64(0)
	for _, letter := range wrapped {
		col = col*26 + uint64(letter-'A') + 1
	}
	if col != 1 {
		t.Fatalf("column %s wraps round to %d", wrapped, col)
	}
	checkNone(t, "s!"+wrapped+"1")
}

func TestP301ReadOfAny(t *testing.T) {
	const bytes = "as9z0AZB1!!+-: \x00\xff@[`{/"
	form := regexp.MustCompile(`^[a-z][a-z0-9]{0,7}![A-Z]{1,2}[1-9][0-9]{0,2}$`)
	all := rights()
	c := chance(5)
	read := 0
	for range 200000 {
		b := []byte(Show(all[c.below(len(all))]))
		for range c.below(3) {
			at := c.below(len(b))
			switch c.below(3) {
			case 0:
				b[at] = bytes[c.below(len(bytes))]
			case 1:
				b = slices.Insert(b, at, bytes[c.below(len(bytes))])
			case 2:
				b = slices.Delete(b, at, at+1)
			}
		}
		s := string(b)
		if !form.MatchString(s) {
			checkNone(t, s)
			continue
		}
		read++
		if got, ok := Read(s); !ok || !Right(got) || Show(got) != s {
			t.Fatalf("Read(%q) = %v, %v", s, got, ok)
		}
	}
	if read < 1000 || read > 199000 {
		t.Errorf("%d were names", read)
	}
}

func TestP302Area(t *testing.T) {
	for _, x := range []struct {
		r    api.Range
		want int
	}{
		{span("s", 1, 1, 1, 1), 1}, {span("s", 702, 999, 702, 999), 1}, {span("abcdefgh", 5, 7, 5, 7), 1},
		{span("s", 1, 1, 2, 1), 2}, {span("s", 1, 1, 1, 2), 2}, {span("s", 2, 3, 4, 4), 6}, {span("s", 26, 9, 28, 10), 6},
		{span("s", 1, 1, 20, 20), 400}, {span("s", 1, 1, 401, 1), 401}, {span("s", 1, 1, 1, 999), 999}, {span("s", 1, 1, 702, 1), 702}, {span("s", 1, 1, 702, 999), 702 * 999},
	} {
		if n, ok := Area(x.r); n != x.want || !ok {
			t.Errorf("Area(%v) = %d, %v; want %d", x.r, n, ok, x.want)
		}
	}
}

// noAreas are ranges that may not be.
func noAreas() []api.Range {
	out := []api.Range{
		{},
		span("s", 2, 1, 1, 1), span("s", 1, 2, 1, 1), span("s", 2, 2, 1, 1), span("s", 2, 1, 1, 2), span("s", 1, 2, 2, 1), span("s", 702, 999, 1, 1),
		{From: cell("s", 1, 1), To: cell("t", 1, 1)}, {From: cell("t", 1, 1), To: cell("s", 2, 2)}, {From: cell("s", 1, 1), To: cell("ss", 2, 2)},
		{From: cell("s", 1, 1)}, {To: cell("s", 1, 1)}, {From: cell("s", 1, 1), To: cell("", 2, 2)},
		span("s", math.MinInt, 1, math.MaxInt, 1), span("s", 1, math.MinInt, 1, math.MaxInt),
	}
	for _, c := range wrongs() {
		from, to := c, c
		from.Col, from.Row, to.Col, to.Row = 1, 1, 2, 2
		out = append(out, api.Range{From: c, To: c}, api.Range{From: c, To: to}, api.Range{From: from, To: c})
	}
	return out
}

func TestP302NoArea(t *testing.T) {
	for _, r := range noAreas() {
		if n, ok := Area(r); n != 0 || ok {
			t.Errorf("Area(%v) = %d, %v; want none", r, n, ok)
		}
		if l := Cells(r); len(l) != 0 {
			t.Errorf("Cells(%v) has %d; want none", r, len(l))
		}
		for _, c := range []api.Cell{{}, r.From, r.To, cell("s", 1, 1), cell(r.From.Sheet, 1, 1), cell(r.To.Sheet, 2, 1)} {
			if In(r, c) {
				t.Errorf("In(%v, %v) = true", r, c)
			}
		}
	}
}

func TestP302Cells(t *testing.T) {
	for _, x := range []struct {
		r    api.Range
		want []api.Cell
	}{
		{span("s", 1, 1, 1, 1), []api.Cell{cell("s", 1, 1)}},
		{span("t", 702, 999, 702, 999), []api.Cell{cell("t", 702, 999)}},
		{span("s", 2, 3, 4, 3), []api.Cell{cell("s", 2, 3), cell("s", 3, 3), cell("s", 4, 3)}},
		{span("s", 2, 3, 2, 5), []api.Cell{cell("s", 2, 3), cell("s", 2, 4), cell("s", 2, 5)}},
		{span("s", 26, 9, 27, 11), []api.Cell{cell("s", 26, 9), cell("s", 27, 9), cell("s", 26, 10), cell("s", 27, 10), cell("s", 26, 11), cell("s", 27, 11)}},
	} {
		if got := Cells(x.r); !slices.Equal(got, x.want) {
			t.Errorf("Cells(%v) = %v; want %v", x.r, got, x.want)
		}
	}
}

func TestP302CellsUpToMaxArea(t *testing.T) {
	for _, r := range []api.Range{span("s", 1, 1, 20, 20), span("s", 1, 1, 400, 1), span("s", 1, 1, 1, 400), span("s", 303, 1, 702, 1), span("s", 1, 600, 1, 999), span("s", 1, 1, 19, 21)} {
		area, _ := Area(r)
		if got := Cells(r); len(got) != area || area > api.MaxArea {
			t.Errorf("Cells(%v) has %d of %d", r, len(got), area)
		}
	}
	for _, r := range []api.Range{span("s", 1, 1, 401, 1), span("s", 1, 1, 1, 401), span("s", 1, 1, 20, 21), span("s", 1, 1, 21, 20), span("s", 1, 1, 702, 999)} {
		if got := Cells(r); len(got) != 0 {
			t.Errorf("Cells(%v) has %d; want none", r, len(got))
		}
	}
}

// Of ranges within a few rows and columns: Area counts the cells that are In, and Cells has each of them once, as Less orders them.
func TestP302CellsAreThoseIn(t *testing.T) {
	const side = 5
	for n := range side * side * side * side {
		r := span("s", 1+n%side, 1+n/side%side, 1+n/side/side%side, 1+n/side/side/side)
		count := 0
		once := map[api.Cell]int{}
		l := Cells(r)
		for i, c := range l {
			once[c]++
			if i > 0 && !Less(l[i-1], c) {
				t.Errorf("Cells(%v): %v is not ahead of %v", r, l[i-1], c)
			}
		}
		for col := range side + 2 {
			for row := range side + 2 {
				want := 0
				if col >= r.From.Col && col <= r.To.Col && row >= r.From.Row && row <= r.To.Row {
					want = 1
				}
				count += want
				if c := cell("s", col, row); In(r, c) != (want == 1) || once[c] != want {
					t.Errorf("%v: In of %v = %v, %d times in Cells; want %d", r, c, In(r, c), once[c], want)
				}
			}
		}
		if area, ok := Area(r); area != count || ok != (count > 0) || len(l) != count {
			t.Errorf("%v: Area %d, %v, %d Cells; want %d", r, area, ok, len(l), count)
		}
	}
}

func TestP302In(t *testing.T) {
	// More than MaxArea: there are no Cells, but they are In.
	whole := span("s", 1, 1, api.MaxCol, api.MaxRow)
	for _, c := range rights() {
		if got := In(whole, c); got != (c.Sheet == "s") {
			t.Errorf("In(%v, %v) = %v", whole, c, got)
		}
	}
	for _, c := range wrongs() {
		if In(whole, c) {
			t.Errorf("In(%v, %v) = true", whole, c)
		}
	}
	for c, want := range map[api.Cell]int{
		cell("s", 5, 5): 1, cell("s", 7, 8): 1, cell("s", 5, 8): 1, cell("s", 7, 5): 1, cell("s", 6, 6): 1,
		cell("s", 4, 5): 0, cell("s", 5, 4): 0, cell("s", 8, 8): 0, cell("s", 7, 9): 0,
		cell("t", 6, 6): 0, cell("ss", 6, 6): 0, cell("", 6, 6): 0, cell("S", 6, 6): 0,
	} {
		if got := In(span("s", 5, 5, 7, 8), c); got != (want == 1) {
			t.Errorf("In of %v = %v", c, got)
		}
	}
}

func TestP302Less(t *testing.T) {
	// From the least on; cells that may not be are ordered, too.
	order := []api.Cell{
		cell("", 9, 9), cell("\x00", 1, 1), cell("A", 1, 1), cell("Z", 1, 1),
		cell("a", 5, math.MinInt), cell("a", 3, -1), cell("a", math.MinInt, 1), cell("a", -1, 1), cell("a", 1, 1), cell("a", 2, 1), cell("a", math.MaxInt, 1), cell("a", 1, 2), cell("a", 9, 2), cell("a", 1, 10), cell("a", 1, math.MaxInt),
		cell("a0", 1, 1), cell("a9", 1, 1), cell("aa", -1, -5), cell("aa", 1, 1), cell("ab", 1, 1), cell("b", 1, 1), cell("b", 2, 3), cell("b", 1, 4), cell("z", 1, 1), cell("\u00e9", 1, 1), cell("\xff", 1, 1),
	}
	for i, a := range order {
		for k, b := range order {
			if got := Less(a, b); got != (i < k) {
				t.Errorf("Less(%v, %v) = %v", a, b, got)
			}
		}
	}
}

func TestP303ReadSheetIsNew(t *testing.T) {
	s := strings.Clone("abcdefgh!A1")
	c, ok := Read(s)
	if !ok || c.Sheet != "abcdefgh" || unsafe.StringData(c.Sheet) == unsafe.StringData(s) {
		t.Errorf("Read = %v, %v, of the argument's memory", c, ok)
	}
}

func TestP303CellsAreNew(t *testing.T) {
	r := span(strings.Clone("abcdefgh"), 1, 1, 3, 3)
	want := Cells(r)
	for _, c := range want {
		if unsafe.StringData(c.Sheet) == unsafe.StringData(r.From.Sheet) {
			t.Errorf("%v is of the argument's memory", c)
		}
	}
	turned := Cells(r)
	for i := range turned[:cap(turned)] {
		turned[:cap(turned)][i] = api.Cell{}
	}
	if got := Cells(r); !slices.Equal(got, want) {
		t.Errorf("Cells(%v) = %v behind a turned answer", r, got)
	}
}

// A call answers the same whatever was asked ahead of it. Cells are the keys by which the first answers are kept.
func TestP303SameAgain(t *testing.T) {
	first := map[api.Cell]string{}
	all := append(rights(), wrongs()...)
	for _, c := range all {
		first[c] = Show(c)
	}
	for i := range all {
		c := all[len(all)-1-i]
		if got := Show(c); got != first[c] {
			t.Errorf("Show(%v) = %q; it was %q", c, got, first[c])
		}
		if got, ok := Read(first[c]); ok != Right(c) || ok && got != c {
			t.Errorf("Read(%q) = %v, %v; want %v", first[c], got, ok, c)
		}
	}
}
