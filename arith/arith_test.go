package arith

import (
	"math"
	"math/big"
	"strings"
	"testing"
	"unsafe"

	"abacist/api"
	"abacist/value"
)

// ops are all that Pair knows, and others are some that it doesn't.
func ops() []string {
	return []string{"+", "-", "*", "/", "&", "=", "<>", "<", ">", "<=", ">="}
}

func others() []string {
	return []string{"", " ", "%", "^", "**", "++", "==", "!=", "=<", "=>", "><", "<<", "&&", " +", "+ ", "+\x00", "plus", "\u2212"}
}

func text(s string) api.Value { return api.Value{Kind: api.Text, S: s} }

// numbers are the edges of 64 bits, those of the products that come near them, and some between.
func numbers() []int {
	out := []int{0, 3, 7, 10, 3037000499, 3037000500, 6074000999}
	for shift := range 64 {
		n := int(uint64(1) << shift)
		out = append(out, n-1, n, n+1)
	}
	for _, n := range out {
		out = append(out, -n)
	}
	state := uint64(7)
	for range 60 {
		state = state*6364136223846793005 + 1442695040888963407
		out = append(out, int(state), int(state)>>31, int(state)>>47)
	}
	return out
}

func texts() []api.Value {
	return []api.Value{text(""), text("0"), text("5"), text("TRUE"), text("#DIV"), text("a"), text("b"), text("\xff"), text(strings.Repeat("z", api.MaxText))}
}

func faults() []api.Value {
	var out []api.Value
	for n := api.EOver; n <= api.ENone; n++ {
		out = append(out, fault(n))
	}
	return out
}

// plain are values that may be and aren't Errors.
func plain() []api.Value {
	ints := []api.Value{number(math.MinInt), number(-5), number(0), number(1), number(5), number(math.MaxInt)}
	return append(append(ints, texts()...), api.Value{}, truth(false), truth(true))
}

// wrongs are values that may not be.
func wrongs() []api.Value {
	return []api.Value{
		{N: 1}, {S: "a"}, {Kind: api.Int, S: "a"}, {Kind: api.Int, N: 5, S: "5"}, {Kind: api.Text, N: 1},
		text(strings.Repeat("a", api.MaxText+1)),
		{Kind: api.Bool, N: 2}, {Kind: api.Bool, N: -1}, {Kind: api.Bool, S: "a"},
		fault(0), fault(-1), fault(api.ENone + 1), {Kind: api.Error, N: api.EDiv, S: "a"},
		{Kind: -1}, {Kind: 5}, {Kind: 257, N: 5}, {Kind: math.MinInt}, {Kind: math.MaxInt},
	}
}

func checkPair(t *testing.T, op string, a, b, want api.Value) {
	t.Helper()
	if got := Pair(op, a, b); got != want {
		t.Errorf("Pair(%q, %v, %v) = %v; want %v", op, a, b, got, want)
	}
}

func checkMinus(t *testing.T, a, want api.Value) {
	t.Helper()
	if got := Minus(a); got != want {
		t.Errorf("Minus(%v) = %v; want %v", a, got, want)
	}
}

func checkNumber(t *testing.T, a api.Value, n int, e api.Value, is bool) {
	t.Helper()
	if gotN, gotE, ok := Number(a); gotN != n || gotE != e || ok != is {
		t.Errorf("Number(%v) = %d, %v, %v; want %d, %v, %v", a, gotN, gotE, ok, n, e, is)
	}
}

// exactly is what op makes of two numbers that have as many bits as they need.
func exactly(op string, x, y int) api.Value {
	a, b, n := big.NewInt(int64(x)), big.NewInt(int64(y)), new(big.Int)
	switch op {
	case "+":
		n.Add(a, b)
	case "-":
		n.Sub(a, b)
	case "*":
		n.Mul(a, b)
	case "/":
		if y == 0 {
			return fault(api.EDiv)
		}
		n.Quo(a, b)
	}
	if !n.IsInt64() {
		return fault(api.EOver)
	}
	return number(int(n.Int64()))
}

func TestP201Example(t *testing.T) {
	checkPair(t, "+", number(2), number(3), number(5))
}

func TestP201Reckons(t *testing.T) {
	all := numbers()
	for _, op := range []string{"+", "-", "*", "/"} {
		for _, x := range all {
			for _, y := range all {
				if got, want := Pair(op, number(x), number(y)), exactly(op, x, y); got != want {
					t.Fatalf("%d %s %d = %v; want %v", x, op, y, got, want)
				}
			}
		}
	}
}

func TestP201ReckonsAtTheEdges(t *testing.T) {
	over, div := fault(api.EOver), fault(api.EDiv)
	const most, least = math.MaxInt, math.MinInt
	for _, x := range []struct {
		a    int
		op   string
		b    int
		want api.Value
	}{
		{most, "+", 0, number(most)}, {most, "+", 1, over}, {least, "+", -1, over}, {least, "+", least, over}, {least, "+", most, number(-1)},
		{least, "-", 1, over}, {0, "-", least, over}, {-1, "-", least, number(most)}, {most, "-", -1, over}, {least, "-", least, number(0)},
		{least, "*", -1, over}, {-1, "*", least, over}, {least, "*", 1, number(least)}, {-1, "*", most, number(-most)}, {-1 << 32, "*", 1 << 31, number(least)}, {1 << 32, "*", 1 << 32, over}, {0, "*", least, number(0)},
		{7, "/", 2, number(3)}, {-7, "/", 2, number(-3)}, {7, "/", -2, number(-3)}, {-7, "/", -2, number(3)}, {1, "/", 2, number(0)}, {-1, "/", 2, number(0)},
		{5, "/", 0, div}, {0, "/", 0, div}, {least, "/", 0, div}, {least, "/", -1, over}, {least, "/", 1, number(least)}, {least, "/", least, number(1)}, {most, "/", least, number(0)},
	} {
		checkPair(t, x.op, number(x.a), number(x.b), x.want)
	}
}

func TestP201BlankIsZero(t *testing.T) {
	blank := api.Value{}
	for _, n := range []int{math.MinInt, -1, 0, 1, math.MaxInt} {
		for _, op := range []string{"+", "-", "*", "/"} {
			checkPair(t, op, blank, number(n), exactly(op, 0, n))
			checkPair(t, op, number(n), blank, exactly(op, n, 0))
			checkPair(t, op, blank, blank, exactly(op, 0, 0))
		}
	}
}

func TestP201ReckonsNumbersAlone(t *testing.T) {
	for _, op := range []string{"+", "-", "*", "/"} {
		for _, v := range append(texts(), truth(false), truth(true)) {
			for _, w := range plain() {
				checkPair(t, op, v, w, fault(api.EType))
				checkPair(t, op, w, v, fault(api.EType))
			}
		}
	}
}

func TestP201Minus(t *testing.T) {
	for _, n := range numbers() {
		checkMinus(t, number(n), exactly("-", 0, n))
	}
	checkMinus(t, number(math.MinInt), fault(api.EOver))
	checkMinus(t, number(math.MaxInt), number(-math.MaxInt))
	checkMinus(t, api.Value{}, number(0))
	for _, v := range append(texts(), truth(false), truth(true)) {
		checkMinus(t, v, fault(api.EType))
	}
	for _, e := range faults() {
		checkMinus(t, e, e)
	}
	for _, w := range wrongs() {
		checkMinus(t, w, fault(api.EType))
	}
}

func TestP201Number(t *testing.T) {
	for _, n := range numbers() {
		checkNumber(t, number(n), n, api.Value{}, true)
	}
	checkNumber(t, api.Value{}, 0, api.Value{}, true)
	for _, v := range append(texts(), truth(false), truth(true)) {
		checkNumber(t, v, 0, fault(api.EType), false)
	}
	for _, e := range faults() {
		checkNumber(t, e, 0, e, false)
	}
	for _, w := range wrongs() {
		checkNumber(t, w, 0, fault(api.EType), false)
	}
}

func TestP201Joins(t *testing.T) {
	for _, a := range plain() {
		for _, b := range plain() {
			want := text(value.Show(a) + value.Show(b))
			if len(want.S) > api.MaxText {
				want = fault(api.EOver)
			}
			checkPair(t, "&", a, b, want)
		}
	}
	checkPair(t, "&", number(-12), truth(true), text("-12TRUE"))
	checkPair(t, "&", truth(false), number(3), text("FALSE3"))
	checkPair(t, "&", api.Value{}, api.Value{}, text(""))
	checkPair(t, "&", text("a"), api.Value{}, text("a"))
}

func TestP201JoinsUpToMaxText(t *testing.T) {
	for n := range api.MaxText + 1 {
		a, b := strings.Repeat("a", n), strings.Repeat("b", api.MaxText-n)
		checkPair(t, "&", text(a), text(b), text(a+b))
		if n > 0 {
			checkPair(t, "&", text(a), text(b+"b"), fault(api.EOver))
		}
	}
	// It is bytes that count, not runes.
	wide := text(strings.Repeat("\u00e9", api.MaxText/2))
	checkPair(t, "&", wide, text("a"), fault(api.EOver))
	checkPair(t, "&", number(0), wide, fault(api.EOver))
	checkPair(t, "&", wide, wide, fault(api.EOver))
}

func TestP201Compares(t *testing.T) {
	const minusOne, zero, one = 0, 1, 2
	// Which of Compare's answers each op is true at.
	for op, at := range map[string][3]bool{
		"=":  {zero: true},
		"<>": {minusOne: true, one: true},
		"<":  {minusOne: true},
		">":  {one: true},
		"<=": {minusOne: true, zero: true},
		">=": {zero: true, one: true},
	} {
		for _, a := range plain() {
			for _, b := range plain() {
				checkPair(t, op, a, b, truth(at[value.Compare(a, b)+1]))
			}
		}
	}
	checkPair(t, "=", api.Value{}, number(0), truth(false))
	checkPair(t, "=", text("5"), number(5), truth(false))
	checkPair(t, "<", number(math.MaxInt), text(""), truth(true))
	checkPair(t, "<=", truth(false), text("z"), truth(false))
}

func TestP201OtherOps(t *testing.T) {
	for _, op := range others() {
		for _, a := range plain() {
			for _, b := range plain() {
				checkPair(t, op, a, b, fault(api.EName))
			}
		}
	}
}

func TestP201ErrorsAreTheAnswer(t *testing.T) {
	for _, op := range append(ops(), others()...) {
		for _, e := range faults() {
			for _, v := range plain() {
				checkPair(t, op, e, v, e)
				checkPair(t, op, v, e, e)
			}
			for _, f := range faults() {
				checkPair(t, op, e, f, e)
			}
		}
	}
}

func TestP201WrongValues(t *testing.T) {
	for _, op := range append(ops(), others()...) {
		for _, w := range wrongs() {
			for _, v := range append(append(plain(), faults()...), wrongs()...) {
				checkPair(t, op, w, v, fault(api.EType))
				checkPair(t, op, v, w, fault(api.EType))
			}
		}
	}
}

func TestP201AnswersAreRight(t *testing.T) {
	all := append(append(plain(), faults()...), wrongs()...)
	for _, a := range all {
		for _, op := range append(ops(), others()...) {
			for _, b := range all {
				if got := Pair(op, a, b); !value.Right(got) {
					t.Errorf("Pair(%q, %v, %v) = %v, which may not be", op, a, b, got)
				}
			}
		}
	}
}

// A text behind which, or ahead of which, nothing is put is new all the same.
func TestP202JoinedTextIsNew(t *testing.T) {
	long := text(strings.Repeat("a", 50))
	for _, empty := range []api.Value{{}, text("")} {
		for _, got := range []api.Value{Pair("&", long, empty), Pair("&", empty, long)} {
			if got != long || unsafe.StringData(got.S) == unsafe.StringData(long.S) {
				t.Errorf("Pair of %v and %v = %v, of the argument's memory", long, empty, got)
			}
		}
	}
}

// A call answers the same whatever was asked ahead of it.
func TestP202SameAgain(t *testing.T) {
	type question struct {
		op   string
		a, b api.Value
	}
	first := map[question]api.Value{}
	all := append(append(plain(), faults()...), wrongs()...)
	for _, a := range all {
		for _, op := range append(ops(), others()...) {
			for _, b := range all {
				first[question{op, a, b}] = Pair(op, a, b)
			}
		}
	}
	for q, want := range first {
		n, e, ok := Number(q.a)
		minus := Minus(q.a)
		checkPair(t, q.op, q.a, q.b, want)
		checkNumber(t, q.a, n, e, ok)
		checkMinus(t, q.a, minus)
	}
}
