package funcs

import (
	"math"
	"math/big"
	"slices"
	"strings"
	"testing"
	"unsafe"

	"abacist/api"
	"abacist/arith"
	"abacist/value"
)

const most, least = math.MaxInt, math.MinInt

// arity is a function's name, with how many arguments it takes at least and at most (-1: as many as there are).
type arity struct {
	name     string
	from, to int
}

// names are all functions.
func names() []arity {
	return []arity{
		{"SUM", 0, -1}, {"MIN", 0, -1}, {"MAX", 0, -1}, {"COUNT", 0, -1}, {"COUNTA", 0, -1}, {"AVG", 0, -1}, {"AND", 0, -1}, {"OR", 0, -1}, {"CONCAT", 0, -1},
		{"NOT", 1, 1}, {"ABS", 1, 1}, {"SIGN", 1, 1}, {"LEN", 1, 1}, {"UPPER", 1, 1}, {"LOWER", 1, 1}, {"ISERR", 1, 1}, {"ISBLANK", 1, 1},
		{"MOD", 2, 2}, {"LEFT", 2, 2}, {"RIGHT", 2, 2}, {"FIND", 2, 2}, {"MID", 3, 3}, {"IF", 3, 3}, {"CHOOSE", 2, -1}, {"MATCH", 2, 2},
	}
}

// others are names of no function.
func others() []string {
	return []string{"", " ", "sum", "Sum", "SUM ", " SUM", "SUM\x00", "SUMS", "SU", "TRUE", "FALSE", "XOR", "AVERAGE", "COUNTB", "IFS", "if", "ISERROR", "SUBSTR", "+", "\u0130F", "\xff", strings.Repeat("SUM", 1000)}
}

// one is an argument of one value, and row one of as many as there are.
func one(v api.Value) []api.Value { return []api.Value{v} }

func row(l ...api.Value) []api.Value { return l }

// ints is a row of Ints.
func ints(l ...int) []api.Value {
	var out []api.Value
	for _, n := range l {
		out = append(out, number(n))
	}
	return out
}

// each1 are arguments of one value each.
func each1(l ...api.Value) [][]api.Value {
	var out [][]api.Value
	for _, v := range l {
		out = append(out, one(v))
	}
	return out
}

func rows(l ...[]api.Value) [][]api.Value { return l }

func faults() []api.Value {
	var out []api.Value
	for n := api.EOver; n <= api.ENone; n++ {
		out = append(out, fault(n))
	}
	return out
}

// wrongs are values that may not be.
func wrongs() []api.Value {
	return []api.Value{
		{N: 1}, {S: "a"}, {Kind: api.Int, S: "a"}, {Kind: api.Int, N: 5, S: "5"}, {Kind: api.Text, N: 1},
		text(strings.Repeat("a", api.MaxText+1)),
		{Kind: api.Bool, N: 2}, {Kind: api.Bool, N: -1}, {Kind: api.Bool, S: "a"},
		fault(0), fault(-1), fault(api.ENone + 1), {Kind: api.Error, N: api.EDiv, S: "a"},
		{Kind: -1}, {Kind: 5}, {Kind: 257, N: 5}, {Kind: least}, {Kind: most},
	}
}

// plain are values that may be and aren't Errors.
func plain() []api.Value {
	return []api.Value{
		{}, number(least), number(-5), number(-1), number(0), number(1), number(2), number(3), number(5), number(200), number(most),
		text(""), text("0"), text("1"), text("a"), text("aZ{`@[z"), text("TRUE"), text("#DIV"), text("h\u00e9\xff\x00"), text(strings.Repeat("z", api.MaxText)),
		truth(false), truth(true),
	}
}

func checkCall(t *testing.T, name string, args [][]api.Value, want api.Value) {
	t.Helper()
	if got := Call(name, args); got != want {
		t.Errorf("Call(%q, %v) = %v; want %v", name, args, got, want)
	}
}

// asked is a function's name, with what it is called of and what it is to answer.
type asked struct {
	name string
	args [][]api.Value
	want api.Value
}

func checkAll(t *testing.T, l []asked) {
	t.Helper()
	for _, x := range l {
		checkCall(t, x.name, x.args, x.want)
	}
}

func TestP1001Example(t *testing.T) {
	checkCall(t, "SUM", nil, number(0))
	checkCall(t, "SUM", [][]api.Value{}, number(0))
}

func TestP1001Sum(t *testing.T) {
	blank := api.Value{}
	checkAll(t, []asked{
		{"SUM", rows(ints(1, 2, 3)), number(6)}, {"SUM", each1(number(1), number(2), number(3)), number(6)}, {"SUM", rows(ints(1), nil, ints(2, 3), ints()), number(6)},
		{"SUM", rows(nil, nil), number(0)},
		// Those that aren't Int are passed over, and are no numbers.
		{"SUM", each1(number(4), text("5"), truth(true), blank, text("")), number(4)}, {"SUM", each1(text("5"), truth(true)), number(0)},
		// One behind the other: what is too great on the way stays so.
		{"SUM", rows(ints(most, 1, -1)), fault(api.EOver)}, {"SUM", rows(ints(1, -1, most)), number(most)}, {"SUM", rows(ints(most, -1, 1)), number(most)},
		{"SUM", rows(ints(least, -1, 1)), fault(api.EOver)}, {"SUM", rows(ints(least, most)), number(-1)}, {"SUM", rows(ints(most), ints(most), ints(least)), fault(api.EOver)},
		{"SUM", rows(ints(least)), number(least)}, {"SUM", rows(ints(most, 1), one(fault(api.ENone))), fault(api.ENone)},
		{"AVG", rows(ints(1, 2, 4)), number(2)}, {"AVG", rows(ints(-1, -2)), number(-1)}, {"AVG", rows(ints(7), one(text("9")), one(blank), one(truth(true))), number(7)},
		{"AVG", nil, fault(api.EDiv)}, {"AVG", rows(nil), fault(api.EDiv)}, {"AVG", each1(blank, text("1"), truth(true)), fault(api.EDiv)},
		{"AVG", rows(ints(most, most)), fault(api.EOver)}, {"AVG", rows(ints(most, 1, -1)), fault(api.EOver)}, {"AVG", rows(ints(least)), number(least)}, {"AVG", rows(ints(most, 0)), number(most / 2)},
	})
}

func TestP1001LeastAndGreatest(t *testing.T) {
	blank := api.Value{}
	checkAll(t, []asked{
		{"MIN", rows(ints(3, 1, 2)), number(1)}, {"MAX", rows(ints(1, 3, 2)), number(3)}, {"MIN", rows(ints(3), ints(1, 2)), number(1)}, {"MAX", rows(ints(3), ints(1, 2)), number(3)},
		{"MIN", nil, number(0)}, {"MAX", nil, number(0)}, {"MIN", each1(text("a"), truth(true), blank), number(0)}, {"MAX", each1(text("a"), truth(true), blank), number(0)},
		// 0 is told only where there is no Int, and neither a Blank nor a FALSE is one.
		{"MIN", rows(ints(3, 7)), number(3)}, {"MAX", rows(ints(-3, -7)), number(-3)}, {"MIN", each1(blank, number(3), truth(false)), number(3)}, {"MAX", each1(blank, number(-3), truth(true)), number(-3)},
		{"MAX", rows(ints(-3, 0)), number(0)}, {"MIN", rows(ints(3, 0)), number(0)}, {"MIN", rows(ints(most)), number(most)}, {"MAX", rows(ints(least)), number(least)},
		{"MIN", rows(ints(most, least, 0)), number(least)}, {"MAX", rows(ints(least, most, 0)), number(most)}, {"MIN", each1(number(1), text("")), number(1)},
	})
}

func TestP1001Counts(t *testing.T) {
	blank := api.Value{}
	checkAll(t, []asked{
		{"COUNT", nil, number(0)}, {"COUNT", rows(ints(1, 1, 0), nil, ints(least)), number(4)}, {"COUNT", each1(number(1), text("1"), truth(true), blank, text("")), number(1)}, {"COUNT", rows(row(blank, blank)), number(0)},
		{"COUNTA", nil, number(0)}, {"COUNTA", rows(nil, row(blank, blank)), number(0)}, {"COUNTA", each1(number(0), text(""), truth(false), blank), number(3)}, {"COUNTA", rows(faults()), number(7)}, {"COUNTA", rows(row(fault(1), blank, fault(1)), ints(5)), number(3)},
	})
	for _, v := range wrongs() {
		checkCall(t, "COUNTA", rows(row(v, blank, v)), number(2))
	}
}

func TestP1001Truths(t *testing.T) {
	yes, no, blank, kind := truth(true), truth(false), api.Value{}, fault(api.EType)
	checkAll(t, []asked{
		{"AND", nil, yes}, {"AND", rows(nil, nil), yes}, {"AND", each1(yes, yes), yes}, {"AND", each1(yes, no, yes), no}, {"AND", rows(row(yes, yes), row(no)), no}, {"AND", each1(no), no}, {"AND", each1(yes), yes}, {"AND", each1(blank), no}, {"AND", each1(yes, blank), no},
		{"OR", nil, no}, {"OR", rows(nil, nil), no}, {"OR", each1(no, no), no}, {"OR", each1(no, yes, no), yes}, {"OR", rows(row(no, no), row(yes)), yes}, {"OR", each1(yes), yes}, {"OR", each1(no), no}, {"OR", each1(blank), no}, {"OR", each1(blank, yes), yes},
		// What is no truth is told also behind what settles the matter.
		{"AND", each1(no, number(1)), kind}, {"AND", each1(number(1), no), kind}, {"AND", each1(yes, text("TRUE")), kind}, {"AND", each1(blank, number(0)), kind}, {"OR", each1(yes, number(0)), kind}, {"OR", each1(text(""), yes), kind}, {"OR", each1(no, number(1)), kind},
		// And an Error behind what is no truth.
		{"AND", each1(number(1), fault(api.EDiv)), fault(api.EDiv)}, {"OR", each1(yes, text("a"), fault(api.ERef), fault(api.EDiv)), fault(api.ERef)},
		{"NOT", each1(yes), no}, {"NOT", each1(no), yes}, {"NOT", each1(blank), yes}, {"NOT", each1(number(0)), kind}, {"NOT", each1(number(1)), kind}, {"NOT", each1(text("TRUE")), kind}, {"NOT", each1(text("")), kind},
	})
}

func TestP1001Numbers(t *testing.T) {
	blank, kind, div := api.Value{}, fault(api.EType), fault(api.EDiv)
	checkAll(t, []asked{
		{"ABS", each1(number(5)), number(5)}, {"ABS", each1(number(-5)), number(5)}, {"ABS", each1(number(0)), number(0)}, {"ABS", each1(blank), number(0)}, {"ABS", each1(number(most)), number(most)}, {"ABS", each1(number(least + 1)), number(most)}, {"ABS", each1(number(least)), fault(api.EOver)},
		{"ABS", each1(text("5")), kind}, {"ABS", each1(text("")), kind}, {"ABS", each1(truth(true)), kind},
		{"SIGN", each1(number(5)), number(1)}, {"SIGN", each1(number(-5)), number(-1)}, {"SIGN", each1(number(0)), number(0)}, {"SIGN", each1(blank), number(0)}, {"SIGN", each1(number(most)), number(1)}, {"SIGN", each1(number(least)), number(-1)}, {"SIGN", each1(text("5")), kind}, {"SIGN", each1(truth(false)), kind},
		{"MOD", each1(number(7), number(3)), number(1)}, {"MOD", each1(number(-7), number(3)), number(-1)}, {"MOD", each1(number(7), number(-3)), number(1)}, {"MOD", each1(number(-7), number(-3)), number(-1)}, {"MOD", each1(number(6), number(3)), number(0)}, {"MOD", each1(blank, number(3)), number(0)},
		{"MOD", each1(number(7), number(0)), div}, {"MOD", each1(number(0), number(0)), div}, {"MOD", each1(number(least), blank), div}, {"MOD", each1(blank, blank), div},
		{"MOD", each1(number(7), number(-1)), number(0)}, {"MOD", each1(number(least), number(-1)), number(0)}, {"MOD", each1(number(least), number(most)), number(-1)}, {"MOD", each1(number(most), number(least)), number(most)}, {"MOD", each1(number(least), number(least)), number(0)},
		{"MOD", each1(text("a"), number(0)), kind}, {"MOD", each1(number(7), text("3")), kind}, {"MOD", each1(truth(true), number(3)), kind}, {"MOD", each1(number(7), truth(true)), kind}, {"MOD", each1(text("a"), fault(api.ERef)), fault(api.ERef)},
	})
}

func TestP1001Mod(t *testing.T) {
	l := []int{least, least + 1, -1 << 32, -7, -3, -2, -1, 1, 2, 3, 7, 1 << 32, most - 1, most}
	for _, x := range append(l, 0) {
		for _, y := range l {
			a, b := big.NewInt(int64(x)), big.NewInt(int64(y))
			by := new(big.Int).Quo(a, b)
			checkCall(t, "MOD", each1(number(x), number(y)), number(int(by.Sub(a, by.Mul(by, b)).Int64())))
		}
	}
}

func TestP1001Texts(t *testing.T) {
	long := strings.Repeat("abcde", api.MaxText/5)
	blank, kind, none := api.Value{}, fault(api.EType), fault(api.ENone)
	checkAll(t, []asked{
		{"LEN", each1(text("abc")), number(3)}, {"LEN", each1(text("")), number(0)}, {"LEN", each1(blank), number(0)}, {"LEN", each1(text("\u00e9\xff\x00")), number(4)}, {"LEN", each1(text(long)), number(api.MaxText)}, {"LEN", each1(number(least)), number(20)}, {"LEN", each1(number(7)), number(1)}, {"LEN", each1(truth(true)), number(4)}, {"LEN", each1(truth(false)), number(5)},
		{"LEFT", each1(text("abc"), number(2)), text("ab")}, {"LEFT", each1(text("abc"), number(0)), text("")}, {"LEFT", each1(text("abc"), blank), text("")}, {"LEFT", each1(text("abc"), number(3)), text("abc")}, {"LEFT", each1(text("abc"), number(4)), text("abc")}, {"LEFT", each1(text("abc"), number(most)), text("abc")}, {"LEFT", each1(text("\u00e9"), number(1)), text("\xc3")}, {"LEFT", each1(number(-123), number(3)), text("-12")}, {"LEFT", each1(truth(true), number(1)), text("T")}, {"LEFT", each1(blank, number(5)), text("")},
		{"LEFT", each1(text("abc"), number(-1)), kind}, {"LEFT", each1(text("abc"), number(least)), kind}, {"LEFT", each1(text(""), number(-1)), kind}, {"LEFT", each1(text("abc"), text("1")), kind}, {"LEFT", each1(text("abc"), truth(true)), kind},
		{"RIGHT", each1(text("abc"), number(2)), text("bc")}, {"RIGHT", each1(text("abc"), number(0)), text("")}, {"RIGHT", each1(text("abc"), blank), text("")}, {"RIGHT", each1(text("abc"), number(3)), text("abc")}, {"RIGHT", each1(text("abc"), number(4)), text("abc")}, {"RIGHT", each1(text("abc"), number(most)), text("abc")}, {"RIGHT", each1(text("\u00e9"), number(1)), text("\xa9")}, {"RIGHT", each1(number(-123), number(3)), text("123")}, {"RIGHT", each1(truth(false), number(2)), text("SE")}, {"RIGHT", each1(blank, number(5)), text("")},
		{"RIGHT", each1(text("abc"), number(-1)), kind}, {"RIGHT", each1(text("abc"), number(least)), kind}, {"RIGHT", each1(text(""), number(-1)), kind}, {"RIGHT", each1(text("abc"), text("1")), kind}, {"RIGHT", each1(text("abc"), truth(true)), kind},
		{"MID", each1(text("abcde"), number(2), number(3)), text("bcd")}, {"MID", each1(text("abcde"), number(1), number(0)), text("")}, {"MID", each1(text("abcde"), number(1), blank), text("")}, {"MID", each1(text("abcde"), number(1), number(most)), text("abcde")}, {"MID", each1(text("abcde"), number(5), number(1)), text("e")}, {"MID", each1(text("abcde"), number(5), number(most)), text("e")}, {"MID", each1(text("abcde"), number(6), number(1)), text("")}, {"MID", each1(text("abcde"), number(7), number(1)), text("")}, {"MID", each1(text("abcde"), number(most), number(most)), text("")}, {"MID", each1(text("abcde"), number(3), number(2)), text("cd")}, {"MID", each1(number(12345), number(2), number(3)), text("234")}, {"MID", each1(blank, number(1), number(1)), text("")},
		{"MID", each1(text("abcde"), number(0), number(1)), kind}, {"MID", each1(text("abcde"), blank, number(1)), kind}, {"MID", each1(text("abcde"), number(least), number(1)), kind}, {"MID", each1(text("abcde"), number(1), number(-1)), kind}, {"MID", each1(text("abcde"), number(9), number(-1)), kind}, {"MID", each1(text("abcde"), text("1"), number(1)), kind}, {"MID", each1(text("abcde"), number(1), truth(true)), kind},
		{"FIND", each1(text("b"), text("abcb")), number(2)}, {"FIND", each1(text("abcb"), text("abcb")), number(1)}, {"FIND", each1(text("cb"), text("abcb")), number(3)}, {"FIND", each1(text(""), text("abc")), number(1)}, {"FIND", each1(text(""), blank), number(1)}, {"FIND", each1(blank, text("a")), number(1)}, {"FIND", each1(text("aab"), text("aaab")), number(2)}, {"FIND", each1(text("\xa9"), text("\u00e9")), number(2)}, {"FIND", each1(number(-3), number(-3)), number(1)}, {"FIND", each1(text("RU"), truth(true)), number(2)},
		{"FIND", each1(text("x"), text("abc")), none}, {"FIND", each1(text("abc"), text("b")), none}, {"FIND", each1(text("A"), text("abc")), none}, {"FIND", each1(text("a"), blank), none}, {"FIND", each1(text("e"), text(long)), number(5)},
	})
}

func TestP1001Letters(t *testing.T) {
	// All bytes, and as many letters again as a text has room for.
	for low := range 2 {
		s, great, small := "", "", ""
		for b := 128 * low; b < 128*low+128; b++ {
			up, down := byte(b), byte(b)
			if 'a' <= b && b <= 'z' {
				up -= 32
			}
			if 'A' <= b && b <= 'Z' {
				down += 32
			}
			s, great, small = s+string([]byte{byte(b)}), great+string([]byte{up}), small+string([]byte{down})
		}
		checkCall(t, "UPPER", each1(text(s)), text(great))
		checkCall(t, "LOWER", each1(text(s)), text(small))
	}
	checkAll(t, []asked{
		{"UPPER", each1(text("h\u00e9llo \u00df")), text("H\u00e9LLO \u00df")}, {"LOWER", each1(text("H\u00c9LLO \u212a")), text("h\u00c9llo \u212a")}, {"UPPER", each1(api.Value{}), text("")}, {"LOWER", each1(api.Value{}), text("")}, {"UPPER", each1(number(-5)), text("-5")}, {"LOWER", each1(truth(false)), text("false")}, {"UPPER", each1(truth(false)), text("FALSE")},
		{"UPPER", each1(text(strings.Repeat("z", api.MaxText))), text(strings.Repeat("Z", api.MaxText))}, {"LOWER", each1(text(strings.Repeat("A", api.MaxText))), text(strings.Repeat("a", api.MaxText))},
	})
}

func TestP1001Concat(t *testing.T) {
	full := text(strings.Repeat("z", api.MaxText))
	blank, over := api.Value{}, fault(api.EOver)
	checkAll(t, []asked{
		{"CONCAT", nil, text("")}, {"CONCAT", rows(nil, row(blank, text(""))), text("")}, {"CONCAT", rows(row(text("a"), number(-1)), one(truth(true)), nil, one(blank), one(text("b"))), text("a-1TRUEb")}, {"CONCAT", each1(number(5)), text("5")}, {"CONCAT", each1(text("\xc3"), text("\xa9")), text("\u00e9")},
		{"CONCAT", each1(full), full}, {"CONCAT", each1(full, text(""), blank), full}, {"CONCAT", each1(full, text("a")), over}, {"CONCAT", each1(number(0), full), over}, {"CONCAT", each1(full, full, full), over}, {"CONCAT", each1(text(full.S[1:]), text("z")), full}, {"CONCAT", each1(text(full.S[1:]), text("z"), text("z")), over},
		{"CONCAT", each1(full, full, fault(api.EDiv)), fault(api.EDiv)}, {"CONCAT", each1(full, full, fault(api.EDiv), fault(api.ERef)), fault(api.EDiv)},
	})
}

func TestP1001Asks(t *testing.T) {
	yes, no := truth(true), truth(false)
	for _, e := range faults() {
		checkCall(t, "ISERR", each1(e), yes)
		checkCall(t, "ISBLANK", each1(e), e)
	}
	for _, v := range wrongs() {
		checkCall(t, "ISERR", each1(v), yes)
		checkCall(t, "ISBLANK", each1(v), fault(api.EType))
	}
	for _, v := range plain() {
		checkCall(t, "ISERR", each1(v), no)
		checkCall(t, "ISBLANK", each1(v), truth(v.Kind == api.Blank))
	}
}

func TestP1001Branches(t *testing.T) {
	yes, no, blank := truth(true), truth(false), api.Value{}
	kind, none := fault(api.EType), fault(api.ENone)
	all := slices.Concat(plain(), faults())
	for _, v := range all {
		for _, w := range all {
			checkCall(t, "IF", each1(yes, v, w), v)
			checkCall(t, "IF", each1(no, v, w), w)
			checkCall(t, "IF", each1(blank, v, w), w)
			checkCall(t, "CHOOSE", each1(number(1), v, w), v)
			checkCall(t, "CHOOSE", each1(number(2), v, w), w)
			checkCall(t, "CHOOSE", each1(number(3), v, w), none)
			checkCall(t, "CHOOSE", each1(number(3), v, w, w, v), w)
		}
	}
	for _, v := range wrongs() {
		checkCall(t, "IF", each1(yes, v, number(1)), kind)
		checkCall(t, "IF", each1(yes, number(1), v), number(1))
		checkCall(t, "IF", each1(no, v, number(1)), number(1))
		checkCall(t, "IF", each1(v, number(1), fault(api.ERef)), kind)
		checkCall(t, "CHOOSE", each1(number(2), number(1), v), kind)
		checkCall(t, "CHOOSE", each1(number(1), number(1), v), number(1))
		checkCall(t, "CHOOSE", each1(v, number(1), fault(api.ERef)), kind)
	}
	for _, e := range faults() {
		checkCall(t, "IF", each1(e, fault(api.EOver), fault(api.ENone)), e)
		checkCall(t, "CHOOSE", each1(e, fault(api.EOver), fault(api.ENone)), e)
	}
	for _, v := range []api.Value{number(0), number(1), number(-1), text(""), text("TRUE")} {
		checkCall(t, "IF", each1(v, number(1), fault(api.ERef)), kind)
	}
	for _, v := range []api.Value{truth(true), truth(false), text("1"), text("")} {
		checkCall(t, "CHOOSE", each1(v, number(1), fault(api.ERef)), kind)
	}
	for _, n := range []int{0, -1, 2, 3, 256, 257, 1<<32 + 1, most, least, least + 1} {
		checkCall(t, "CHOOSE", each1(number(n), fault(api.ERef)), none)
	}
	checkCall(t, "CHOOSE", each1(blank, fault(api.ERef)), none)
}

func TestP1001Match(t *testing.T) {
	blank, none := api.Value{}, fault(api.ENone)
	two := ints(1, 2, 3, 2)
	checkAll(t, []asked{
		{"MATCH", rows(ints(2), two), number(2)}, {"MATCH", rows(ints(1), two), number(1)}, {"MATCH", rows(ints(3), two), number(3)}, {"MATCH", rows(ints(4), two), none}, {"MATCH", rows(ints(2), ints(2)), number(1)},
		{"MATCH", rows(ints(2), nil), none}, {"MATCH", rows(ints(2), row()), none}, {"MATCH", rows(one(blank), nil), none},
		// Of another Kind is another value.
		{"MATCH", rows(one(blank), row(number(0), text(""), truth(false), blank)), number(4)}, {"MATCH", rows(one(number(0)), row(blank, text("0"), truth(false), number(0))), number(4)}, {"MATCH", rows(one(truth(true)), row(number(1), text("TRUE"), truth(false), truth(true))), number(4)}, {"MATCH", rows(one(text("a")), row(text("A"), text("ab"), text(""), text("a"))), number(4)}, {"MATCH", rows(one(text("1")), row(number(1))), none},
		// Errors in the row are passed over, and one ahead of it is the answer.
		{"MATCH", rows(ints(2), row(fault(1), fault(7), number(2))), number(3)}, {"MATCH", rows(ints(2), faults()), none}, {"MATCH", rows(one(fault(api.EDiv)), row(number(1), fault(api.EDiv))), fault(api.EDiv)}, {"MATCH", rows(one(fault(api.ENone)), nil), fault(api.ENone)},
	})
	for _, v := range wrongs() {
		checkCall(t, "MATCH", rows(ints(2), row(v, v, number(2))), number(3))
		checkCall(t, "MATCH", rows(one(v), row(v)), fault(api.EType))
		checkCall(t, "MATCH", rows(one(blank), row(v)), none)
		for _, e := range faults() {
			checkCall(t, "MATCH", rows(one(e), row(v)), e)
		}
	}
	for _, v := range plain() {
		for _, w := range plain() {
			want := number(3)
			if value.Compare(v, w) == 0 {
				want = number(2)
			}
			checkCall(t, "MATCH", rows(one(v), row(fault(api.EType), w, v)), want)
		}
	}
}

// taken are arguments that a function of that name takes and answers no Error of.
func taken(name string) [][]api.Value {
	switch name {
	case "AND", "OR", "NOT":
		return each1(truth(true))
	case "IF":
		return each1(truth(true), number(1), number(1))
	case "LEFT", "RIGHT":
		return each1(text("a"), number(1))
	case "MID":
		return each1(text("a"), number(1), number(1))
	case "MOD", "FIND", "CHOOSE", "MATCH":
		return each1(number(1), number(1))
	}
	return each1(number(1))
}

func TestP1001FirstError(t *testing.T) {
	for _, f := range names() {
		if f.name == "ISERR" || f.name == "COUNTA" {
			continue
		}
		plain := taken(f.name)
		if got := Call(f.name, plain); got.Kind == api.Error {
			t.Errorf("Call(%q, %v) = %v", f.name, plain, got)
		}
		for i := range plain {
			// Those that need not be taken are asked by tests of their own.
			if i > 0 && Lazy(f.name) {
				break
			}
			for _, e := range faults() {
				args := slices.Clone(plain)
				args[i] = one(e)
				checkCall(t, f.name, args, e)
				for j := i + 1; j < len(args); j++ {
					args[j] = one(fault(api.EName))
					checkCall(t, f.name, args, e)
				}
			}
			for _, v := range wrongs() {
				args := slices.Clone(plain)
				args[i] = one(v)
				checkCall(t, f.name, args, fault(api.EType))
				for j := i + 1; j < len(args); j++ {
					args[j] = one(fault(api.EName))
					checkCall(t, f.name, args, fault(api.EType))
				}
			}
		}
	}
}

func TestP1001FirstErrorOfValues(t *testing.T) {
	for _, f := range names() {
		if f.from != 0 || Lazy(f.name) {
			continue
		}
		good := taken(f.name)[0][0]
		for _, e := range faults() {
			checkCall(t, f.name, rows(row(good, e, good), one(fault(api.EName))), e)
			checkCall(t, f.name, rows(row(good), nil, row(good, e, fault(api.EName))), e)
			// What is wrong of itself comes behind an Error, wherever it is.
			checkCall(t, f.name, rows(ints(most, most), row(text(strings.Repeat("a", 200))), row(e)), e)
		}
		for _, v := range wrongs() {
			checkCall(t, f.name, rows(row(good, v), one(fault(api.EName))), fault(api.EType))
			checkCall(t, f.name, rows(row(good, fault(api.EName)), one(v)), fault(api.EName))
		}
	}
}

func TestP1001HowMany(t *testing.T) {
	args := fault(api.EArgs)
	for _, f := range names() {
		if f.from == 0 {
			continue
		}
		for many := range 9 {
			l := slices.Repeat(each1(truth(true)), many)
			if many > 0 && f.name != "IF" {
				l[0] = ints(1)
			}
			got, within := Call(f.name, l), many >= f.from && (f.to < 0 || many <= f.to)
			if (got == args) == within {
				t.Errorf("Call(%q, %v) = %v", f.name, l, got)
			}
			// Whatever Errors there are.
			if l = slices.Repeat(each1(fault(api.EDiv)), many); !within {
				checkCall(t, f.name, l, args)
			}
		}
		checkCall(t, f.name, [][]api.Value{}, args)
	}
}

func TestP1001OneValueEach(t *testing.T) {
	for _, f := range names() {
		if f.from == 0 {
			continue
		}
		good := taken(f.name)
		for i := range good {
			// The second argument of MATCH is the only one that is a row.
			if f.name == "MATCH" && i == 1 {
				continue
			}
			for _, l := range [][]api.Value{nil, {}, {{}, {}}, ints(1, 1), faults(), slices.Repeat(good[i], 2), wrongs(), make([]api.Value, 400)} {
				args := slices.Clone(good)
				args[i] = l
				checkCall(t, f.name, args, fault(api.EArgs))
				args[0], args[i] = one(fault(api.EDiv)), l
				checkCall(t, f.name, args, fault(api.EArgs))
			}
		}
	}
	checkCall(t, "CHOOSE", rows(ints(1), ints(5), nil), fault(api.EArgs))
	checkCall(t, "CHOOSE", rows(ints(1), ints(5), ints(5), ints(5, 6)), fault(api.EArgs))
}

func TestP1001OtherNames(t *testing.T) {
	for _, name := range others() {
		for _, args := range [][][]api.Value{nil, rows(nil), rows(ints(1)), rows(ints(1, 2)), rows(wrongs()), rows(faults(), faults())} {
			checkCall(t, name, args, fault(api.EName))
		}
		if Lazy(name) {
			t.Errorf("Lazy(%q)", name)
		}
	}
}

func TestP1001Lazy(t *testing.T) {
	lazy := []string{"IF", "CHOOSE", "ISERR", "COUNTA", "MATCH"}
	for _, f := range names() {
		if got, want := Lazy(f.name), slices.Contains(lazy, f.name); got != want {
			t.Errorf("Lazy(%q) = %v", f.name, got)
		}
	}
}

// chance is a row of numbers that only seem to be by chance.
type chance uint32

func (c *chance) below(n int) int {
	*c = *c*1664525 + 1013904223
	return int(*c>>8) % n
}

func pick[T any](c *chance, l []T) T { return l[c.below(len(l))] }

// some are arguments as formulas have them, for a function that takes from to to of them.
func (c *chance) some(f arity) [][]api.Value {
	most := f.to
	if most < 0 {
		most = f.from + 3
	}
	var args [][]api.Value
	for range f.from + c.below(most-f.from+1) {
		l := row()
		for f.from == 0 && c.below(3) > 0 || len(l) == 0 && f.from > 0 {
			l = append(l, c.one(f.name))
		}
		args = append(args, l)
	}
	if f.name == "MATCH" || c.below(20) == 0 {
		for range c.below(3) {
			args = append(args[:max(len(args)-1, 0)], row(c.one(""), c.one(f.name), c.one("")))
		}
	}
	return args
}

// one is a value, more often one that the function of that name takes.
func (c *chance) one(name string) api.Value {
	switch c.below(30) {
	case 0:
		return pick(c, faults())
	case 1:
		return pick(c, wrongs())
	case 2, 3, 4:
		return pick(c, plain())
	}
	switch name {
	case "AND", "OR", "NOT", "IF":
		return pick(c, []api.Value{{}, truth(false), truth(true)})
	case "LEFT", "RIGHT", "MID", "FIND", "LEN", "CONCAT":
		return pick(c, []api.Value{text("ab"), text("b"), text("abcab"), number(c.below(5))})
	}
	return number(c.below(9) - 2)
}

// plainly is Call, with each function written out as the document tells it.
func plainly(name string, args [][]api.Value) api.Value {
	var all []api.Value
	each := true
	for _, l := range args {
		each = each && len(l) == 1
		for _, v := range l {
			if !value.Right(v) {
				v = fault(api.EType)
			}
			all = append(all, v)
		}
	}
	i := slices.IndexFunc(names(), func(f arity) bool { return f.name == name })
	if i < 0 {
		return fault(api.EName)
	}
	f := names()[i]
	if f.from > 0 && name != "MATCH" && (!each || len(args) < f.from || f.to >= 0 && len(args) > f.to) {
		return fault(api.EArgs)
	}
	if name == "MATCH" && (len(args) != 2 || len(args[0]) != 1) {
		return fault(api.EArgs)
	}
	seen := all
	if f.from > 0 && Lazy(name) {
		seen = all[:1]
	}
	for _, v := range seen {
		if v.Kind == api.Error && name != "ISERR" && name != "COUNTA" {
			return v
		}
	}
	if f.from == 0 {
		return plainlyValues(name, all)
	}
	return plainlyEach(name, all)
}

func plainlyValues(name string, all []api.Value) api.Value {
	var ints []api.Value
	truths, filled, joined := true, 0, ""
	var is, not bool
	for _, v := range all {
		truths = truths && (v.Kind == api.Bool || v.Kind == api.Blank)
		is, not = is || v == truth(true), not || v != truth(true)
		joined += value.Show(v)
		if v.Kind == api.Int {
			ints = append(ints, v)
		}
		if v.Kind != api.Blank {
			filled++
		}
	}
	total := number(0)
	for _, v := range ints {
		total = arith.Pair("+", total, v)
	}
	slices.SortFunc(ints, value.Compare)
	switch name {
	case "SUM":
		return total
	case "AVG":
		return arith.Pair("/", total, number(len(ints)))
	case "COUNT":
		return number(len(ints))
	case "COUNTA":
		return number(filled)
	case "CONCAT":
		if len(joined) > api.MaxText {
			return fault(api.EOver)
		}
		return text(joined)
	case "AND", "OR":
		if !truths {
			return fault(api.EType)
		}
		return truth(name == "AND" && !not || name == "OR" && is)
	}
	if len(ints) == 0 {
		return number(0)
	}
	return map[int]api.Value{'I': ints[0], 'A': ints[len(ints)-1]}[int(name[1])]
}

func plainlyEach(name string, all []api.Value) api.Value {
	v, s := all[0], value.Show(all[0])
	n, e, isNumber := arith.Number(v)
	isTruth := v.Kind == api.Bool || v.Kind == api.Blank
	// The second and the third one as a number, or -1 where it is none, which every function but MOD refuses.
	later := [3]int{}
	for i := 1; i < min(3, len(all)); i++ {
		if m, _, ok := arith.Number(all[i]); ok {
			later[i] = m
		} else {
			later[i] = -1
		}
	}
	switch name {
	case "ISERR":
		return truth(v.Kind == api.Error)
	case "ISBLANK":
		return truth(v == api.Value{})
	case "LEN":
		return number(len(s))
	case "UPPER":
		return text(strings.Map(func(r rune) rune { return map[bool]rune{true: r - 32, false: r}[r >= 'a' && r <= 'z'] }, s))
	case "LOWER":
		return text(strings.Map(func(r rune) rune { return map[bool]rune{true: r + 32, false: r}[r >= 'A' && r <= 'Z'] }, s))
	case "FIND":
		in := value.Show(all[1])
		for i := range len(in) + 1 {
			if strings.HasPrefix(in[i:], s) {
				return number(i + 1)
			}
		}
		return fault(api.ENone)
	case "LEFT", "RIGHT":
		switch {
		case later[1] < 0:
			return fault(api.EType)
		case later[1] >= len(s):
			return text(s)
		case name == "LEFT":
			return text(s[:later[1]])
		}
		return text(s[len(s)-later[1]:])
	case "MID":
		if later[1] < 1 || later[2] < 0 {
			return fault(api.EType)
		}
		var out []byte
		for i := range len(s) {
			if i >= later[1]-1 && i-(later[1]-1) < later[2] {
				out = append(out, s[i])
			}
		}
		return text(string(out))
	case "MATCH":
		for i, w := range all[1:] {
			if w == v {
				return number(i + 1)
			}
		}
		return fault(api.ENone)
	case "NOT", "IF":
		switch {
		case !isTruth:
			return fault(api.EType)
		case name == "NOT":
			return truth(v.N == 0)
		}
		return all[2-v.N]
	}
	switch {
	case !isNumber:
		return e
	case name == "CHOOSE" && n >= 1 && n < len(all):
		return all[n]
	case name == "CHOOSE":
		return fault(api.ENone)
	case name == "ABS" && n >= 0:
		return number(n)
	case name == "ABS":
		return arith.Pair("*", v, number(-1))
	case name == "SIGN" && n > 0:
		return number(1)
	case name == "SIGN" && n < 0:
		return number(-1)
	case name == "SIGN":
		return number(0)
	}
	if _, e, ok := arith.Number(all[1]); !ok {
		return e
	}
	if later[1] == -1 {
		return number(0)
	}
	return arith.Pair("-", number(n), arith.Pair("*", all[1], arith.Pair("/", number(n), all[1])))
}

func TestP1001AsTheDocumentTells(t *testing.T) {
	c := chance(10)
	kinds := map[string]map[int]int{}
	for range 4000 {
		for _, f := range names() {
			args := c.some(f)
			got := Call(f.name, args)
			// Bytes that are no runes are turned by tests of their own.
			if (f.name == "UPPER" || f.name == "LOWER") && strings.Contains(got.S, "\xff") {
				continue
			}
			if want := plainly(f.name, args); got != want {
				t.Fatalf("Call(%q, %v) = %v; want %v", f.name, args, got, want)
			}
			if kinds[f.name] == nil {
				kinds[f.name] = map[int]int{}
			}
			kinds[f.name][got.Kind]++
		}
	}
	for _, f := range names() {
		if len(kinds[f.name]) < 2 && f.name != "ISERR" && f.name != "COUNTA" {
			t.Errorf("%s answers of but one kind: %v", f.name, kinds[f.name])
		}
	}
}

func TestP1001AnswersAreRight(t *testing.T) {
	c := chance(77)
	for range 1000 {
		for _, f := range names() {
			args := c.some(f)
			if got := Call(f.name, args); !value.Right(got) {
				t.Fatalf("Call(%q, %v) = %v", f.name, args, got)
			}
		}
	}
}

func TestP1001Large(t *testing.T) {
	const many = 1 << 18
	long := make([]api.Value, many)
	for i := range long {
		long[i] = number(i)
	}
	rest := each1(long...)
	sum := number(many * (many - 1) / 2)
	checkCall(t, "SUM", rows(long), sum)
	checkCall(t, "SUM", rest, sum)
	checkCall(t, "MAX", rest, number(many-1))
	checkCall(t, "COUNTA", rows(long, long, long), number(3*many))
	checkCall(t, "MATCH", rows(ints(many-1), long), number(many))
	checkCall(t, "CHOOSE", append(rows(ints(many)), rest...), number(many-1))
	if got := Call("CONCAT", rows(long)); got != fault(api.EOver) {
		t.Errorf("CONCAT of many: %v", got)
	}
	if got := Call("CONCAT", rows(make([]api.Value, many))); got != text("") {
		t.Errorf("CONCAT of many that are Blank: %v", got)
	}
}

// roomy is args, each list within another one with room to spare on both sides that is kept beside it.
func roomy(args [][]api.Value) (within [][]api.Value, all []api.Value) {
	guard := api.Value{Kind: api.Text, S: "guard"}
	for _, l := range args {
		all = append(append(append(all, guard), l...), guard)
	}
	from := 0
	for _, l := range args {
		within = append(within, all[from+1:from+1+len(l)])
		from += len(l) + 2
	}
	return within, all
}

func TestP1002LeavesArguments(t *testing.T) {
	c := chance(5)
	for range 300 {
		for _, f := range names() {
			within, all := roomy(c.some(f))
			wholes := append(slices.Clone(within), ints(99))
			handed, before := wholes[:len(within)], slices.Clone(all)
			name := strings.Clone(f.name)
			Call(name, handed)
			Lazy(name)
			if !slices.Equal(all, before) || name != f.name || !slices.Equal(wholes[len(within)], ints(99)) {
				t.Fatalf("Call(%q, ..) changed what was handed in: %v, not %v", f.name, all, before)
			}
			for i := range within {
				if len(wholes[i]) != len(within[i]) || len(within[i]) > 0 && &wholes[i][0] != &within[i][0] {
					t.Fatalf("Call(%q, ..) changed the list of arguments", f.name)
				}
			}
		}
	}
}

// shares tells whether the two have bytes in common.
func shares(a, b string) bool {
	if a == "" || b == "" {
		return false
	}
	x, y := uintptr(unsafe.Pointer(unsafe.StringData(a))), uintptr(unsafe.Pointer(unsafe.StringData(b)))
	return x < y+uintptr(len(b)) && y < x+uintptr(len(a))
}

func TestP1002NewMemory(t *testing.T) {
	for _, s := range []string{"abc", "ABC", "123", strings.Repeat("z", api.MaxText)} {
		v := text(strings.Clone(s))
		for _, x := range []asked{
			{"IF", each1(truth(true), v, v), v}, {"IF", each1(truth(false), v, v), v}, {"CHOOSE", each1(number(1), v, v), v}, {"CHOOSE", each1(number(2), v, v), v},
			{"LEFT", each1(v, number(most)), v}, {"LEFT", each1(v, number(2)), text(s[:2])}, {"RIGHT", each1(v, number(most)), v}, {"RIGHT", each1(v, number(2)), text(s[len(s)-2:])}, {"MID", each1(v, number(1), number(most)), v}, {"MID", each1(v, number(2), number(1)), text(s[1:2])},
			{"UPPER", each1(v), text(strings.ToUpper(s))}, {"LOWER", each1(v), text(strings.ToLower(s))}, {"CONCAT", each1(v), v}, {"CONCAT", each1(api.Value{}, v, text("")), v},
		} {
			got := Call(x.name, x.args)
			if got != x.want {
				t.Errorf("Call(%q, %v) = %v; want %v", x.name, x.args, got, x.want)
			}
			if shares(got.S, v.S) {
				t.Errorf("Call(%q, %v) shares its text with what was handed in", x.name, x.args)
			}
		}
	}
}

func TestP1002KeepsNothing(t *testing.T) {
	c := chance(31)
	for range 200 {
		for _, f := range names() {
			args := c.some(f)
			var again [][]api.Value
			for _, l := range args {
				again = append(again, slices.Clone(l))
			}
			got := Call(f.name, args)
			want := api.Value{Kind: got.Kind, N: got.N, S: strings.Clone(got.S)}
			for _, l := range args {
				for i := range l {
					l[i] = number(-1)
				}
			}
			for _, x := range names() {
				Call(x.name, c.some(x))
			}
			if now := Call(f.name, again); got != want || now != want {
				t.Fatalf("Call(%q, %v) = %v, and then %v", f.name, again, got, now)
			}
		}
	}
}

func TestP1002NilIsEmpty(t *testing.T) {
	for _, f := range names() {
		for _, l := range [][2][][]api.Value{
			{nil, {}}, {{nil}, {{}}}, {{nil, nil}, {{}, {}}}, {ones1(1, nil), ones1(1, row())}, {ones1(2, nil), ones1(2, row())}, {ones1(0, nil), ones1(0, row())},
		} {
			if a, b := Call(f.name, l[0]), Call(f.name, l[1]); a != b {
				t.Errorf("%s of nil: %v, and of an empty list: %v", f.name, a, b)
			}
		}
	}
}

// ones1 are n arguments of one value, and then last.
func ones1(n int, last []api.Value) [][]api.Value {
	return append(slices.Repeat(rows(ints(1)), n), last)
}

func TestP1002TogetherAsAlone(t *testing.T) {
	c := chance(3)
	var l []asked
	for range 50 {
		for _, f := range names() {
			args := c.some(f)
			l = append(l, asked{f.name, args, Call(f.name, args)})
		}
	}
	done := make(chan int)
	for range 4 {
		go func() {
			wrong := 0
			for _, x := range l {
				if Call(x.name, x.args) != x.want {
					wrong++
				}
			}
			done <- wrong
		}()
	}
	for range 4 {
		if wrong := <-done; wrong > 0 {
			t.Errorf("%d answers turned when asked side by side", wrong)
		}
	}
}
