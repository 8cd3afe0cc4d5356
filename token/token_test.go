package token

import (
	"regexp"
	"slices"
	"strings"
	"testing"
	"unsafe"

	"abacist/api"
)

// part is a token, as it is written and as it is told.
type part struct {
	kind          int
	written, says string
}

func plain(kind int, s string) part { return part{kind, s, s} }

func text(written, says string) part { return part{api.TText, written, says} }

func signs() []part {
	var out []part
	for _, s := range strings.Fields("+ - * / & = < > <> <= >= ( ) , : !") {
		out = append(out, plain(api.TSign, s))
	}
	return out
}

func parts() []part {
	return append(signs(),
		plain(api.TNum, "0"), plain(api.TNum, "9"), plain(api.TNum, "007"), plain(api.TNum, "9223372036854775808"), plain(api.TNum, strings.Repeat("1", 40)),
		text(`""`, ""), text(`" "`, " "), text(`"a"`, "a"), text(`""""`, `"`), text(`"a""b"`, `a"b`), text(`"""a"""`, `"a"`), text(`""""""`, `""`), text(`"1+A1"`, "1+A1"), text(`"#é'"`, "#é'"), text("\"\x00\t\n\xff\"", "\x00\t\n\xff"),
		plain(api.TWord, "A"), plain(api.TWord, "Z"), plain(api.TWord, "ZZ999"), plain(api.TWord, "A0B1"), plain(api.TWord, "TRUE"), plain(api.TWord, "SUM"), plain(api.TWord, strings.Repeat("Q7", 20)),
		plain(api.TName, "a"), plain(api.TName, "z"), plain(api.TName, "z0a9"), plain(api.TName, "true"), plain(api.TName, strings.Repeat("q7", 20)),
	)
}

// glues tells whether b right behind a would be taken as one more piece of a.
func glues(a, b part) bool {
	tail, head := a.written[len(a.written)-1], b.written[0]
	digit, great, small := head >= '0' && head <= '9', head >= 'A' && head <= 'Z', head >= 'a' && head <= 'z'
	switch a.kind {
	case api.TNum:
		return digit
	case api.TText:
		return head == '"'
	case api.TWord:
		return great || digit
	case api.TName:
		return small || digit
	}
	return len(a.written) == 1 && (tail == '<' && (head == '=' || head == '>') || tail == '>' && head == '=')
}

// chance makes numbers, the same ones in each run.
type chance uint32

func (c *chance) below(n int) int {
	*c = *c*1664525 + 1013904223
	return int(*c>>9) % n
}

// formula writes some tokens, with blanks where they would be taken as one, and here and there.
func (c *chance) formula() (string, []api.Token) {
	s, all := strings.Repeat(" ", c.below(3)), parts()
	var want []api.Token
	var last part
	for n := range c.below(12) {
		p := all[c.below(len(all))]
		if c.below(4) == 0 || n > 0 && glues(last, p) {
			s += strings.Repeat(" ", 1+c.below(2))
		}
		if len(s)+len(p.written) > api.MaxText-2 {
			break
		}
		want = append(want, api.Token{Kind: p.kind, At: len(s), Text: p.says})
		s += p.written
		last = p
	}
	return s + strings.Repeat(" ", c.below(3)), want
}

func checkSplit(t *testing.T, s string, want []api.Token) {
	t.Helper()
	if got, at, e := Split(s); !slices.Equal(got, want) || at != -1 || e != api.OK {
		t.Errorf("Split(%q) = %v, %d, %d; want %v", s, got, at, e, want)
	}
}

func checkNone(t *testing.T, s string, place int, want api.Errno) {
	t.Helper()
	if got, at, e := Split(s); len(got) != 0 || at != place || e != want {
		t.Errorf("Split(%q) = %v, %d, %d; want none, %d, %d", s, got, at, e, place, want)
	}
}

func TestP401Nothing(t *testing.T) {
	checkSplit(t, "", nil)
	for n := 1; n <= api.MaxText; n++ {
		checkSplit(t, strings.Repeat(" ", n), nil)
	}
}

func TestP401OneToken(t *testing.T) {
	for _, p := range parts() {
		for ahead := range 4 {
			blanks := strings.Repeat(" ", ahead)
			want := []api.Token{{Kind: p.kind, At: ahead, Text: p.says}}
			checkSplit(t, blanks+p.written, want)
			checkSplit(t, blanks+p.written+" ", want)
		}
	}
}

func TestP401TwoTokens(t *testing.T) {
	for _, a := range parts() {
		for _, b := range parts() {
			want := []api.Token{{Kind: a.kind, At: 0, Text: a.says}, {Kind: b.kind, At: len(a.written) + 1, Text: b.says}}
			checkSplit(t, a.written+" "+b.written, want)
			if !glues(a, b) {
				want[1].At--
				checkSplit(t, a.written+b.written, want)
			}
		}
	}
}

func TestP401AsLongAsCanBe(t *testing.T) {
	tok := func(kind, at int, s string) api.Token { return api.Token{Kind: kind, At: at, Text: s} }
	for s, want := range map[string][]api.Token{
		"12":       {tok(api.TNum, 0, "12")},
		"1 2":      {tok(api.TNum, 0, "1"), tok(api.TNum, 2, "2")},
		"1A2b3":    {tok(api.TNum, 0, "1"), tok(api.TWord, 1, "A2"), tok(api.TName, 3, "b3")},
		"aA":       {tok(api.TName, 0, "a"), tok(api.TWord, 1, "A")},
		"Aa":       {tok(api.TWord, 0, "A"), tok(api.TName, 1, "a")},
		"s1!AB3":   {tok(api.TName, 0, "s1"), tok(api.TSign, 2, "!"), tok(api.TWord, 3, "AB3")},
		"<<=>>==>": {tok(api.TSign, 0, "<"), tok(api.TSign, 1, "<="), tok(api.TSign, 3, ">"), tok(api.TSign, 4, ">="), tok(api.TSign, 6, "="), tok(api.TSign, 7, ">")},
		"<>=":      {tok(api.TSign, 0, "<>"), tok(api.TSign, 2, "=")},
		"><":       {tok(api.TSign, 0, ">"), tok(api.TSign, 1, "<")},
		"=<":       {tok(api.TSign, 0, "="), tok(api.TSign, 1, "<")},
		"< =":      {tok(api.TSign, 0, "<"), tok(api.TSign, 2, "=")},
		"< >":      {tok(api.TSign, 0, "<"), tok(api.TSign, 2, ">")},
		"!!":       {tok(api.TSign, 0, "!"), tok(api.TSign, 1, "!")},
		"--1":      {tok(api.TSign, 0, "-"), tok(api.TSign, 1, "-"), tok(api.TNum, 2, "1")},
		`"a" "b"`:  {tok(api.TText, 0, "a"), tok(api.TText, 4, "b")},
		`"a""b"`:   {tok(api.TText, 0, `a"b`)},
		`"" ""`:    {tok(api.TText, 0, ""), tok(api.TText, 3, "")},
		`"""" ""`:  {tok(api.TText, 0, `"`), tok(api.TText, 5, "")},
		`A"a"1`:    {tok(api.TWord, 0, "A"), tok(api.TText, 1, "a"), tok(api.TNum, 4, "1")},
	} {
		checkSplit(t, s, want)
	}
}

func TestP401AnyFormulas(t *testing.T) {
	c := chance(4)
	for range 20000 {
		s, want := c.formula()
		checkSplit(t, s, want)
	}
}

// What each byte is, alone and within a text.
func TestP401ByByte(t *testing.T) {
	for b := range 256 {
		s := string([]byte{byte(b)})
		kind := 0
		switch {
		case b >= '0' && b <= '9':
			kind = api.TNum
		case b >= 'A' && b <= 'Z':
			kind = api.TWord
		case b >= 'a' && b <= 'z':
			kind = api.TName
		case strings.Contains("+-*/&=<>(),:!", s) && b < 128:
			kind = api.TSign
		}
		switch {
		case b == ' ':
			checkSplit(t, s, nil)
		case kind == 0:
			checkNone(t, s, 0, api.ErrSyntax)
		default:
			checkSplit(t, s, []api.Token{{Kind: kind, Text: s}})
		}
		if b != '"' {
			checkSplit(t, `"`+s+`"`, []api.Token{{Kind: api.TText, Text: s}})
		}
	}
}

func TestP401NoToken(t *testing.T) {
	bad := []string{"#", "'", "%", "^", "_", ".", ";", "$", "@", "?", "`", "{", "|", "~", "[", "\\", "\t", "\n", "\r", "\x00", "\x7f", "\u00e9", "\u00a0", "\u2212", "\uff21", "\u0661", "\xff", `"`, `"a`, `"""`, `"a""`, `"a""b`, `"""""`}
	for _, x := range bad {
		checkNone(t, x, 0, api.ErrSyntax)
		checkNone(t, "  "+x, 2, api.ErrSyntax)
		for _, p := range parts() {
			checkNone(t, p.written+" "+x, len(p.written)+1, api.ErrSyntax)
			if x[0] != '"' || p.kind != api.TText {
				checkNone(t, p.written+x, len(p.written), api.ErrSyntax)
			}
			// What follows may end a text that has no end yet.
			if x[0] != '"' {
				checkNone(t, x+p.written, 0, api.ErrSyntax)
				checkNone(t, x+" # "+p.written, 0, api.ErrSyntax)
			}
		}
	}
	checkNone(t, `1 + "a b 2`, 4, api.ErrSyntax)
	checkNone(t, `"a""" """`, 6, api.ErrSyntax)
	checkNone(t, `"a" "`, 4, api.ErrSyntax)
	checkNone(t, `1.5`, 1, api.ErrSyntax)
	checkNone(t, `a_b`, 1, api.ErrSyntax)
}

func TestP401Long(t *testing.T) {
	for _, unit := range []string{"1", "A", "a", " ", "("} {
		most := strings.Repeat(unit, api.MaxText)
		if _, at, e := Split(most); at != -1 || e != api.OK {
			t.Errorf("Split of %d bytes = %d, %d", len(most), at, e)
		}
		checkNone(t, most+unit, 0, api.ErrLong)
		checkNone(t, most+most+most, 0, api.ErrLong)
	}
	inner := strings.Repeat("x", api.MaxText-2)
	checkSplit(t, `"`+inner+`"`, []api.Token{{Kind: api.TText, Text: inner}})
	checkNone(t, `"`+inner+`x"`, 0, api.ErrLong)
	// It is bytes that count, not runes, and blanks count, too.
	checkSplit(t, `"`+strings.Repeat("\u00e9", api.MaxText/2-1)+`"`, []api.Token{{Kind: api.TText, Text: strings.Repeat("\u00e9", api.MaxText/2-1)}})
	checkNone(t, `"`+strings.Repeat("\u00e9", api.MaxText/2)+`"`, 0, api.ErrLong)
	checkNone(t, "1"+strings.Repeat(" ", api.MaxText), 0, api.ErrLong)
}

// The length is looked at ahead of the tokens.
func TestP401LongIsToldFirst(t *testing.T) {
	checkNone(t, strings.Repeat("#", api.MaxText), 0, api.ErrSyntax)
	checkNone(t, strings.Repeat("#", api.MaxText+1), 0, api.ErrLong)
	checkNone(t, "1#"+strings.Repeat(" ", api.MaxText-2), 1, api.ErrSyntax)
	checkNone(t, "1#"+strings.Repeat(" ", api.MaxText-1), 0, api.ErrLong)
	checkNone(t, strings.Repeat("1", api.MaxText)+"#", 0, api.ErrLong)
	checkNone(t, strings.Repeat("1", api.MaxText-1)+"#", api.MaxText-1, api.ErrSyntax)
}

// All short formulas of a few letters, against patterns.
func TestP401AllShort(t *testing.T) {
	shape := regexp.MustCompile(`^(?:([0-9]+)|("(?:[^"]|"")*")|([A-Z][A-Z0-9]*)|([a-z][a-z0-9]*)|(<>|<=|>=|[-+*/&=<>(),:!]))`)
	const letters = `Aa1"<>= #`
	all := []string{""}
	for i := 0; i < len(all); i++ {
		s := all[i]
		if want, place := byPattern(shape, s); place >= 0 {
			checkNone(t, s, place, api.ErrSyntax)
		} else {
			checkSplit(t, s, want)
		}
		for k := 0; k < len(letters) && len(s) < 5; k++ {
			all = append(all, s+letters[k:k+1])
		}
	}
}

// byPattern tells the tokens, or the place where there is none.
func byPattern(shape *regexp.Regexp, s string) ([]api.Token, int) {
	var out []api.Token
	for at := 0; at < len(s); {
		if s[at] == ' ' {
			at++
			continue
		}
		m := shape.FindStringSubmatch(s[at:])
		// A quote right behind the match: the pattern gave up half of a pair to find an end, so the text has none.
		if m == nil || m[2] != "" && strings.HasPrefix(s[at+len(m[0]):], `"`) {
			return nil, at
		}
		kind := 1
		for m[kind] == "" {
			kind++
		}
		says := m[0]
		if kind == api.TText {
			says = strings.Join(strings.Split(says[1:len(says)-1], `""`), `"`)
		}
		out = append(out, api.Token{Kind: kind, At: at, Text: says})
		at += len(m[0])
	}
	return out, -1
}

func TestP402TextsAreNew(t *testing.T) {
	for _, p := range parts() {
		s := strings.Clone(" " + p.written + " ")
		got, _, _ := Split(s)
		if len(got) != 1 || got[0].Text != p.says {
			t.Fatalf("Split(%q) = %v", s, got)
		}
		if p.says == "" {
			continue
		}
		told := unsafe.StringData(got[0].Text)
		for i := range len(s) {
			if told == unsafe.StringData(s[i:]) {
				t.Errorf("Split(%q): %q is of the argument's memory", s, got[0].Text)
			}
		}
	}
}

func TestP402TokensAreNew(t *testing.T) {
	const s = `SUM(s!A1:B2, "a""b") <> 12`
	want, _, _ := Split(s)
	turned, _, _ := Split(s)
	turned = turned[:cap(turned)]
	for i := range turned {
		turned[i] = api.Token{}
	}
	checkSplit(t, s, slices.Clone(want))
}

// A call answers the same whatever was asked ahead of it.
func TestP402SameAgain(t *testing.T) {
	c := chance(42)
	type answer struct {
		s    string
		want []api.Token
	}
	var all []answer
	for range 500 {
		s, want := c.formula()
		all = append(all, answer{s, want})
	}
	for i := range all {
		Split(all[i].s + "#")
		Split(strings.Repeat(all[i].s+"1", api.MaxText+1))
		x := all[len(all)-1-i]
		checkSplit(t, x.s, x.want)
		checkSplit(t, x.s, x.want)
	}
}
