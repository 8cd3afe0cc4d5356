package value

import (
	"bytes"
	"math"
	"slices"
	"strings"
	"testing"
	"unsafe"

	"abacist/api"
)

// sample is a value that may be, as it is shown and written.
type sample struct {
	v     api.Value
	shown string
	bytes []byte
}

// samples stand in the order of Compare, the least first.
func samples() []sample {
	long := strings.Repeat("z", api.MaxText)
	return []sample{
		{api.Value{}, "", []byte{0}},
		{integer(math.MinInt64), "-9223372036854775808", []byte{1, 0x80, 0, 0, 0, 0, 0, 0, 0}},
		{integer(-256), "-256", []byte{1, 255, 255, 255, 255, 255, 255, 255, 0}},
		{integer(-1), "-1", []byte{1, 255, 255, 255, 255, 255, 255, 255, 255}},
		{integer(0), "0", []byte{1, 0, 0, 0, 0, 0, 0, 0, 0}},
		{integer(5), "5", []byte{1, 0, 0, 0, 0, 0, 0, 0, 5}},
		{integer(0x0123456789abcdef), "81985529216486895", []byte{1, 0x01, 0x23, 0x45, 0x67, 0x89, 0xab, 0xcd, 0xef}},
		{integer(math.MaxInt64), "9223372036854775807", []byte{1, 0x7f, 255, 255, 255, 255, 255, 255, 255}},
		{text(""), "", []byte{2, 0}},
		{text("\x00"), "\x00", []byte{2, 1, 0}},
		{text("10"), "10", []byte{2, 2, '1', '0'}},
		{text("9"), "9", []byte{2, 1, '9'}},
		{text("TRUE"), "TRUE", []byte{2, 4, 'T', 'R', 'U', 'E'}},
		{text("Z"), "Z", []byte{2, 1, 'Z'}},
		{text("a"), "a", []byte{2, 1, 'a'}},
		{text("ab"), "ab", []byte{2, 2, 'a', 'b'}},
		{text("b"), "b", []byte{2, 1, 'b'}},
		{text(long), long, append([]byte{2, api.MaxText}, long...)},
		{text("\u00e9"), "\u00e9", []byte{2, 2, 0xc3, 0xa9}},
		{text("\xff"), "\xff", []byte{2, 1, 0xff}},
		{boolean(0), "FALSE", []byte{3, 0}},
		{boolean(1), "TRUE", []byte{3, 1}},
		{fault(api.EOver), "#OVER", []byte{4, 1}},
		{fault(api.EDiv), "#DIV", []byte{4, 2}},
		{fault(api.EType), "#TYPE", []byte{4, 3}},
		{fault(api.ERef), "#REF", []byte{4, 4}},
		{fault(api.EName), "#NAME", []byte{4, 5}},
		{fault(api.EArgs), "#ARGS", []byte{4, 6}},
		{fault(api.ENone), "#NONE", []byte{4, 7}},
	}
}

// wrongs are values that may not be.
func wrongs() []api.Value {
	return []api.Value{
		{N: 1}, {N: -1}, {S: "a"},
		{Kind: api.Int, S: "a"}, {Kind: api.Int, N: 5, S: "5"},
		{Kind: api.Text, N: 1}, {Kind: api.Text, N: -1, S: "a"},
		text(strings.Repeat("a", api.MaxText+1)),
		// More bytes than MaxText, though fewer runes.
		text(strings.Repeat("\u00e9", api.MaxText/2+1)),
		text(strings.Repeat("a", 256)),
		boolean(2), boolean(-1), boolean(256), boolean(math.MinInt64), {Kind: api.Bool, S: "TRUE"},
		fault(0), fault(-1), fault(api.ENone + 1), fault(257), fault(math.MaxInt64), {Kind: api.Error, N: 1, S: "a"},
		{Kind: -1}, {Kind: 5}, {Kind: 256}, {Kind: 257, N: 5}, {Kind: math.MinInt64}, {Kind: math.MaxInt64},
	}
}

func integer(n int) api.Value { return api.Value{Kind: api.Int, N: n} }
func text(s string) api.Value { return api.Value{Kind: api.Text, S: s} }
func boolean(n int) api.Value { return api.Value{Kind: api.Bool, N: n} }
func fault(n int) api.Value   { return api.Value{Kind: api.Error, N: n} }

// checkNone fails unless Read of b tells that there is no value.
func checkNone(t *testing.T, b []byte) {
	t.Helper()
	if v, n, e := Read(b); v != (api.Value{}) || n != 0 || e != api.ErrBytes {
		t.Errorf("Read(%x) = %v, %d, %d; want none", b, v, n, e)
	}
}

func TestP101Right(t *testing.T) {
	for _, x := range samples() {
		if !Right(x.v) {
			t.Errorf("Right(%v) = false", x.v)
		}
	}
	for _, v := range wrongs() {
		if Right(v) {
			t.Errorf("Right(%v) = true", v)
		}
	}
}

func TestP101Compare(t *testing.T) {
	all := samples()
	for i, a := range all {
		for k, b := range all {
			want := 0
			if i < k {
				want = -1
			}
			if i > k {
				want = 1
			}
			if got := Compare(a.v, b.v); got != want {
				t.Errorf("Compare(%v, %v) = %d; want %d", a.v, b.v, got, want)
			}
		}
	}
}

func TestP101CompareOfWrong(t *testing.T) {
	for _, w := range wrongs() {
		for _, x := range samples() {
			if a, b := Compare(w, x.v), Compare(x.v, w); a != 0 || b != 0 {
				t.Errorf("Compare of %v and %v = %d, %d; want 0", w, x.v, a, b)
			}
		}
		for _, other := range wrongs() {
			if got := Compare(w, other); got != 0 {
				t.Errorf("Compare(%v, %v) = %d; want 0", w, other, got)
			}
		}
	}
}

func TestP101Show(t *testing.T) {
	for _, x := range samples() {
		if got := Show(x.v); got != x.shown {
			t.Errorf("Show(%v) = %q; want %q", x.v, got, x.shown)
		}
	}
	for _, v := range wrongs() {
		if got := Show(v); got != "" {
			t.Errorf("Show(%v) = %q; want nothing", v, got)
		}
	}
}

func TestP102Bytes(t *testing.T) {
	for _, x := range samples() {
		if got := Bytes(x.v); !bytes.Equal(got, x.bytes) {
			t.Errorf("Bytes(%v) = %x; want %x", x.v, got, x.bytes)
		}
	}
	for _, v := range wrongs() {
		if got := Bytes(v); len(got) != 0 {
			t.Errorf("Bytes(%v) = %x; want nothing", v, got)
		}
	}
}

func TestP102ReadBack(t *testing.T) {
	for _, x := range samples() {
		for _, behind := range [][]byte{nil, {0}, {1, 2, 255}, make([]byte, 300)} {
			b := append(slices.Clone(x.bytes), behind...)
			if v, n, e := Read(b); v != x.v || n != len(x.bytes) || e != api.OK {
				t.Errorf("Read(%x) = %v, %d, %d; want %v, %d", b, v, n, e, x.v, len(x.bytes))
			}
		}
	}
}

func TestP102ReadOfTooFew(t *testing.T) {
	for _, x := range samples() {
		for n := range x.bytes {
			// The rest lies in the spare room, which is not read; then there is no such room.
			checkNone(t, x.bytes[:n])
			checkNone(t, x.bytes[:n:n])
		}
	}
	checkNone(t, nil)
	checkNone(t, []byte{})
}

func TestP102ReadOfWrong(t *testing.T) {
	spare := make([]byte, 300)
	for kind := 5; kind <= 255; kind++ {
		checkNone(t, append([]byte{byte(kind)}, spare...))
	}
	for n := 2; n <= 255; n++ {
		checkNone(t, []byte{api.Bool, byte(n)})
	}
	for n := api.ENone + 1; n <= 255; n++ {
		checkNone(t, []byte{api.Error, byte(n)})
	}
	checkNone(t, []byte{api.Error, 0})
	for n := api.MaxText + 1; n <= 255; n++ {
		checkNone(t, append([]byte{api.Text, byte(n)}, spare...))
	}
}

// What Read tells of any bytes is what Bytes writes as these.
func TestP102ReadOfAny(t *testing.T) {
	b := make([]byte, 12)
	state := uint32(7)
	for range 20000 {
		for i := range b {
			state = state*1664525 + 1013904223
			b[i] = byte(state >> 24)
		}
		b[0] %= 6
		b[1] %= 16
		v, n, e := Read(b)
		if e != api.OK {
			checkNone(t, b)
			continue
		}
		if !Right(v) || n < 1 || n > len(b) || !bytes.Equal(Bytes(v), b[:n]) {
			t.Fatalf("Read(%x) = %v, %d", b, v, n)
		}
	}
}

func TestP103ReadKeepsNothing(t *testing.T) {
	for _, x := range samples() {
		// The bytes lie within a greater list, whose rest is not to be touched either.
		whole := append(slices.Clone(x.bytes), 9, 9, 9)
		before := slices.Clone(whole)
		v, _, _ := Read(whole[:len(x.bytes)])
		if !bytes.Equal(whole, before) {
			t.Errorf("Read(%x) left %x", before, whole)
		}
		for i := range whole {
			whole[i] = '#'
		}
		if v != x.v {
			t.Errorf("Read(%x) turned with its argument: %v", before, v)
		}
	}
}

func TestP103BytesAreNew(t *testing.T) {
	for _, x := range samples() {
		first := Bytes(x.v)
		for i := range first[:cap(first)] {
			first[:cap(first)][i] = '#'
		}
		if got := Bytes(x.v); !bytes.Equal(got, x.bytes) {
			t.Errorf("Bytes(%v) = %x behind a turned answer", x.v, got)
		}
	}
}

func TestP103ShownTextIsNew(t *testing.T) {
	s := strings.Repeat("a", 50)
	if shown := Show(text(s)); shown != s || unsafe.StringData(shown) == unsafe.StringData(s) {
		t.Errorf("Show = %q, of the argument's memory", shown)
	}
}

// A call answers the same whatever was asked ahead of it.
func TestP103SameAgain(t *testing.T) {
	all := samples()
	for i := range all {
		for _, x := range []sample{all[i], all[len(all)-1-i]} {
			for _, w := range wrongs() {
				Show(w)
				Bytes(w)
				Read(Bytes(w))
			}
			v, n, e := Read(x.bytes)
			if Show(x.v) != x.shown || !bytes.Equal(Bytes(x.v), x.bytes) || v != x.v || n != len(x.bytes) || e != api.OK {
				t.Errorf("%v: another answer: %q, %x, %v", x.v, Show(x.v), Bytes(x.v), v)
			}
		}
	}
}
