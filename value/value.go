// Package value is layer 1: see the document's chapter.
package value

import (
	"cmp"
	"strconv"
	"strings"

	"abacist/api"
)

// intBytes is how many bytes the number of an Int has.
const intBytes = 8

// faultNames are the Errors as they are shown.
var faultNames = [...]string{
	api.EOver: "#OVER",
	api.EDiv:  "#DIV",
	api.EType: "#TYPE",
	api.ERef:  "#REF",
	api.EName: "#NAME",
	api.EArgs: "#ARGS",
	api.ENone: "#NONE",
}

// Right tells whether v is a value that may be.
func Right(v api.Value) bool {
	switch v.Kind {
	case api.Blank:
		return v.N == 0 && v.S == ""
	case api.Int:
		return v.S == ""
	case api.Text:
		return v.N == 0 && len(v.S) <= api.MaxText
	case api.Bool:
		return (v.N == 0 || v.N == 1) && v.S == ""
	case api.Error:
		return v.N >= api.EOver && v.N <= api.ENone && v.S == ""
	}
	return false
}

// Compare tells which of two values is ahead: -1 for a, 1 for b, 0 if they are the same, or if one of them may not be.
func Compare(a, b api.Value) int {
	if !Right(a) || !Right(b) {
		return 0
	}
	return cmp.Or(cmp.Compare(a.Kind, b.Kind), cmp.Compare(a.N, b.N), cmp.Compare(a.S, b.S))
}

// Show tells v as a user sees it; what may not be is seen as nothing.
func Show(v api.Value) string {
	if !Right(v) {
		return ""
	}
	switch v.Kind {
	case api.Int:
		return strconv.Itoa(v.N)
	case api.Text:
		// What is answered shares no memory with what was handed in.
		return strings.Clone(v.S)
	case api.Bool:
		return showBool(v.N)
	case api.Error:
		return faultNames[v.N]
	}
	return ""
}

func showBool(n int) string {
	if n == 0 {
		return "FALSE"
	}
	return "TRUE"
}

// Bytes writes v; what may not be has no bytes.
func Bytes(v api.Value) []byte {
	if !Right(v) {
		return nil
	}
	out := []byte{byte(v.Kind)}
	switch v.Kind {
	case api.Int:
		return appendInt(out, v.N)
	case api.Text:
		out = append(out, byte(len(v.S)))
		return append(out, v.S...)
	case api.Bool, api.Error:
		return append(out, byte(v.N))
	}
	return out
}

func appendInt(out []byte, n int) []byte {
	for shift := 8 * (intBytes - 1); shift >= 0; shift -= 8 {
		out = append(out, byte(uint64(n)>>shift))
	}
	return out
}

// Read reads the value at the beginning of b, and tells how many bytes it has.
func Read(b []byte) (api.Value, int, api.Errno) {
	v, size := readAny(b)
	// The bytes may be enough and yet tell what Bytes never writes: a Bool of 2, an Error of 0, too long a text.
	if size == 0 || !Right(v) {
		return api.Value{}, 0, api.ErrBytes
	}
	return v, size, api.OK
}

// readAny reads a value that need not be Right; its size is 0 where b has too few bytes, or is of no kind.
func readAny(b []byte) (api.Value, int) {
	if len(b) == 0 {
		return api.Value{}, 0
	}
	kind, rest := int(b[0]), b[1:]
	switch kind {
	case api.Blank:
		return api.Value{}, 1
	case api.Int:
		if len(rest) >= intBytes {
			return api.Value{Kind: kind, N: readInt(rest[:intBytes])}, 1 + intBytes
		}
	case api.Text:
		if len(rest) > 0 && len(rest) > int(rest[0]) {
			long := int(rest[0])
			return api.Value{Kind: kind, S: string(rest[1 : 1+long])}, 2 + long
		}
	case api.Bool, api.Error:
		if len(rest) > 0 {
			return api.Value{Kind: kind, N: int(rest[0])}, 2
		}
	}
	return api.Value{}, 0
}

func readInt(b []byte) int {
	n := uint64(0)
	for _, x := range b {
		n = n<<8 | uint64(x)
	}
	return int(n)
}
