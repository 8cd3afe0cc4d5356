package shard

import (
	"encoding/binary"
	"fmt"
	"hash/fnv"
	"math"
	"math/big"
	"slices"
	"strings"
	"sync"
	"testing"

	"abacist/addr"
	"abacist/api"
)

func at(sheet string, col, row int) api.Cell { return api.Cell{Sheet: sheet, Col: col, Row: row} }

// edges are numbers at which something could go otherwise.
func edges() []int {
	return []int{
		math.MinInt, math.MinInt + 1, -1<<32 - 1, -1 << 32, -1<<31 - 1, -1 << 31, -257, -256, -2, -1, 0, 1, 2, 6, 127, 128, 255, 256, 257,
		api.MaxCol, api.MaxRow, 1<<16 - 1, 1 << 16, 1 << 24, 1<<31 - 1, 1 << 31, 1<<32 - 1, 1 << 32, 1<<32 + 1, math.MaxInt - 1, math.MaxInt,
	}
}

// sheets are names of sheets, and texts that are none.
func sheets() []string {
	return []string{"", "s", "t", "st", "ts", "abcdefgh", "a1", "A", "\x00", "s\x00", "\xff", "é", "日本", strings.Repeat("z", 1000)}
}

// cells are all those of sheets and edges.
func cells() []api.Cell {
	var out []api.Cell
	for _, sheet := range sheets() {
		for _, col := range edges() {
			for _, row := range edges() {
				out = append(out, at(sheet, col, row))
			}
		}
	}
	return out
}

// chance makes numbers, the same ones each time.
type chance uint32

func (c *chance) below(n int) int {
	*c = *c*1664525 + 1013904223
	return int(*c>>9) % n
}

// list is so many cells that may be, some of them more than once.
func (c *chance) list(n int) []api.Cell {
	var out []api.Cell
	for range n {
		out = append(out, at([]string{"s", "t", "abcdefgh"}[c.below(3)], 1+c.below(12), 1+c.below(12)))
	}
	return out
}

// hashOf is Hash by the promise's words, told by another's hand: the bytes are written, then hashed by FNV-1a, which begins and goes on as the promise does.
func hashOf(c api.Cell) uint32 {
	b := []byte(c.Sheet)
	b = binary.LittleEndian.AppendUint32(b, uint32(c.Col&math.MaxUint32))
	b = binary.LittleEndian.AppendUint32(b, uint32(c.Row&math.MaxUint32))
	h := fnv.New32a()
	h.Write(b)
	return h.Sum32()
}

// workerOf is Worker by the promise's words, in numbers that never wrap round.
func workerOf(c api.Cell, workers int) int {
	if workers < 1 {
		return -1
	}
	return int(new(big.Int).Mod(big.NewInt(int64(hashOf(c))), big.NewInt(int64(workers))).Int64())
}

// mineOf is Mine by the promise's words.
func mineOf(l []api.Cell, worker, workers int) []api.Cell {
	return slices.DeleteFunc(slices.Clone(l), func(c api.Cell) bool { return workerOf(c, workers) != worker })
}

// Numbers written out, so that no code in common with Hash can be wrong along with it.
func TestP1801HashNumbers(t *testing.T) {
	for _, x := range []struct {
		c    api.Cell
		want uint32
	}{
		{api.Cell{}, 2615243109},
		// The bytes of "chongo was here!\n", whose hash is well known.
		{at("chongo wa", 's'|' '<<8|'h'<<16|'e'<<24, 'r'|'e'<<8|'!'<<16|'\n'<<24), 0xd49930d5},
	} {
		if got := Hash(x.c); got != x.want {
			t.Errorf("Hash(%v) = %d, not %d", x.c, got, x.want)
		}
	}
}

func TestP1801HashSteps(t *testing.T) {
	want := uint32(2166136261)
	for _, b := range []byte{'s', '2', 0x04, 0x03, 0x02, 0x01, 0xfe, 0xff, 0xff, 0xff} {
		want ^= uint32(b)
		want *= 16777619
	}
	if got := Hash(at("s2", 0x01020304, -2)); got != want {
		t.Errorf("Hash = %d, not %d", got, want)
	}
}

func TestP1801HashAny(t *testing.T) {
	for _, c := range cells() {
		if got, want := Hash(c), hashOf(c); got != want {
			t.Fatalf("Hash(%q, %d, %d) = %d, not %d", c.Sheet, c.Col, c.Row, got, want)
		}
	}
	c := chance(18)
	for _, x := range c.list(2000) {
		if got, want := Hash(x), hashOf(x); got != want {
			t.Fatalf("Hash(%v) = %d, not %d", x, got, want)
		}
	}
}

// What is above a number's low 32 bits is not looked at; each of these is.
func TestP1801HashBits(t *testing.T) {
	const col, row = 0x00c0ffee, 0x00facade
	want := Hash(at("s", col, row))
	for bit := range 64 {
		flip := int(uint64(1) << bit)
		for _, c := range []api.Cell{at("s", col^flip, row), at("s", col, row^flip)} {
			if got := Hash(c); (got == want) != (bit >= 32) {
				t.Errorf("bit %d: Hash(%v) = %d, of that without %d", bit, c, got, want)
			}
		}
	}
	for _, n := range []int{-1 << 32, 1 << 32, 5 << 32, math.MinInt} {
		if Hash(at("s", 3+n, 4)) != Hash(at("s", 3, 4)) || Hash(at("s", 3, 4+n)) != Hash(at("s", 3, 4)) {
			t.Errorf("%d is looked at", n)
		}
	}
}

// Sheet, Col and Row each have their place.
func TestP1801HashPlaces(t *testing.T) {
	for _, x := range [][2]api.Cell{
		{at("s", 1, 2), at("s", 2, 1)},
		{at("st", 1, 2), at("ts", 1, 2)},
		{at("s", 0, 1), at("s", 1, 0)},
		{at("s", 1<<8, 0), at("s", 1, 0)},
		{at("s", 1, 1), at("t", 1, 1)},
		{at("", 1, 1), at("\x00", 1, 1)},
		{at("s", 1, 1), at("S", 1, 1)},
		{at("é", 1, 1), at("\xe9", 1, 1)},
		{at("\xff", 1, 1), at("\ufffd", 1, 1)},
	} {
		if Hash(x[0]) == Hash(x[1]) {
			t.Errorf("Hash(%v) = Hash(%v) = %d", x[0], x[1], Hash(x[0]))
		}
	}
}

func TestP1801Example(t *testing.T) {
	for _, c := range cells() {
		if got := Worker(c, 1); got != 0 {
			t.Fatalf("Worker(%v, 1) = %d", c, got)
		}
	}
}

func TestP1801Worker(t *testing.T) {
	l := append([]api.Cell{{}}, cells()[:2000]...)
	for workers := range api.MaxWorkers + 2 {
		for _, c := range l {
			got, want := Worker(c, workers), workerOf(c, workers)
			if got != want {
				t.Fatalf("Worker(%v, %d) = %d, not %d", c, workers, got, want)
			}
		}
	}
	// The hash is 2615243109, which is below 0 as a number of 32 bits.
	for _, x := range [][2]int{{1, 0}, {2, 1}, {3, 0}, {4, 1}, {5, 4}, {6, 3}, {7, 3}, {10, 9}, {1000, 109}, {1 << 31, 2615243109 - 1<<31}} {
		if got := Worker(api.Cell{}, x[0]); got != x[1] {
			t.Errorf("Worker of %d: %d, not %d", x[0], got, x[1])
		}
	}
}

// Below 1 there are none: -1. Above all hashes the worker is the hash.
func TestP1801WorkerEdges(t *testing.T) {
	c := chance(1801)
	for _, x := range append(c.list(50), api.Cell{}, at("é", -1, math.MinInt)) {
		for _, workers := range []int{0, -1, -2, -6, -1 << 31, -1 << 32, math.MinInt} {
			if got := Worker(x, workers); got != -1 {
				t.Errorf("Worker(%v, %d) = %d", x, workers, got)
			}
		}
		for _, workers := range []int{1 << 32, 1<<32 + 1, 1 << 33, math.MaxInt} {
			if got := Worker(x, workers); got != int(hashOf(x)) {
				t.Errorf("Worker(%v, %d) = %d", x, workers, got)
			}
		}
		for _, workers := range edges() {
			if got, want := Worker(x, workers), workerOf(x, workers); got != want {
				t.Errorf("Worker(%v, %d) = %d, not %d", x, workers, got, want)
			}
		}
	}
}

func TestP1801Mine(t *testing.T) {
	c := chance(181)
	for range 40 {
		l := c.list(c.below(80))
		for workers := -1; workers <= api.MaxWorkers+1; workers++ {
			for worker := -2; worker <= workers+1; worker++ {
				if got, want := Mine(l, worker, workers), mineOf(l, worker, workers); !slices.Equal(got, want) {
					t.Fatalf("Mine(%v, %d, %d) = %v, not %v", l, worker, workers, got, want)
				}
			}
		}
	}
}

// In order, be it by addr.Less or not, and as often as they are there.
func TestP1801MineOrder(t *testing.T) {
	a, b := at("s", 1, 1), at("s", 1, 2)
	for b.Row < api.MaxRow && Worker(a, 2) != Worker(b, 2) {
		b.Row++
	}
	other := at("t", 1, 1)
	for other.Row < api.MaxRow && Worker(a, 2) == Worker(other, 2) {
		other.Row++
	}
	one := Worker(a, 2)
	for _, x := range [][2][]api.Cell{
		{{a, b}, {a, b}},
		{{b, a}, {b, a}},
		{{b, other, a}, {b, a}},
		{{other, a, other}, {a}},
		{{a, other, a, b, other, a}, {a, a, b, a}},
		{{other, other}, nil},
	} {
		if got := Mine(x[0], one, 2); !slices.Equal(got, x[1]) {
			t.Errorf("Mine(%v) = %v, not %v", x[0], got, x[1])
		}
	}
}

// A worker that isn't there has nothing, whichever number it is.
func TestP1801MineNone(t *testing.T) {
	c := chance(182)
	l := append(c.list(100), api.Cell{}, at("", math.MinInt, math.MaxInt))
	for _, worker := range []int{math.MinInt, -1 << 32, -2, -1, 3, 4, 1 << 32, 1<<32 + 1, math.MaxInt} {
		if got := Mine(l, worker, 3); len(got) != 0 {
			t.Errorf("Mine of worker %d of 3: %v", worker, got)
		}
	}
	// Where there are no workers each cell's Worker is -1, so -1 has them all.
	for _, workers := range []int{0, -1, math.MinInt} {
		if got := Mine(l, -1, workers); !slices.Equal(got, l) {
			t.Errorf("Mine of -1 of %d: %d cells", workers, len(got))
		}
		for _, worker := range []int{0, 1, workers - 2, math.MaxInt} {
			if got := Mine(l, worker, workers); len(got) != 0 {
				t.Errorf("Mine of %d of %d: %v", worker, workers, got)
			}
		}
	}
	for _, none := range [][]api.Cell{nil, {}} {
		for worker := -1; worker <= 1; worker++ {
			if got := Mine(none, worker, worker); len(got) != 0 {
				t.Errorf("Mine of nothing: %v", got)
			}
		}
	}
}

// Each cell is one worker's, and no other's.
func TestP1801MineAll(t *testing.T) {
	l := addr.Cells(api.Range{From: at("s", 1, 1), To: at("s", 20, 20)})
	for workers := 1; workers <= api.MaxWorkers; workers++ {
		var all []api.Cell
		for worker := range workers {
			mine := Mine(l, worker, workers)
			if !slices.IsSortedFunc(mine, func(a, b api.Cell) int { return slices.Index(l, a) - slices.Index(l, b) }) {
				t.Errorf("worker %d of %d: not in order", worker, workers)
			}
			all = append(all, mine...)
		}
		if len(all) != len(l) {
			t.Errorf("%d workers: %d cells of %d", workers, len(all), len(l))
		}
		for _, c := range l {
			if !slices.Contains(all, c) {
				t.Errorf("%d workers: %v is nobody's", workers, c)
			}
		}
	}
	if got := Mine(l, 0, 1); !slices.Equal(got, l) {
		t.Errorf("one worker has %d of %d", len(got), len(l))
	}
}

// mark stands in spare room.
var mark = at("mark", 77, 77)

// room is l with spare room behind it, which holds marks.
func room(l []api.Cell) []api.Cell {
	return append(slices.Clone(l), mark, mark)[:len(l)]
}

// What is handed in stays as it is, the spare room behind it, too.
func TestP1802HandedInStays(t *testing.T) {
	c := chance(1802)
	was := c.list(60)
	l := room(was)
	for workers := range 4 {
		for worker := -1; worker < workers; worker++ {
			Mine(l, worker, workers)
			Mine(l[:20], worker, workers)
		}
	}
	if !slices.Equal(l, was) || !slices.Equal(l[len(l):len(l)+2], []api.Cell{mark, mark}) {
		t.Errorf("turned: %v", l[:len(l)+2])
	}
}

// What was handed in is not kept: who turns it later turns no answer.
func TestP1802KeepsNothing(t *testing.T) {
	c := chance(18021)
	l := c.list(60)
	was := slices.Clone(l)
	mine := Mine(l, 0, 1)
	some := Mine(l, 1, 3)
	for i := range l {
		l[i] = mark
	}
	if !slices.Equal(mine, was) || !slices.Equal(some, mineOf(was, 1, 3)) {
		t.Errorf("turned: %v, %v", mine, some)
	}
}

// What is answered is new memory, also where all of a list are one's own: who turns it turns nothing else.
func TestP1802NewMemory(t *testing.T) {
	c := chance(18022)
	want := c.list(60)
	l := room(want)
	for _, x := range [][2]int{{0, 1}, {-1, 0}, {1, 3}} {
		one, two := Mine(l, x[0], x[1]), Mine(l, x[0], x[1])
		for i := range one[:cap(one)] {
			one[:cap(one)][i] = mark
		}
		if !slices.Equal(two, mineOf(want, x[0], x[1])) || !slices.Equal(l, want) {
			t.Errorf("Mine of %v: turned", x)
		}
	}
}

// Asked again, and by many at once, each call answers as it does alone.
func TestP1802SameAgain(t *testing.T) {
	c := chance(18023)
	l := c.list(200)
	var want []string
	for workers := range 7 {
		want = append(want, told(l, workers))
	}
	var group sync.WaitGroup
	for range 4 {
		group.Go(func() {
			for workers, was := range slices.Backward(want) {
				if got := told(l, workers); got != was {
					t.Errorf("%d workers: told otherwise", workers)
				}
			}
		})
	}
	group.Wait()
}

// told is all that is told of l, as a text.
func told(l []api.Cell, workers int) string {
	var out strings.Builder
	for worker := -1; worker < workers; worker++ {
		fmt.Fprintln(&out, Mine(l, worker, workers))
	}
	for _, c := range l {
		fmt.Fprintln(&out, Hash(c), Worker(c, workers))
	}
	return out.String()
}
