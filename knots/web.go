package knots

import (
	"slices"

	"abacist/api"
	"abacist/deps"
)

// web has which cells read which. A cell is its place in cells: places that rise are cells by addr.Less, so the least place of a knot is its first cell's. That place is the knot's head, and stands for the knot.
type web struct {
	cells   []api.Cell
	reads   [][]int
	readers [][]int
}

// webOf tells which of the cells of l read which.
func webOf(l []api.Entry) web {
	d := deps.New(l)
	cells := d.Cells()
	places := map[api.Cell]int{}
	for place, c := range cells {
		places[c] = place
	}
	w := web{cells: cells, reads: make([][]int, len(cells)), readers: make([][]int, len(cells))}
	for reader, c := range cells {
		for _, read := range d.Reads(c) {
			place := places[read]
			w.reads[reader] = append(w.reads[reader], place)
			w.readers[place] = append(w.readers[place], reader)
		}
	}
	return w
}

// heads tells the head of each place's knot.
func (w web) heads() []int {
	heads := make([]int, len(w.cells))
	for place := range heads {
		heads[place] = none
	}
	// Of the knots that are left, the last place that was finished is of one that no other one reads, so that its readers, and theirs, are that knot.
	for _, last := range slices.Backward(w.finished()) {
		if heads[last] != none {
			continue
		}
		knot := w.hangingOn(last, heads)
		head := slices.Min(knot)
		for _, place := range knot {
			heads[place] = head
		}
	}
	return heads
}

// none is the head of a place whose knot is not known yet.
const none = -1

// hangingOn tells start and all that hangs on it, of the places whose heads are not known yet; their heads are start from now on.
func (w web) hangingOn(start int, heads []int) []int {
	heads[start] = start
	found := []int{start}
	for i := 0; i < len(found); i++ {
		for _, reader := range w.readers[found[i]] {
			if heads[reader] == none {
				heads[reader] = start
				found = append(found, reader)
			}
		}
	}
	return found
}

// finished tells all places, each as soon as all that it reads was gone into. A list of its own takes the place of calls within calls: there may be more cells in a row than these can go.
func (w web) finished() []int {
	seen := make([]bool, len(w.cells))
	done := make([]int, len(w.cells)) // how many of what each reads was looked at
	out := make([]int, 0, len(w.cells))
	for start := range w.cells {
		if seen[start] {
			continue
		}
		seen[start] = true
		path := []int{start}
		for len(path) > 0 {
			last := path[len(path)-1]
			if done[last] == len(w.reads[last]) {
				path = path[:len(path)-1]
				out = append(out, last)
				continue
			}
			read := w.reads[last][done[last]]
			done[last]++
			if !seen[read] {
				seen[read] = true
				path = append(path, read)
			}
		}
	}
	return out
}

// waits tells of each head how often its knot's cells read cells of other knots.
func (w web) waits(heads []int) []int {
	out := make([]int, len(heads))
	for place, head := range heads {
		for _, read := range w.reads[place] {
			if heads[read] != head {
				out[head]++
			}
		}
	}
	return out
}

// freed takes the knot at places off the waits of those that read it, and tells the heads of those that now wait for none.
func (w web) freed(places, heads, waits []int) []int {
	var out []int
	for _, place := range places {
		for _, reader := range w.readers[place] {
			head := heads[reader]
			if head == heads[place] {
				continue
			}
			waits[head]--
			if waits[head] == 0 {
				out = append(out, head)
			}
		}
	}
	return out
}

// membersOf tells of each head the places of its knot, rising.
func membersOf(heads []int) [][]int {
	out := make([][]int, len(heads))
	for place, head := range heads {
		out[head] = append(out[head], place)
	}
	return out
}
