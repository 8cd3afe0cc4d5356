package tally

import (
	"math"
	"slices"
	"sync"
	"testing"

	"abacist/api"
	"abacist/front"
)

func st(epoch, rank, round int) api.Stamp {
	return api.Stamp{Epoch: epoch, Rank: rank, Round: round}
}

func ch(epoch, rank, round, n int) Change {
	return Change{Stamp: st(epoch, rank, round), N: n}
}

// stamps are all those whose three numbers are of l, by stamp.Less if l rises.
func stamps(l ...int) []api.Stamp {
	var out []api.Stamp
	for _, epoch := range l {
		for _, rank := range l {
			for _, round := range l {
				out = append(out, st(epoch, rank, round))
			}
		}
	}
	return out
}

// chance makes numbers, the same ones each time.
type chance uint32

func (c *chance) below(n int) int {
	*c = *c*1664525 + 1013904223
	return int(*c>>9) % n
}

// changes are so many, of stamps of all.
func (c *chance) changes(n int, all []api.Stamp) []Change {
	var out []Change
	for range n {
		out = append(out, Change{all[c.below(len(all))], c.below(9) - 4})
	}
	return out
}

// mix is l in another order.
func (c *chance) mix(l []Change) []Change {
	var out []Change
	for i, x := range l {
		out = slices.Insert(out, c.below(i+1), x)
	}
	return out
}

// parts shares l out, as it's ordered, on so many lists (some of which may be empty).
func (c *chance) parts(n int, l []Change) [][]Change {
	out := make([][]Change, n)
	for _, x := range l {
		i := c.below(n)
		out[i] = append(out[i], x)
	}
	return out
}

// count is the N of s in all of l together.
func count(s api.Stamp, l []Change) int {
	sum := 0
	for _, x := range l {
		if x.Stamp == s {
			sum += x.N
		}
	}
	return sum
}

// plain is Sum by the promise's words: all has, by stamp.Less, all stamps of l.
func plain(all []api.Stamp, l []Change) []Change {
	var out []Change
	for _, s := range all {
		if n := count(s, l); n != 0 {
			out = append(out, Change{s, n})
		}
	}
	return out
}

// told is a front that was told each of l, by hand.
func told(l []Change) *front.Front {
	f := &front.Front{}
	for _, x := range l {
		f.Add(x.Stamp, x.N)
	}
	return f
}

// applied is a front to which all parts were applied.
func applied(parts ...[]Change) *front.Front {
	f := &front.Front{}
	for _, l := range parts {
		Apply(f, l)
	}
	return f
}

// same holds f to want, at all stamps of all.
func same(t *testing.T, f, want *front.Front, all []api.Stamp) {
	t.Helper()
	if got, want := f.Least(), want.Least(); !slices.Equal(got, want) {
		t.Fatalf("Least = %v, not %v", got, want)
	}
	for _, s := range all {
		if got, want := f.Count(s), want.Count(s); got != want {
			t.Fatalf("Count(%v) = %d, not %d", s, got, want)
		}
		if got, want := f.Passed(s), want.Passed(s); got != want {
			t.Fatalf("Passed(%v) = %v, not %v", s, got, want)
		}
	}
}

func TestP1701Example(t *testing.T) {
	for _, l := range [][][]Change{nil, {}, {nil}, {{}}, {nil, {}, nil}} {
		if got := Sum(l...); len(got) != 0 {
			t.Errorf("Sum of nothing: %v", got)
		}
	}
}

func TestP1701Sum(t *testing.T) {
	for _, x := range []struct {
		l    [][]Change
		want []Change
	}{
		{[][]Change{{ch(1, 2, 3, 4)}}, []Change{ch(1, 2, 3, 4)}},
		{[][]Change{{ch(1, 2, 3, -4)}}, []Change{ch(1, 2, 3, -4)}},
		{[][]Change{{ch(0, 0, 0, 1)}}, []Change{ch(0, 0, 0, 1)}},
		// Of one stamp all together, of one list or of many.
		{[][]Change{{ch(1, 0, 1, 2), ch(1, 0, 1, 5)}}, []Change{ch(1, 0, 1, 7)}},
		{[][]Change{{ch(1, 0, 1, 2)}, {ch(1, 0, 1, 5)}}, []Change{ch(1, 0, 1, 7)}},
		{[][]Change{{ch(1, 0, 1, 2)}, nil, {ch(1, 0, 1, -5)}, {}, {ch(1, 0, 1, 1), ch(1, 0, 1, 1)}}, []Change{ch(1, 0, 1, -1)}},
		{[][]Change{{ch(1, 0, 1, 2), ch(1, 0, 2, 8), ch(1, 0, 1, 3)}, {ch(1, 0, 2, -1)}}, []Change{ch(1, 0, 1, 5), ch(1, 0, 2, 7)}},
		// None that are 0, be it from the beginning on or together.
		{[][]Change{{ch(1, 0, 1, 0)}}, nil},
		{[][]Change{{{}, {}}, {{}}}, nil},
		{[][]Change{{ch(1, 0, 1, 0), ch(1, 0, 1, 0)}, {ch(1, 0, 1, 6), ch(2, 0, 1, 0)}}, []Change{ch(1, 0, 1, 6)}},
		{[][]Change{{ch(1, 0, 1, 3), ch(1, 0, 1, -3)}}, nil},
		{[][]Change{{ch(1, 0, 1, 3)}, {ch(1, 0, 1, -2)}, {ch(1, 0, 1, -1)}}, nil},
		// One that was 0 in between is told, if more came.
		{[][]Change{{ch(1, 0, 1, 3)}, {ch(1, 0, 1, -3)}, {ch(1, 0, 1, -2)}}, []Change{ch(1, 0, 1, -2)}},
		{[][]Change{{ch(1, 0, 1, 3), ch(3, 0, 1, 1), ch(2, 0, 1, 4)}, {ch(2, 0, 1, -4)}}, []Change{ch(1, 0, 1, 3), ch(3, 0, 1, 1)}},
	} {
		if got := Sum(x.l...); !slices.Equal(got, x.want) {
			t.Errorf("Sum(%v) = %v, not %v", x.l, got, x.want)
		}
	}
}

// By Epoch, then Rank, then Round, whatever the Ns are and whatever came first.
func TestP1701SumOrder(t *testing.T) {
	for _, x := range []struct{ a, b Change }{
		{ch(1, 0, 1, 9), ch(2, 0, 1, 1)},
		{ch(1, 0, 1, -9), ch(1, 0, 2, -10)},
		{ch(1, 0, 9, 1), ch(1, 1, 1, 1)},
		{ch(1, 9, 9, 5), ch(2, 0, 0, 5)},
		{ch(9, 0, 0, 1), ch(10, 0, 0, 1)},
		{ch(-2, 5, 5, 1), ch(-1, -5, -5, 1)},
		{ch(0, -1, 0, 1), ch(0, 0, -1, 1)},
		{ch(math.MinInt, math.MaxInt, math.MaxInt, 1), ch(math.MaxInt, math.MinInt, math.MinInt, 1)},
		{ch(0, math.MinInt, 0, 1), ch(0, math.MaxInt, 0, 1)},
		{ch(0, 0, math.MinInt, 1), ch(0, 0, math.MaxInt, 1)},
	} {
		want := []Change{x.a, x.b}
		for _, l := range [][][]Change{{{x.a, x.b}}, {{x.b, x.a}}, {{x.a}, {x.b}}, {{x.b}, {x.a}}} {
			if got := Sum(l...); !slices.Equal(got, want) {
				t.Errorf("Sum(%v) = %v, not %v", l, got, want)
			}
		}
	}
}

// Each of the three numbers makes a stamp another one.
func TestP1701SumEach(t *testing.T) {
	var want []Change
	for i, s := range stamps(math.MinInt, -1<<32, -1, 0, 1, 1<<32, 1<<32+1, math.MaxInt) {
		want = append(want, Change{s, i + 1})
	}
	c := chance(1701)
	if got := Sum(c.mix(want)); !slices.Equal(got, want) {
		t.Errorf("Sum of %d stamps: %d", len(want), len(got))
	}
	back := slices.Clone(want)
	slices.Reverse(back)
	if got := Sum(back[:100], back[100:]); !slices.Equal(got, want) {
		t.Errorf("Sum of %d stamps: %d", len(want), len(got))
	}
}

// Where sums are beyond an int, they go on as a front's counts do.
func TestP1701SumGreat(t *testing.T) {
	s := st(1, 0, 1)
	for _, l := range [][]int{
		{math.MaxInt}, {math.MinInt}, {math.MaxInt, math.MinInt}, {math.MaxInt, 1}, {math.MaxInt, math.MaxInt, -math.MaxInt},
		{math.MinInt, math.MinInt}, {math.MinInt, -1}, {math.MaxInt, math.MaxInt, 2}, {math.MinInt, math.MinInt, math.MinInt, 5},
	} {
		var parts [][]Change
		for _, n := range l {
			parts = append(parts, []Change{{s, n}})
		}
		var want []Change
		if n := applied(parts...).Count(s); n != 0 {
			want = []Change{{s, n}}
		}
		sum := Sum(parts...)
		if !slices.Equal(sum, want) {
			t.Errorf("Sum of %v: %v, not %v", l, sum, want)
		}
		same(t, applied(sum), applied(parts...), []api.Stamp{s, st(0, 0, 0), st(1, 1, 1)})
	}
}

// Whatever is summed, it's told by the promise's words.
func TestP1701SumByChance(t *testing.T) {
	c := chance(17)
	for _, numbers := range [][]int{{0, 1, 2}, {-1, 0, 1, 12}, {math.MinInt, 0, math.MaxInt}, {1}} {
		all := stamps(numbers...)
		for range 200 {
			l := c.changes(c.below(60), all)
			parts := c.parts(1+c.below(8), l)
			if got, want := Sum(parts...), plain(all, l); !slices.Equal(got, want) {
				t.Fatalf("Sum(%v) = %v, not %v", parts, got, want)
			}
		}
	}
}

// Many lists, and great ones.
func TestP1701SumLong(t *testing.T) {
	const n = 300
	var parts [][]Change
	var want []Change
	for i := range n {
		var l []Change
		for k := range n {
			l = append(l, ch(n-k, i, 1, 1), ch(0, 0, k, i-k))
		}
		parts = append(parts, l)
	}
	for k := range n {
		if sum := n*(n-1)/2 - n*k; sum != 0 {
			want = append(want, ch(0, 0, k, sum))
		}
	}
	for k := range n {
		for i := range n {
			want = append(want, ch(k+1, i, 1, 1))
		}
	}
	if got := Sum(parts...); !slices.Equal(got, want) {
		t.Errorf("%d are told, not %d", len(got), len(want))
	}
}

func TestP1701Apply(t *testing.T) {
	a, b, c := st(1, 0, 1), st(1, 0, 2), st(2, 0, 1)
	all := []api.Stamp{a, b, c, st(1, 1, 1), {}}
	f := &front.Front{}
	for i, x := range []struct {
		l     []Change
		want  [3]int
		least []api.Stamp
	}{
		{nil, [3]int{}, nil},
		{[]Change{}, [3]int{}, nil},
		{[]Change{{a, 0}}, [3]int{}, nil},
		{[]Change{{b, 2}}, [3]int{0, 2, 0}, []api.Stamp{b}},
		{[]Change{{c, 1}, {b, 3}}, [3]int{0, 5, 1}, []api.Stamp{b, c}},
		// Each one, also the same one again.
		{[]Change{{a, 1}, {a, 1}, {b, -1}, {a, 1}}, [3]int{3, 4, 1}, []api.Stamp{a}},
		{nil, [3]int{3, 4, 1}, []api.Stamp{a}},
		{[]Change{{a, -3}, {b, 0}, {c, -1}}, [3]int{0, 4, 0}, []api.Stamp{b}},
		{[]Change{{b, -9}, {c, 1}}, [3]int{0, -5, 1}, []api.Stamp{c}},
		{[]Change{{b, 5}, {c, -1}}, [3]int{}, nil},
	} {
		Apply(f, x.l)
		if got := [3]int{f.Count(a), f.Count(b), f.Count(c)}; got != x.want || !slices.Equal(f.Least(), x.least) {
			t.Errorf("step %d: counts %v, not %v, Least %v, not %v", i, got, x.want, f.Least(), x.least)
		}
		for _, s := range all[3:] {
			if f.Count(s) != 0 {
				t.Errorf("step %d: Count(%v) = %d", i, s, f.Count(s))
			}
		}
	}
}

// Apply is as if each were Added, to a front that was told other things, too.
func TestP1701ApplyByChance(t *testing.T) {
	c := chance(171)
	for _, numbers := range [][]int{{0, 1, 2}, {math.MinInt, 0, math.MaxInt}} {
		all := stamps(numbers...)
		for range 100 {
			before, l := c.changes(c.below(30), all), c.changes(c.below(30), all)
			f := told(before)
			Apply(f, l)
			same(t, f, told(slices.Concat(before, l)), all)
		}
	}
}

// A front that is nil is told nothing.
func TestP1701ApplyNil(t *testing.T) {
	l := []Change{ch(1, 0, 1, 3), ch(math.MinInt, math.MaxInt, 0, math.MinInt), {}}
	Apply(nil, l)
	Apply(nil, nil)
	Apply(&front.Front{}, nil)
	if !slices.Equal(l, []Change{ch(1, 0, 1, 3), ch(math.MinInt, math.MaxInt, 0, math.MinInt), {}}) {
		t.Errorf("turned: %v", l)
	}
	var none *front.Front
	if none.Count(st(1, 0, 1)) != 0 || len(none.Least()) != 0 || !none.Passed(st(9, 9, 9)) {
		t.Error("a nil front was told something")
	}
}

// Whichever way changes are shared out and ordered, summed or not, the front is the same.
func TestP1702AnyWay(t *testing.T) {
	c := chance(1702)
	all := stamps(-1, 0, 1)
	for range 60 {
		l := c.changes(c.below(50), all)
		want := told(l)
		parts := c.parts(1+c.below(6), c.mix(l))
		var sums [][]Change
		for _, p := range parts {
			sums = append(sums, Sum(p))
		}
		same(t, applied(l), want, all)
		same(t, applied(c.mix(l)), want, all)
		same(t, applied(parts...), want, all)
		same(t, applied(Sum(parts...)), want, all)
		same(t, applied(sums...), want, all)
		same(t, applied(c.mix(Sum(sums...))), want, all)
		if got := Sum(sums...); !slices.Equal(got, Sum(l)) || !slices.Equal(got, Sum(got)) {
			t.Fatalf("Sum of sums: %v, not %v", got, Sum(l))
		}
	}
}

// room is l with spare room behind it, which holds a mark.
func room(l []Change) []Change {
	out := append(slices.Clone(l), mark, mark)
	return out[:len(l)]
}

var mark = ch(77, 77, 77, 77)

// What is handed in stays as it is, the spare room behind it, too.
func TestP1702HandedInStays(t *testing.T) {
	lists := [][]Change{{ch(2, 0, 1, 3), ch(1, 0, 1, 1), ch(2, 0, 1, -3)}, {}, {ch(0, 5, 1, 0), ch(0, 4, 1, 2)}}
	var parts [][]Change
	for _, l := range lists {
		parts = append(parts, room(l))
	}
	outer := append(parts, []Change{mark})[:len(parts)]
	Sum(outer...)
	f := &front.Front{}
	for _, p := range parts {
		Apply(f, p)
	}
	for i, p := range parts {
		if !slices.Equal(p, lists[i]) || !slices.Equal(p[len(p):len(p)+2], []Change{mark, mark}) {
			t.Errorf("turned: %v", p[:len(p)+2])
		}
		if len(outer[i]) != len(lists[i]) {
			t.Errorf("list %d is of %d", i, len(outer[i]))
		}
	}
	if got := outer[:len(parts)+1][len(parts)]; !slices.Equal(got, []Change{mark}) {
		t.Errorf("the spare room is turned: %v", got)
	}
}

// What was handed in is not kept: who turns it later turns no front and no sum.
func TestP1702KeepsNothing(t *testing.T) {
	l := []Change{ch(1, 0, 1, 1), ch(2, 0, 1, 2)}
	f := applied(l)
	sum := Sum(l)
	l[0], l[1] = ch(0, 0, 0, 9), ch(1, 0, 1, 9)
	if !slices.Equal(sum, []Change{ch(1, 0, 1, 1), ch(2, 0, 1, 2)}) {
		t.Errorf("Sum is turned: %v", sum)
	}
	same(t, f, told(sum), append(stamps(0, 1, 2), st(2, 0, 1)))
}

// What is answered is new memory, also of one list that is its own sum: who turns it turns nothing else.
func TestP1702NewMemory(t *testing.T) {
	want := []Change{ch(1, 0, 1, 1), ch(1, 0, 2, -2), ch(3, 0, 1, 3)}
	l := room(want)
	one, two := Sum(l), Sum(l)
	f := applied(one)
	for i := range one[:cap(one)] {
		one[:cap(one)][i] = ch(99, 99, 99, 99)
	}
	one = append(one[:1], mark)
	if !slices.Equal(two, want) || !slices.Equal(l, want) || !slices.Equal(Sum(l), want) {
		t.Errorf("turned by %v: %v, %v", one, two, l)
	}
	same(t, f, told(want), []api.Stamp{st(1, 0, 1), st(1, 0, 2), st(3, 0, 1), st(99, 99, 99)})
}

// Asked again, and by many at once, each call answers as it does alone.
func TestP1702SameAgain(t *testing.T) {
	c := chance(172)
	all := stamps(0, 1, 2)
	var parts [4][][]Change
	var sums [4][]Change
	for i := range parts {
		parts[i] = c.parts(5, c.changes(200, all))
		sums[i] = Sum(parts[i]...)
	}
	var group sync.WaitGroup
	for i, p := range parts {
		for range 3 {
			group.Go(func() {
				if got := Sum(p...); !slices.Equal(got, sums[i]) {
					t.Errorf("told otherwise: %v, not %v", got, sums[i])
				}
				f := applied(p...)
				for _, s := range all {
					if got, want := f.Count(s), count(s, sums[i]); got != want {
						t.Errorf("Count(%v) = %d, not %d", s, got, want)
					}
				}
			})
		}
	}
	group.Wait()
}

// Two fronts that the same changes are applied to have nothing in common.
func TestP1702Apart(t *testing.T) {
	l := []Change{ch(1, 0, 1, 1), ch(1, 1, 1, 2)}
	a, b := applied(l), applied(l)
	Apply(a, []Change{ch(1, 0, 1, -1), ch(2, 0, 0, 1)})
	same(t, b, told(l), append(stamps(0, 1), st(2, 0, 0)))
	if got := a.Least(); !slices.Equal(got, []api.Stamp{st(1, 1, 1), st(2, 0, 0)}) {
		t.Errorf("Least = %v", got)
	}
}
