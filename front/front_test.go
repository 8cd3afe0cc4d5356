package front

import (
	"math"
	"slices"
	"sync"
	"testing"

	"abacist/api"
)

func st(epoch, rank, round int) api.Stamp {
	return api.Stamp{Epoch: epoch, Rank: rank, Round: round}
}

// add is what a front is told.
type add struct {
	s api.Stamp
	n int
}

// front is one that was told all of l.
func front(l ...add) *Front {
	f := &Front{}
	for _, a := range l {
		f.Add(a.s, a.n)
	}
	return f
}

// ones is a front that counts each of l once.
func ones(l ...api.Stamp) *Front {
	f := &Front{}
	for _, s := range l {
		f.Add(s, 1)
	}
	return f
}

// stamps are all those whose three numbers are of l, by stamp.Less if l rises.
func stamps(l ...int) []api.Stamp {
	var out []api.Stamp
	for _, epoch := range l {
		for _, rank := range l {
			for _, round := range l {
				out = append(out, st(epoch, rank, round))
			}
		}
	}
	return out
}

// chance makes numbers, the same ones each time.
type chance uint32

func (c *chance) below(n int) int {
	*c = *c*1664525 + 1013904223
	return int(*c>>9) % n
}

func pick[T any](c *chance, l []T) T { return l[c.below(len(l))] }

// plain is a front by the promise's words: all that it was told, gone through anew for each answer.
type plain []add

func (p plain) count(s api.Stamp) int {
	sum := 0
	for _, a := range p {
		if a.s == s {
			sum += a.n
		}
	}
	return sum
}

func within(a, b api.Stamp) bool {
	return !(a.Epoch > b.Epoch || a.Rank > b.Rank || a.Round > b.Round)
}

// anyWithin tells whether some stamp whose count is above 0, but not s itself where others is set, is Within s.
func (p plain) anyWithin(s api.Stamp, others bool) bool {
	return slices.ContainsFunc(p, func(a add) bool {
		return p.count(a.s) > 0 && within(a.s, s) && !(others && a.s == s)
	})
}

// least goes through all, which has by stamp.Less all that p was told of.
func (p plain) least(all []api.Stamp) []api.Stamp {
	var out []api.Stamp
	for _, s := range all {
		if p.count(s) > 0 && !p.anyWithin(s, true) {
			out = append(out, s)
		}
	}
	return out
}

// check holds f to p, at all stamps of all.
func check(t *testing.T, f *Front, p plain, all []api.Stamp) {
	t.Helper()
	if got, want := f.Least(), p.least(all); !slices.Equal(got, want) {
		t.Fatalf("told %v: Least = %v, not %v", p, got, want)
	}
	for _, s := range all {
		if got, want := f.Count(s), p.count(s); got != want {
			t.Fatalf("told %v: Count(%v) = %d, not %d", p, s, got, want)
		}
		if got, want := f.Passed(s), !p.anyWithin(s, false); got != want {
			t.Fatalf("told %v: Passed(%v) = %v", p, s, got)
		}
	}
}

func TestP1601Example(t *testing.T) {
	if got := (&Front{}).Least(); len(got) != 0 {
		t.Errorf("Least of an empty one: %v", got)
	}
}

func TestP1601Empty(t *testing.T) {
	var zero Front
	for _, f := range []*Front{{}, new(Front), &zero, front(add{st(1, 1, 1), 0}), front(add{st(1, 1, 1), 3}, add{st(1, 1, 1), -3})} {
		check(t, f, nil, stamps(math.MinInt, -1, 0, 1, math.MaxInt))
	}
}

func TestP1601Count(t *testing.T) {
	s, other := st(1, 2, 3), st(1, 2, 4)
	f := &Front{}
	for i, x := range []struct{ n, want int }{
		{0, 0}, {1, 1}, {1, 2}, {5, 7}, {-3, 4}, {-4, 0}, {-2, -2}, {0, -2}, {-1, -3}, {4, 1}, {-1, 0}, {math.MaxInt, math.MaxInt}, {-math.MaxInt, 0}, {math.MinInt, math.MinInt}, {math.MaxInt, -1}, {1, 0},
	} {
		f.Add(s, x.n)
		if got := f.Count(s); got != x.want {
			t.Errorf("behind Add %d of them: Count = %d, not %d", i, got, x.want)
		}
		if got := f.Count(other); got != 0 {
			t.Errorf("Count of one that was never told = %d", got)
		}
	}
}

// Each of the three numbers makes a stamp another one.
func TestP1601CountEach(t *testing.T) {
	all := stamps(math.MinInt, -1<<32, -1, 0, 1, 1<<32, 1<<32+1, math.MaxInt)
	f := &Front{}
	for i, s := range all {
		f.Add(s, i-100)
	}
	for i, s := range all {
		if got := f.Count(s); got != i-100 {
			t.Fatalf("Count(%v) = %d, not %d", s, got, i-100)
		}
	}
}

// Where sums are beyond an int, they go on as ints do: in whichever order they come, the front is the same.
func TestP1601CountGreat(t *testing.T) {
	s := st(1, 0, 1)
	for _, l := range [][]int{
		{math.MaxInt, math.MaxInt, -math.MaxInt},
		{math.MaxInt, -math.MaxInt, math.MaxInt},
		{math.MinInt, math.MinInt, math.MaxInt},
		{math.MinInt, -1, math.MinInt, math.MinInt},
	} {
		f := &Front{}
		for _, n := range l {
			f.Add(s, n)
		}
		if got := f.Count(s); got != math.MaxInt || f.Passed(s) || !slices.Equal(f.Least(), []api.Stamp{s}) {
			t.Errorf("told %v: Count = %d, Passed %v, Least %v", l, got, f.Passed(s), f.Least())
		}
	}
}

func TestP1601Least(t *testing.T) {
	for _, x := range []struct {
		told, want []api.Stamp
	}{
		{[]api.Stamp{st(3, 4, 5)}, []api.Stamp{st(3, 4, 5)}},
		{[]api.Stamp{{}}, []api.Stamp{{}}},
		// One that another one is Within is none, be it told ahead of that or behind.
		{[]api.Stamp{st(1, 0, 1), st(1, 0, 2)}, []api.Stamp{st(1, 0, 1)}},
		{[]api.Stamp{st(1, 0, 2), st(1, 0, 1)}, []api.Stamp{st(1, 0, 1)}},
		{[]api.Stamp{st(1, 1, 1), st(1, 0, 1)}, []api.Stamp{st(1, 0, 1)}},
		{[]api.Stamp{st(2, 0, 1), st(1, 0, 1)}, []api.Stamp{st(1, 0, 1)}},
		{[]api.Stamp{st(3, 3, 3), st(2, 2, 2), st(1, 1, 1)}, []api.Stamp{st(1, 1, 1)}},
		// Of two neither of which is Within the other, both are; by Epoch, then Rank, then Round.
		{[]api.Stamp{st(2, 0, 1), st(1, 1, 1)}, []api.Stamp{st(1, 1, 1), st(2, 0, 1)}},
		{[]api.Stamp{st(1, 2, 0), st(1, 1, 9)}, []api.Stamp{st(1, 1, 9), st(1, 2, 0)}},
		{[]api.Stamp{st(10, 0, 0), st(9, 1, 0), st(-1, 2, 0)}, []api.Stamp{st(-1, 2, 0), st(9, 1, 0), st(10, 0, 0)}},
		{[]api.Stamp{st(3, 1, 1), st(1, 3, 1), st(1, 1, 3), st(3, 3, 3)}, []api.Stamp{st(1, 1, 3), st(1, 3, 1), st(3, 1, 1)}},
		// One stays though another one, which went, was ahead of it.
		{[]api.Stamp{st(1, 2, 1), st(2, 1, 2), st(2, 2, 1)}, []api.Stamp{st(1, 2, 1), st(2, 1, 2)}},
		{[]api.Stamp{st(math.MaxInt, math.MinInt, 0), st(math.MinInt, math.MaxInt, 0), st(math.MaxInt, math.MaxInt, 0)}, []api.Stamp{st(math.MinInt, math.MaxInt, 0), st(math.MaxInt, math.MinInt, 0)}},
	} {
		if got := ones(x.told...).Least(); !slices.Equal(got, x.want) {
			t.Errorf("told %v: Least = %v, not %v", x.told, got, x.want)
		}
	}
}

// A count of 0 or below it is as none: it's not among Least, and nothing is behind it.
func TestP1601LeastAbove(t *testing.T) {
	low, high := st(1, 0, 1), st(2, 3, 4)
	for _, n := range []int{math.MinInt, -5, -1, 0} {
		f := front(add{low, n}, add{high, 1})
		if got := f.Least(); !slices.Equal(got, []api.Stamp{high}) || f.Passed(high) || !f.Passed(low) {
			t.Errorf("%d of %v: Least = %v", n, low, got)
		}
	}
	f := front(add{high, 2}, add{low, 1})
	for i, want := range []api.Stamp{low, high, high, low} {
		if got := f.Least(); !slices.Equal(got, []api.Stamp{want}) {
			t.Errorf("step %d: Least = %v, not %v", i, got, want)
		}
		f.Add(low, []int{-1, -1, 2, 0}[i])
	}
	// How much above 0 it is makes nothing other: a stamp is there once.
	f = front(add{low, 1}, add{low, 1}, add{low, math.MaxInt - 2}, add{st(0, 1, 1), 7})
	if got := f.Least(); !slices.Equal(got, []api.Stamp{st(0, 1, 1), low}) {
		t.Errorf("Least = %v", got)
	}
}

func TestP1601Passed(t *testing.T) {
	f := ones(st(1, 3, 1), st(2, 1, 1), st(2, 2, 2))
	for _, x := range []struct {
		s    api.Stamp
		want bool
	}{
		// A stamp itself is Within itself.
		{st(1, 3, 1), false}, {st(2, 1, 1), false}, {st(2, 2, 2), false},
		{st(1, 4, 1), false}, {st(1, 3, 2), false}, {st(2, 1, 2), false}, {st(3, 1, 1), false}, {st(9, 9, 9), false},
		// Nothing is Within these, be they ahead of some by stamp.Less or behind all.
		{st(1, 2, 1), true}, {st(1, 3, 0), true}, {st(0, 9, 9), true}, {st(1, 2, 99), true}, {st(9, 0, 9), true}, {st(9, 9, 0), true}, {st(2, 0, 1), true},
		{st(math.MinInt, math.MaxInt, math.MaxInt), true}, {st(math.MaxInt, math.MaxInt, math.MaxInt), false}, {api.Stamp{}, true}, {st(-1, -1, -1), true},
	} {
		if got := f.Passed(x.s); got != x.want {
			t.Errorf("Passed(%v) = %v", x.s, got)
		}
	}
	// Once all that is Within it went, it is passed; and it isn't when some comes again.
	f.Add(st(1, 3, 1), -1)
	if !f.Passed(st(1, 9, 9)) || f.Passed(st(2, 3, 1)) {
		t.Error("behind one less: told otherwise")
	}
	f.Add(st(1, 3, 1), 1)
	if f.Passed(st(1, 9, 9)) {
		t.Error("behind one more: passed")
	}
}

// Whatever a front is told, it answers by the promise's words.
func TestP1601ByChance(t *testing.T) {
	c := chance(1601)
	for _, numbers := range [][]int{{0, 1, 2}, {-1, 0, 1, 12}, {math.MinInt, 0, math.MaxInt}, {1}} {
		all := stamps(numbers...)
		for range 25 {
			f, p := &Front{}, plain{}
			for range 30 {
				a := add{pick(&c, all), c.below(7) - 3}
				f.Add(a.s, a.n)
				p = append(p, a)
				check(t, f, p, all)
			}
		}
	}
}

// A great front of which no stamp is Within another, and all that is behind them.
func TestP1601Great(t *testing.T) {
	const n = 2000
	f := &Front{}
	var want []api.Stamp
	for i := range n {
		f.Add(st(5, n-i, i+1), 1)
		f.Add(st(6, n-i, i), i+1)
		f.Add(st(7, n-i, i+1), 1)
		want = append(want, st(5, i+1, n-i))
	}
	for i := range n {
		want = append(want, st(6, i+1, n-i-1))
	}
	if got := f.Least(); !slices.Equal(got, want) {
		t.Errorf("%d are Least, not %d", len(got), len(want))
	}
	if !f.Passed(st(5, 1, n-1)) || f.Passed(st(5, 1, n)) || f.Passed(st(6, 1, n-1)) {
		t.Error("Passed: told otherwise")
	}
}

func TestP1602Nil(t *testing.T) {
	var none *Front
	for range 2 {
		for _, s := range stamps(math.MinInt, -1, 0, 1, math.MaxInt) {
			if len(none.Least()) != 0 || !none.Passed(s) || none.Count(s) != 0 {
				t.Fatalf("at %v: %v, %v, %d", s, none.Least(), none.Passed(s), none.Count(s))
			}
			none.Add(s, 5)
			none.Add(s, -7)
		}
	}
	check(t, &Front{}, nil, stamps(0, 1))
}

func TestP1602Apart(t *testing.T) {
	all := stamps(0, 1, 2)
	a, b := &Front{}, &Front{}
	a.Add(st(1, 1, 1), 1)
	check(t, b, nil, all)
	b.Add(st(1, 0, 2), 2)
	b.Add(st(1, 1, 1), -1)
	check(t, a, plain{{st(1, 1, 1), 1}}, all)
	a.Add(st(1, 1, 1), -1)
	check(t, a, nil, all)
	check(t, b, plain{{st(1, 0, 2), 2}, {st(1, 1, 1), -1}}, all)
}

// What is answered is new memory: who turns it, or grows it, turns no front.
func TestP1602NewMemory(t *testing.T) {
	f := ones(st(1, 2, 1), st(2, 1, 1), st(3, 0, 1), st(4, 4, 4))
	want := []api.Stamp{st(1, 2, 1), st(2, 1, 1), st(3, 0, 1)}
	one, two := f.Least(), f.Least()
	for i := range one[:cap(one)] {
		one[:cap(one)][i] = st(99, 99, 99)
	}
	one = append(one[:1], st(98, 98, 98))
	if !slices.Equal(two, want) || !slices.Equal(f.Least(), want) || f.Count(one[0]) != 0 || f.Count(one[1]) != 0 {
		t.Errorf("turned: %v, %v", two, f.Least())
	}
}

// Whichever order Adds come in, and however they're shared out, the front is the same.
func TestP1602AnyOrder(t *testing.T) {
	c := chance(1602)
	all := stamps(-1, 0, 1)
	for range 40 {
		var l, mixed []add
		for i := range 40 {
			a := add{pick(&c, all), c.below(9) - 4}
			l = append(l, a)
			// Each in two parts, anywhere among the others.
			mixed = slices.Insert(mixed, c.below(2*i+1), add{a.s, a.n - 1000})
			mixed = slices.Insert(mixed, c.below(2*i+2), add{a.s, 1000})
		}
		check(t, front(l...), l, all)
		check(t, front(mixed...), l, all)
	}
}

// Asking changes nothing, so many may ask at once, and all are told the same.
func TestP1602SameAgain(t *testing.T) {
	all := stamps(0, 1, 2)
	l := plain{{st(1, 2, 0), 1}, {st(2, 0, 1), 3}, {st(0, 0, 0), -1}, {st(2, 2, 2), 1}}
	f := front(l...)
	least := f.Least()
	var group sync.WaitGroup
	for range 4 {
		group.Go(func() {
			for _, s := range slices.Backward(all) {
				if f.Count(s) != l.count(s) || f.Passed(s) == l.anyWithin(s, false) || !slices.Equal(f.Least(), least) {
					t.Errorf("told otherwise of %v", s)
				}
			}
		})
	}
	group.Wait()
	check(t, f, l, all)
}

// Fronts that are told things at once are as those that are told alone.
func TestP1602TogetherAsAlone(t *testing.T) {
	all := stamps(0, 1, 2)
	var fronts [4]*Front
	var told [4]plain
	var group sync.WaitGroup
	for i := range fronts {
		c := chance(i)
		fronts[i] = &Front{}
		for range 200 {
			told[i] = append(told[i], add{pick(&c, all), c.below(5) - 2})
		}
		group.Go(func() {
			for _, a := range told[i] {
				fronts[i].Add(a.s, a.n)
				fronts[i].Least()
			}
		})
	}
	group.Wait()
	for i, f := range fronts {
		check(t, f, told[i], all)
	}
}

// Of stamps whose count came back to 0 nothing is kept.
func TestP1602KeepsNoMore(t *testing.T) {
	f := &Front{}
	for i := range 1000 {
		f.Add(st(i, 0, 1), 2)
		f.Add(st(i, 0, 1), -1)
		f.Add(st(i, 0, 1), -1)
		f.Add(st(i, 1, 1), 0)
	}
	f.Add(st(1000, 0, 1), -1)
	if len(f.counts) != 1 || f.Count(st(1000, 0, 1)) != -1 {
		t.Errorf("%d are kept", len(f.counts))
	}
}
