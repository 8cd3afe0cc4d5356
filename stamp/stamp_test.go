package stamp

import (
	"math"
	"math/big"
	"slices"
	"sync"
	"testing"

	"abacist/api"
)

func st(epoch, rank, round int) api.Stamp {
	return api.Stamp{Epoch: epoch, Rank: rank, Round: round}
}

// edges are numbers at which something could go otherwise.
func edges() []int {
	return []int{
		math.MinInt, math.MinInt + 1, -1 << 32, -1<<31 - 1, -1 << 31, -2, -1, 0, 1, 2,
		api.MaxRounds - 1, api.MaxRounds, api.MaxRounds + 1, 1<<31 - 1, 1 << 31, 1 << 32, 1<<32 + 1, math.MaxInt - 1, math.MaxInt,
	}
}

// few are some of edges.
func few() []int { return []int{math.MinInt, -1, 0, 1, 1 << 32, math.MaxInt} }

// stamps are all those whose three numbers are of l.
func stamps(l []int) []api.Stamp {
	var out []api.Stamp
	for _, epoch := range l {
		for _, rank := range l {
			for _, round := range l {
				out = append(out, st(epoch, rank, round))
			}
		}
	}
	return out
}

// chance makes numbers, the same ones each time.
type chance uint32

func (c *chance) below(n int) int {
	*c = *c*1664525 + 1013904223
	return int(*c>>9) % n
}

// compare orders two by the promise's words: by the first of their numbers that is not the same.
func compare(a, b api.Stamp) int {
	x, y := [3]int{a.Epoch, a.Rank, a.Round}, [3]int{b.Epoch, b.Rank, b.Round}
	return slices.Compare(x[:], y[:])
}

// oneMore is n and 1, which never wraps round.
func oneMore(n int) *big.Int { return new(big.Int).Add(big.NewInt(int64(n)), big.NewInt(1)) }

// nextOf tells Next by the promise's words, and whether its Epoch is an int.
func nextOf(s api.Stamp, turned, round bool, ranks int) (api.Stamp, bool) {
	if round && turned && s.Round < api.MaxRounds {
		return st(s.Epoch, s.Rank, s.Round+1), true
	}
	if oneMore(s.Rank).Cmp(big.NewInt(int64(ranks))) < 0 {
		return st(s.Epoch, s.Rank+1, 1), true
	}
	return st(s.Epoch+1, 0, 1), oneMore(s.Epoch).IsInt64()
}

func TestP1501Example(t *testing.T) {
	for _, s := range append(stamps(few()), st(1, 0, 1), api.Stamp{}) {
		if Less(s, s) {
			t.Errorf("Less(%v, %v)", s, s)
		}
	}
}

func TestP1501Less(t *testing.T) {
	for _, x := range []struct {
		a, b api.Stamp
		want bool
	}{
		{st(1, 0, 1), st(2, 0, 1), true},
		{st(1, 0, 1), st(1, 1, 1), true},
		{st(1, 0, 1), st(1, 0, 2), true},
		// Epoch goes ahead of Rank, and Rank ahead of Round.
		{st(1, 9, 9), st(2, 0, 0), true},
		{st(1, 1, 9), st(1, 2, 0), true},
		{st(2, 0, 0), st(1, 9, 9), false},
		{st(1, 2, 0), st(1, 1, 9), false},
		{st(1, 0, 2), st(1, 0, 1), false},
		// As numbers, not as texts, and below 0, too.
		{st(9, 0, 1), st(10, 0, 1), true},
		{st(-1, 0, 1), st(0, 0, 1), true},
		{st(0, -2, 1), st(0, -1, 1), true},
		{st(0, 0, math.MinInt), st(0, 0, math.MaxInt), true},
		{st(math.MinInt, 0, 0), st(math.MaxInt, 0, 0), true},
		{st(0, math.MaxInt, 0), st(0, math.MinInt, 0), false},
	} {
		if got := Less(x.a, x.b); got != x.want {
			t.Errorf("Less(%v, %v) = %v", x.a, x.b, got)
		}
	}
}

func TestP1501Within(t *testing.T) {
	for _, x := range []struct {
		a, b api.Stamp
		want bool
	}{
		{st(1, 0, 1), st(1, 0, 1), true},
		{st(1, 0, 1), st(2, 0, 1), true},
		{st(1, 0, 1), st(1, 1, 1), true},
		{st(1, 0, 1), st(1, 0, 2), true},
		{st(1, 0, 1), st(2, 3, 4), true},
		// One number that is above is enough, whatever the others.
		{st(2, 0, 1), st(1, 0, 1), false},
		{st(1, 1, 1), st(1, 0, 1), false},
		{st(1, 0, 2), st(1, 0, 1), false},
		{st(1, 1, 1), st(2, 0, 1), false},
		{st(1, 0, 2), st(2, 9, 1), false},
		{st(3, 0, 0), st(2, 9, 9), false},
		{st(math.MinInt, -1, -1), st(math.MaxInt, -1, 0), true},
		{st(0, math.MaxInt, 0), st(0, math.MinInt, 0), false},
		{st(0, 0, math.MaxInt), st(0, 0, math.MinInt), false},
	} {
		if got := Within(x.a, x.b); got != x.want {
			t.Errorf("Within(%v, %v) = %v", x.a, x.b, got)
		}
	}
}

func TestP1501AnyTwo(t *testing.T) {
	all := append(stamps(few()), stamps([]int{-3, 2, 3, 9, 10, 11})...)
	for _, a := range all {
		for _, b := range all {
			if got := Less(a, b); got != (compare(a, b) < 0) {
				t.Fatalf("Less(%v, %v) = %v", a, b, got)
			}
			if got := Within(a, b); got != !(a.Epoch > b.Epoch || a.Rank > b.Rank || a.Round > b.Round) {
				t.Fatalf("Within(%v, %v) = %v", a, b, got)
			}
			// What is Within another one is not behind it.
			if Within(a, b) && Less(b, a) {
				t.Fatalf("%v is Within %v, and behind it", a, b)
			}
		}
	}
}

// Whatever the order in which they come, Less puts stamps in one order.
func TestP1501Sorts(t *testing.T) {
	want := stamps([]int{math.MinInt, -1, 0, 1, 2, 10, math.MaxInt})
	c := chance(1501)
	for range 20 {
		var got []api.Stamp
		for i, s := range want {
			got = slices.Insert(got, c.below(i+1), s)
		}
		slices.SortFunc(got, func(a, b api.Stamp) int {
			if Less(a, b) {
				return -1
			}
			if Less(b, a) {
				return 1
			}
			return 0
		})
		if !slices.Equal(got, want) {
			t.Fatalf("sorted: %v", got)
		}
	}
}

// step is what Next is asked, and what it should tell.
type step struct {
	s             api.Stamp
	turned, round bool
	ranks         int
	want          api.Stamp
}

func (x step) check(t *testing.T) {
	t.Helper()
	if got := Next(x.s, x.turned, x.round, x.ranks); got != x.want {
		t.Errorf("Next(%v, turned %v, round %v, %d ranks) = %v, not %v", x.s, x.turned, x.round, x.ranks, got, x.want)
	}
}

// One Round more if all three hold; if one of them doesn't, one Rank more.
func TestP1501NextRound(t *testing.T) {
	for _, x := range []step{
		{st(3, 1, 1), true, true, 5, st(3, 1, 2)},
		{st(3, 1, 1), true, false, 5, st(3, 2, 1)},
		{st(3, 1, 1), false, true, 5, st(3, 2, 1)},
		{st(3, 1, 1), false, false, 5, st(3, 2, 1)},
		{st(3, 1, 7), true, true, 5, st(3, 1, 8)},
		{st(3, 1, 7), false, true, 5, st(3, 2, 1)},
		// Up to MaxRounds, and that one is the last.
		{st(3, 1, api.MaxRounds-2), true, true, 5, st(3, 1, api.MaxRounds-1)},
		{st(3, 1, api.MaxRounds-1), true, true, 5, st(3, 1, api.MaxRounds)},
		{st(3, 1, api.MaxRounds), true, true, 5, st(3, 2, 1)},
		{st(3, 1, api.MaxRounds+1), true, true, 5, st(3, 2, 1)},
		{st(3, 1, math.MaxInt), true, true, 5, st(3, 2, 1)},
		{st(3, 1, 0), true, true, 5, st(3, 1, 1)},
		{st(3, 1, -1), true, true, 5, st(3, 1, 0)},
		{st(3, 1, math.MinInt), true, true, 5, st(3, 1, math.MinInt+1)},
		// A Round more whatever the ranks are.
		{st(3, 4, 1), true, true, 5, st(3, 4, 2)},
		{st(3, 9, 1), true, true, 5, st(3, 9, 2)},
		{st(3, 0, 1), true, true, 0, st(3, 0, 2)},
		{st(3, 0, 1), true, true, math.MinInt, st(3, 0, 2)},
		{st(3, math.MaxInt, 1), true, true, 5, st(3, math.MaxInt, 2)},
		{st(math.MaxInt, 0, 1), true, true, 5, st(math.MaxInt, 0, 2)},
	} {
		x.check(t)
	}
}

func TestP1501NextRank(t *testing.T) {
	for _, x := range []step{
		{st(3, 0, 1), false, false, 2, st(3, 1, 1)},
		{st(3, 0, 1), false, false, 1, st(4, 0, 1)},
		{st(3, 0, 1), false, false, 0, st(4, 0, 1)},
		{st(3, 3, 9), false, true, 5, st(3, 4, 1)},
		{st(3, 4, 9), false, true, 5, st(4, 0, 1)},
		{st(3, 5, 9), false, true, 5, st(4, 0, 1)},
		{st(3, 6, 9), false, true, 5, st(4, 0, 1)},
		{st(3, 4, api.MaxRounds), true, true, 5, st(4, 0, 1)},
		{st(3, 4, 1), true, false, 5, st(4, 0, 1)},
		// Below 0 all goes as above it.
		{st(-1, 4, 1), false, false, 5, st(0, 0, 1)},
		{st(-7, -3, -9), false, false, 5, st(-7, -2, 1)},
		{st(-7, -3, -9), false, false, -1, st(-7, -2, 1)},
		{st(-7, -3, -9), false, false, -2, st(-6, 0, 1)},
		{st(-7, -3, -9), false, false, math.MinInt, st(-6, 0, 1)},
		{st(3, -1, 1), false, false, 1, st(3, 0, 1)},
		{st(3, -1, 1), false, false, 0, st(4, 0, 1)},
		// The greatest and the least ints wrap nothing round.
		{st(3, math.MaxInt-2, 1), false, false, math.MaxInt, st(3, math.MaxInt-1, 1)},
		{st(3, math.MaxInt-1, 1), false, false, math.MaxInt, st(4, 0, 1)},
		{st(3, math.MaxInt, 1), false, false, math.MaxInt, st(4, 0, 1)},
		{st(3, math.MaxInt, 1), false, false, 1, st(4, 0, 1)},
		{st(3, math.MaxInt, 1), false, false, math.MinInt, st(4, 0, 1)},
		{st(3, math.MinInt, 1), false, false, math.MinInt, st(4, 0, 1)},
		{st(3, math.MinInt, 1), false, false, math.MinInt + 1, st(4, 0, 1)},
		{st(3, math.MinInt, 1), false, false, math.MinInt + 2, st(3, math.MinInt+1, 1)},
		{st(math.MaxInt-1, 0, 1), false, false, 1, st(math.MaxInt, 0, 1)},
		{st(math.MinInt, 0, 1), false, false, 1, st(math.MinInt+1, 0, 1)},
	} {
		x.check(t)
	}
}

// At all edges Next is what the promise's words say, and Less than it is s.
func TestP1501NextAny(t *testing.T) {
	for _, s := range stamps(edges()) {
		for _, ranks := range edges() {
			for i := range 4 {
				turned, round := i&1 != 0, i&2 != 0
				got := Next(s, turned, round, ranks)
				if want, ok := nextOf(s, turned, round, ranks); ok && (got != want || !Less(s, got)) {
					t.Fatalf("Next(%v, turned %v, round %v, %d ranks) = %v, not %v", s, turned, round, ranks, got, want)
				}
			}
		}
	}
}

// Behind the greatest Epoch there is none that is more: as ints do, it wraps round, and nothing else is told otherwise.
func TestP1501NextLastEpoch(t *testing.T) {
	for _, x := range []step{
		{st(math.MaxInt, 0, 1), false, false, 1, st(math.MinInt, 0, 1)},
		{st(math.MaxInt, math.MaxInt, math.MaxInt), true, true, math.MaxInt, st(math.MinInt, 0, 1)},
		{st(math.MaxInt, 0, 1), false, false, 2, st(math.MaxInt, 1, 1)},
		{st(math.MaxInt, 0, 1), true, true, 1, st(math.MaxInt, 0, 2)},
	} {
		x.check(t)
	}
}

// From an epoch's first stamp on, Next goes through its ranks, one after the other, each with its rounds.
func TestP1501NextGoesThrough(t *testing.T) {
	// Of each rank in how many rounds some cell turned; 0: not Round.
	turns := []int{0, 3, 0, 1, 99, 0}
	rounds := []int{1, 4, 1, 2, api.MaxRounds, 1}
	s := st(1, 0, 1)
	for epoch := 1; epoch <= 3; epoch++ {
		for rank := range turns {
			for round := 1; round <= rounds[rank]; round++ {
				if s != st(epoch, rank, round) {
					t.Fatalf("%v in place of %v", s, st(epoch, rank, round))
				}
				s = Next(s, round <= turns[rank], turns[rank] > 0, len(turns))
			}
		}
	}
	if s != st(4, 0, 1) {
		t.Fatalf("behind all: %v", s)
	}
}

// A call answers the same whatever was asked ahead of it, and beside it; stamps are what they were told by, as keys, too.
func TestP1502SameAgain(t *testing.T) {
	all := stamps(few())
	next := map[api.Stamp]api.Stamp{}
	for _, s := range all {
		next[s] = Next(s, true, true, 2)
	}
	if len(next) != len(all) {
		t.Fatalf("%d keys of %d stamps", len(next), len(all))
	}
	var group sync.WaitGroup
	for range 4 {
		group.Go(func() {
			for _, s := range slices.Backward(all) {
				if got := Next(s, true, true, 2); got != next[s] {
					t.Errorf("Next(%v) = %v, then %v", s, next[s], got)
				}
				for _, other := range all {
					if Less(s, other) != (compare(s, other) < 0) || !Within(s, s) {
						t.Errorf("told otherwise of %v and %v", s, other)
					}
				}
			}
		})
	}
	group.Wait()
}
