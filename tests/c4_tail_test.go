package tests

import (
	"math"
	"slices"
	"testing"

	"loop.example/countedchances/impl"
)

func TestTailChanceOfFewTries(t *testing.T) {
	for _, c := range []struct{ n, k, u, v, some, all int }{
		{0, 0, 1, 2, 1, 1},
		{0, 1, 1, 2, 0, 1},
		{0, -1, 0, 1, 1, 1},
		{0, 0, 0, 12, 1, 1},
		{0, 0, 12, 12, 1, 1},
		{1, 1, 0, 1, 0, 1},
		{1, 0, 0, 1, 1, 1},
		{1, 1, 1, 1, 1, 1},
		{3, 2, 1, 2, 4, 8},
		{2, 1, 1, 6, 11, 36},
		{2, 2, 5, 6, 25, 36},
		{3, 3, 0, 7, 0, 343},
		{3, 3, 7, 7, 343, 343},
		{3, 4, 7, 7, 0, 343},
		{4, 2, 1, 3, 33, 81},
		{10, 5, 1, 2, 638, 1024},
		{10, 0, 5, 12, 61917364224, 61917364224},
		{10, 1, 1, 12, 61917364224 - 25937424601, 61917364224},
		{10, 10, 1, 12, 1, 61917364224},
		{10, 10, 12, 12, 61917364224, 61917364224},
		{10, 10, 11, 12, 25937424601, 61917364224},
		{10, 11, 12, 12, 0, 61917364224},
		{10, 1, 0, 12, 0, 61917364224},
		{10, math.MinInt, 1, 2, 1024, 1024},
		{10, math.MaxInt, 1, 2, 0, 1024},
	} {
		if some, all := impl.TailChance(c.n, c.k, c.u, c.v); some != c.some || all != c.all {
			t.Errorf("TailChance(%d, %d, %d, %d) = %d, %d, want %d, %d", c.n, c.k, c.u, c.v, some, all, c.some, c.all)
		}
	}
}

// checkTails compares TailChance, for all numbers of hits and some more, with how many ways have how many hits.
func checkTails(t *testing.T, n, u, v int, hits []int) {
	for k := -2; k <= n+2; k++ {
		some, all := impl.TailChance(n, k, u, v)
		if want := sumOf(hits[min(max(k, 0), n+1):]); some != want || all != sumOf(hits) {
			t.Errorf("TailChance(%d, %d, %d, %d) = %d, %d, want %d of %v", n, k, u, v, some, all, want, hits)
		}
	}
}

func TestTailChanceOfAllWaysOneByOne(t *testing.T) {
	eachTries(func(n, u, v int) {
		if n <= 5 && v <= 5 {
			checkTails(t, n, u, v, hitsOneByOne(n, u, v))
		}
	})
}

func TestTailChanceOfAllTries(t *testing.T) {
	eachTries(func(n, u, v int) {
		checkTails(t, n, u, v, hitCounts(n, u, v))
	})
}

// Promise 22.
func TestTailsOfHitsAndOfMissesAreAll(t *testing.T) {
	eachTries(func(n, u, v int) {
		for k := -2; k <= n+2; k++ {
			some, all := impl.TailChance(n, k, u, v)
			others, all2 := impl.TailChance(n, n-k+1, v-u, v)
			if some < 0 || others < 0 || some+others != all || all2 != all {
				t.Errorf("TailChance(%d, %d, %d, %d) = %d, %d, of the misses %d, %d", n, k, u, v, some, all, others, all2)
			}
		}
	})
}

func TestBoundsOfFewTries(t *testing.T) {
	for _, c := range []struct{ n, k, v, a, b, low, high int }{
		{1, 1, 1, 0, 1, 0, -1},
		{1, 1, 1, 1, 1, 1, -1},
		{1, 0, 1, 0, 1, -1, 1},
		{1, 0, 1, 1, 1, -1, 0},
		{1, 1, 1, 99, 100, 0, -1},
		{1, 0, 1, 99, 100, -1, 1},
		{1, 1, 10, 5, 10, 5, -1},
		{1, 0, 10, 5, 10, -1, 5},
		{1, 1, 12, 1, 100, 0, -1},
		{1, 1, 12, 99, 100, 11, -1},
		{1, 0, 12, 99, 100, -1, 1},
		{1, 1, 12, 1, 12, 1, -1},
		{2, 2, 10, 5, 100, 2, -1},
		{2, 2, 10, 4, 100, 2, -1},
		{2, 2, 10, 3, 100, 1, -1},
		{2, 0, 10, 5, 100, -1, 8},
		{2, 1, 10, 0, 10, 0, 10},
		{2, 1, 10, 10, 10, 10, 0},
		{2, 1, 2, 3, 4, 1, 1},
		{2, 1, 2, 74, 100, 0, 2},
		{10, 10, 12, 1, 100, 7, -1},
		{10, 10, 12, 5, 100, 8, -1},
		{10, 0, 12, 1, 100, -1, 5},
		{10, 0, 12, 5, 100, -1, 4},
		{10, 1, 12, 0, 100, 0, 12},
		{10, 9, 12, 0, 100, 0, 12},
		{10, 1, 12, 100, 100, 12, 0},
		{10, 9, 12, 100, 100, 12, 0},
		{10, 5, 2, 638, 1024, -1, -1},
		{10, 5, 2, 62, 100, 0, 2},
		{10, 5, 2, 63, 100, 1, 1},
	} {
		if low := impl.LowBound(c.n, c.k, c.v, c.a, c.b); low != c.low {
			t.Errorf("LowBound(%d, %d, %d, %d, %d) = %d, want %d", c.n, c.k, c.v, c.a, c.b, low, c.low)
		}
		if high := impl.HighBound(c.n, c.k, c.v, c.a, c.b); high != c.high {
			t.Errorf("HighBound(%d, %d, %d, %d, %d) = %d, want %d", c.n, c.k, c.v, c.a, c.b, high, c.high)
		}
	}
}

func TestBoundsAtAllLevels(t *testing.T) {
	eachBase(func(n, v int) {
		hits := make([][]int, v+1)
		for u := range hits {
			hits[u] = hitCounts(n, u, v)
		}
		eachLevel(func(a, b int) {
			for k := range n + 1 {
				low, high := -1, -1
				for u := range v + 1 {
					if k > 0 && sumOf(hits[u][k:])*b <= a*sumOf(hits[u]) {
						low = u
					}
					if k < n && high < 0 && sumOf(hits[u][:k+1])*b <= a*sumOf(hits[u]) {
						high = u
					}
				}
				if got := impl.LowBound(n, k, v, a, b); got != low {
					t.Errorf("LowBound(%d, %d, %d, %d, %d) = %d, want %d", n, k, v, a, b, got, low)
				}
				if got := impl.HighBound(n, k, v, a, b); got != high {
					t.Errorf("HighBound(%d, %d, %d, %d, %d) = %d, want %d", n, k, v, a, b, got, high)
				}
			}
		})
	})
}

// Promise 23.
func TestBoundsAreJustEnough(t *testing.T) {
	enough := func(n, k, u, v, a, b int) bool {
		some, all := impl.TailChance(n, k, u, v)
		return some*b <= a*all
	}
	eachBase(func(n, v int) {
		eachLevel(func(a, b int) {
			for k := 1; k <= n; k++ {
				u := impl.LowBound(n, k, v, a, b)
				if u < 0 || u > v || !enough(n, k, u, v, a, b) || u < v && enough(n, k, u+1, v, a, b) {
					t.Errorf("LowBound(%d, %d, %d, %d, %d) = %d", n, k, v, a, b, u)
				}
				if a == 0 && u != 0 || a == b && u != v {
					t.Errorf("LowBound(%d, %d, %d, %d, %d) = %d", n, k, v, a, b, u)
				}
			}
		})
	})
}

// Promise 24.
func TestBoundsOfMissesAreBoundsOfHits(t *testing.T) {
	eachBase(func(n, v int) {
		eachLevel(func(a, b int) {
			for k := range n {
				high, low := impl.HighBound(n, k, v, a, b), impl.LowBound(n, n-k, v, a, b)
				if low < 0 || high != v-low {
					t.Errorf("HighBound(%d, %d, %d, %d, %d) = %d, LowBound of the others %d", n, k, v, a, b, high, low)
				}
			}
		})
	})
}

func TestTwoSidesOfFewTries(t *testing.T) {
	for _, c := range []struct {
		n, k, u, v int
		want       []int
	}{
		{0, 0, 0, 1, []int{1, 1, 1}},
		{0, 0, 1, 1, []int{1, 1, 1}},
		{0, 0, 5, 12, []int{1, 1, 1}},
		{1, 0, 0, 1, []int{1, 1, 1}},
		{1, 1, 0, 1, []int{0, 0, 0}},
		{1, 1, 1, 1, []int{1, 1, 1}},
		{1, 0, 1, 1, []int{0, 0, 0}},
		{3, 3, 1, 2, []int{2, 2, 2}},
		{3, 1, 1, 2, []int{8, 8, 8}},
		{2, 1, 1, 6, []int{22, 11, 11}},
		{2, 0, 1, 6, []int{36, 36, 36}},
		{2, 2, 1, 6, []int{2, 1, 1}},
		{2, 2, 1, 3, []int{2, 1, 1}},
		{2, 0, 1, 3, []int{8, 9, 5}},
		{2, 1, 1, 3, []int{9, 9, 9}},
		{10, 10, 0, 12, []int{0, 0, 0}},
		{10, 0, 0, 12, []int{61917364224, 61917364224, 61917364224}},
		{10, 10, 12, 12, []int{61917364224, 61917364224, 61917364224}},
		{10, 9, 12, 12, []int{0, 0, 0}},
		{10, 10, 6, 12, []int{2 * 60466176, 2 * 60466176, 2 * 60466176}},
		{10, 5, 1, 2, []int{1024, 1024, 1024}},
		{10, 2, 1, 2, []int{112, 112, 112}},
	} {
		if got := impl.TwoSides(c.n, c.k, c.u, c.v); !slices.Equal(got, c.want) {
			t.Errorf("TwoSides(%d, %d, %d, %d) = %v, want %v", c.n, c.k, c.u, c.v, got, c.want)
		}
	}
}

func TestTwoSidesOfAllTries(t *testing.T) {
	eachTries(func(n, u, v int) {
		hits := hitCounts(n, u, v)
		far := func(h int) int { return max(n*v*h-n*n*u, n*n*u-n*v*h) }
		for k := range n + 1 {
			double := 2 * min(sumOf(hits[k:]), sumOf(hits[:k+1]))
			want := []int{min(double, sumOf(hits)), 0, 0}
			for h, ways := range hits {
				if ways <= hits[k] {
					want[1] += ways
				}
				if far(h) >= far(k) {
					want[2] += ways
				}
			}
			if got := impl.TwoSides(n, k, u, v); !slices.Equal(got, want) {
				t.Errorf("TwoSides(%d, %d, %d, %d) = %v, want %v", n, k, u, v, got, want)
			}
		}
	})
}

// Promise 25.
func TestBothSidesAreTheSameForMisses(t *testing.T) {
	eachTries(func(n, u, v int) {
		for k := range n + 1 {
			more, all := impl.TailChance(n, k, u, v)
			others, _ := impl.TailChance(n, k+1, u, v)
			sides := impl.TwoSides(n, k, u, v)
			if misses := impl.TwoSides(n, n-k, v-u, v); len(sides) != 3 || !slices.Equal(sides, misses) {
				t.Fatalf("TwoSides(%d, %d, %d, %d) = %v, of the misses %v", n, k, u, v, sides, misses)
			}
			if slices.Min(sides) < more-others || slices.Max(sides) > all {
				t.Errorf("TwoSides(%d, %d, %d, %d) = %v, with %d of %d ways", n, k, u, v, sides, more-others, all)
			}
		}
	})
}

func TestMiddlePlacesOfFewThings(t *testing.T) {
	for _, c := range []struct{ n, a, b, place, sets int }{
		{1, 0, 1, 0, 2},
		{1, 1, 1, 0, 2},
		{2, 0, 1, 0, 4},
		{2, 49, 100, 0, 4},
		{2, 1, 2, 1, 2},
		{2, 1, 1, 1, 2},
		{3, 1, 4, 1, 6},
		{3, 24, 100, 0, 8},
		{3, 1, 1, 1, 6},
		{4, 1, 1, 2, 6},
		{4, 62, 100, 1, 14},
		{4, 63, 100, 2, 6},
		{5, 5, 100, 0, 32},
		{6, 5, 100, 1, 62},
		{8, 10, 100, 2, 238},
		{9, 100, 100, 4, 252},
		{10, 0, 100, 0, 1024},
		{10, 1, 100, 1, 1022},
		{10, 2, 100, 1, 1022},
		{10, 5, 100, 2, 1002},
		{10, 75, 100, 4, 672},
		{10, 76, 100, 5, 252},
		{10, 100, 100, 5, 252},
	} {
		if place, sets := impl.MiddlePlaces(c.n, c.a, c.b); place != c.place || sets != c.sets {
			t.Errorf("MiddlePlaces(%d, %d, %d) = %d, %d, want %d, %d", c.n, c.a, c.b, place, sets, c.place, c.sets)
		}
	}
}

func TestMiddlePlacesAtAllLevels(t *testing.T) {
	for n := 1; n <= impl.MaxTries; n++ {
		sizes := setSizes(n)
		for b := 1; b <= impl.MaxLevel; b++ {
			for a := range b + 1 {
				want := 0
				for j := 1; 2*j <= n; j++ {
					if 2*sumOf(sizes[:j])*b <= a*sumOf(sizes) {
						want = j
					}
				}
				sets := sumOf(sizes[want : n-want+1])
				if got, got2 := impl.MiddlePlaces(n, a, b); got != want || got2 != sets {
					t.Errorf("MiddlePlaces(%d, %d, %d) = %d, %d, want %d, %d", n, a, b, got, got2, want, sets)
				}
			}
		}
	}
}

// Promise 26.
func TestPlacesOfTheMiddleLeaveOutLittle(t *testing.T) {
	for n := 1; n <= impl.MaxTries; n++ {
		sizes, all := setSizes(n), 1<<n
		for b := 1; b <= impl.MaxLevel; b++ {
			for a := range b + 1 {
				place, sets := impl.MiddlePlaces(n, a, b)
				if place < 0 || 2*place > n || (all-sets)*b > a*all {
					t.Fatalf("MiddlePlaces(%d, %d, %d) = %d, %d", n, a, b, place, sets)
				}
				if place == 0 && sets != all || a == b && place != n/2 {
					t.Errorf("MiddlePlaces(%d, %d, %d) = %d, %d", n, a, b, place, sets)
				}
				if out := all - sets + 2*sizes[place]; 2*(place+1) <= n && out*b <= a*all {
					t.Errorf("MiddlePlaces(%d, %d, %d) = %d, %d, and one place more leaves out %d", n, a, b, place, sets, out)
				}
			}
		}
	}
}

func TestOtherTriesHaveFixedResults(t *testing.T) {
	for _, c := range badTries() {
		for _, k := range []int{0, 1, -1, impl.MaxTries, math.MinInt, math.MaxInt} {
			if some, all := impl.TailChance(c[0], k, c[1], c[2]); some != -1 || all != -1 {
				t.Errorf("TailChance(%d, %d, %d, %d) = %d, %d", c[0], k, c[1], c[2], some, all)
			}
			if sides := impl.TwoSides(c[0], k, c[1], c[2]); len(sides) != 0 {
				t.Errorf("TwoSides(%d, %d, %d, %d) = %v", c[0], k, c[1], c[2], sides)
			}
		}
	}
}

func TestTwoSidesOfOtherHitsAreNone(t *testing.T) {
	eachTries(func(n, u, v int) {
		for _, k := range []int{-1, -n - 1, n + 1, impl.MaxTries + 1, math.MinInt, math.MaxInt} {
			if sides := impl.TwoSides(n, k, u, v); len(sides) != 0 {
				t.Errorf("TwoSides(%d, %d, %d, %d) = %v", n, k, u, v, sides)
			}
		}
	})
}

func TestBoundsOfOtherNumbersHaveAFixedResult(t *testing.T) {
	check := func(n, k, v, a, b int, lowOnly bool) {
		if low := impl.LowBound(n, k, v, a, b); low != -1 {
			t.Errorf("LowBound(%d, %d, %d, %d, %d) = %d", n, k, v, a, b, low)
		}
		if high := impl.HighBound(n, k, v, a, b); !lowOnly && high != -1 {
			t.Errorf("HighBound(%d, %d, %d, %d, %d) = %d", n, k, v, a, b, high)
		}
	}
	for _, n := range []int{0, -1, -impl.MaxTries, impl.MaxTries + 1, math.MinInt, math.MaxInt} {
		for _, k := range []int{0, 1, -1, n, n - 1} {
			check(n, k, 2, 1, 2, false)
		}
	}
	for _, v := range []int{0, -1, -impl.MaxBase, impl.MaxBase + 1, math.MinInt, math.MaxInt} {
		check(2, 1, v, 1, 2, false)
	}
	for _, p := range badLevels() {
		check(2, 1, 2, p[0], p[1], false)
	}
	for n := 1; n <= impl.MaxTries; n++ {
		check(n, 0, 2, 1, 2, true)
		if high := impl.HighBound(n, n, 2, 1, 2); high != -1 {
			t.Errorf("HighBound(%d, %d, 2, 1, 2) = %d", n, n, high)
		}
		for _, k := range []int{-1, -n, n + 1, impl.MaxTries + 1, math.MinInt, math.MaxInt} {
			check(n, k, 2, 1, 2, false)
			check(n, k, impl.MaxBase, 1, 1, false)
		}
	}
}

func TestMiddlePlacesOfOtherNumbersHaveFixedResults(t *testing.T) {
	check := func(n, a, b int) {
		if place, sets := impl.MiddlePlaces(n, a, b); place != -1 || sets != -1 {
			t.Errorf("MiddlePlaces(%d, %d, %d) = %d, %d", n, a, b, place, sets)
		}
	}
	for _, n := range []int{0, -1, -impl.MaxTries, impl.MaxTries + 1, math.MinInt, math.MaxInt} {
		check(n, 1, 2)
		check(n, 1, 1)
	}
	for _, p := range badLevels() {
		for n := 1; n <= impl.MaxTries; n++ {
			check(n, p[0], p[1])
		}
	}
}

func TestTwoSidesGiveNewMemory(t *testing.T) {
	eachTries(func(n, u, v int) {
		for k := range n + 1 {
			want := impl.TwoSides(n, k, u, v)
			kept := slices.Clone(want)
			overwrite(impl.TwoSides(n, k, u, v))
			if again := impl.TwoSides(n, k, u, v); !slices.Equal(want, kept) || !slices.Equal(again, kept) {
				t.Errorf("TwoSides(%d, %d, %d, %d) became %v, and again %v, of %v", n, k, u, v, want, again, kept)
			}
		}
	})
}
