package tests

import (
	"math"
	"slices"
	"testing"

	"loop.example/countedchances/impl"
)

func TestSplitChanceCountsSplits(t *testing.T) {
	up := []int{1, 2, 3, 4, 5}
	high := []int{6, 7, 8, 9, 10}
	for _, c := range []struct {
		a, b        []int
		enough, all int
	}{
		{[]int{5}, []int{5}, 2, 2},
		{[]int{0}, []int{0}, 2, 2},
		{[]int{6}, []int{5}, 1, 2},
		{[]int{5}, []int{6}, 2, 2},
		{[]int{-200}, []int{200}, 2, 2},
		{[]int{200}, []int{-200}, 1, 2},
		{[]int{3, 4}, []int{1, 2}, 1, 6},
		{[]int{1, 2}, []int{3, 4}, 6, 6},
		{[]int{2, 3}, []int{1, 4}, 4, 6},
		{[]int{1, 2}, []int{1, 2}, 5, 6},
		{[]int{-1}, []int{1, 2, 3}, 4, 4},
		{[]int{1, 2, 3}, []int{-1}, 1, 4},
		{high, up, 1, 252},
		{up, high, 252, 252},
		{slices.Repeat([]int{0}, 5), slices.Repeat([]int{0}, 5), 252, 252},
		{slices.Repeat([]int{200}, 5), slices.Repeat([]int{-200}, 5), 1, 252},
		{slices.Repeat([]int{-200}, 3), slices.Repeat([]int{-200}, 7), 120, 120},
		{[]int{200}, slices.Repeat([]int{-200}, 9), 1, 10},
		{slices.Repeat([]int{-200}, 9), []int{200}, 10, 10},
	} {
		if enough, all := impl.SplitChance(c.a, c.b); enough != c.enough || all != c.all {
			t.Errorf("SplitChance(%v, %v) = %d, %d, want %d, %d", c.a, c.b, enough, all, c.enough, c.all)
		}
	}
}

func TestSplitChanceOfAllSplits(t *testing.T) {
	twoSamples(func(a, b []int) {
		enough := 0
		own, sums := sumOf(a), chosenSums(slices.Concat(a, b), len(a))
		for _, sum := range sums {
			if sum >= own {
				enough++
			}
		}
		if got, all := impl.SplitChance(a, b); got != enough || all != len(sums) {
			t.Errorf("SplitChance(%v, %v) = %d, %d, want %d, %d", a, b, got, all, enough, len(sums))
		}
	})
}

// Promise 9.
func TestSplitsOfBothSamplesAreMoreThanAll(t *testing.T) {
	twoSamples(func(a, b []int) {
		enough, all := impl.SplitChance(a, b)
		other, all2 := impl.SplitChance(b, a)
		want := choices(len(a)+len(b), len(a))
		if all != want || all2 != want || enough+other <= all || enough < 1 || enough > all {
			t.Errorf("SplitChance(%v, %v) = %d, %d, the other way %d, %d", a, b, enough, all, other, all2)
		}
	})
}

func TestWinsOfCountsPairs(t *testing.T) {
	for _, c := range []struct {
		a, b []int
		want int
	}{
		{[]int{1}, []int{2}, 0},
		{[]int{2}, []int{1}, 2},
		{[]int{2}, []int{2}, 1},
		{[]int{0}, []int{0}, 1},
		{[]int{-200}, []int{200}, 0},
		{[]int{200}, []int{-200}, 2},
		{[]int{3, 5}, []int{1, 3}, 7},
		{[]int{1, 3}, []int{3, 5}, 1},
		{[]int{4, 4}, []int{4, 4}, 4},
		{[]int{1, 2, 3}, []int{1, 2, 3}, 9},
		{[]int{7}, []int{1, 7, 9, -3}, 5},
		{slices.Repeat([]int{0}, 5), slices.Repeat([]int{0}, 5), 25},
		{slices.Repeat([]int{200}, 5), slices.Repeat([]int{-200}, 5), 50},
		{slices.Repeat([]int{-200}, 9), []int{200}, 0},
	} {
		if got := impl.WinsOf(c.a, c.b); got != c.want {
			t.Errorf("WinsOf(%v, %v) = %d, want %d", c.a, c.b, got, c.want)
		}
	}
}

// Promise 10.
func TestWinsAreRanks(t *testing.T) {
	twoSamples(func(a, b []int) {
		wins, back := impl.WinsOf(a, b), impl.WinsOf(b, a)
		if wins < 0 || back < 0 || wins+back != 2*len(a)*len(b) {
			t.Errorf("WinsOf(%v, %v) = %d, the other way %d", a, b, wins, back)
		}
		ranks := impl.RanksOf(slices.Concat(a, b))
		if among := sumOf(impl.RanksOf(a)); sumOf(ranks[:len(a)]) != wins+among {
			t.Errorf("WinsOf(%v, %v) = %d, among themselves %d, of the ranks %v", a, b, wins, among, ranks)
		}
	})
}

func TestWinCountsOfFewLetters(t *testing.T) {
	for _, c := range []struct {
		m, n int
		want []int
	}{
		{0, 0, []int{1}},
		{0, 1, []int{1}},
		{1, 0, []int{1}},
		{0, 6, []int{1}},
		{6, 0, []int{1}},
		{1, 1, []int{1, 1}},
		{1, 3, []int{1, 1, 1, 1}},
		{1, 6, []int{1, 1, 1, 1, 1, 1, 1}},
		{2, 2, []int{1, 1, 2, 1, 1}},
		{2, 3, []int{1, 1, 2, 2, 2, 1, 1}},
		{3, 3, []int{1, 1, 2, 3, 3, 3, 3, 2, 1, 1}},
	} {
		if got := impl.WinCounts(c.m, c.n); !slices.Equal(got, c.want) {
			t.Errorf("WinCounts(%d, %d) = %v, want %v", c.m, c.n, got, c.want)
		}
	}
}

func TestWinCountsOfAllOrders(t *testing.T) {
	for m := range impl.MaxSide + 1 {
		for n := range impl.MaxSide + 1 {
			want := make([]int, m*n+1)
			eachWord(m, n, func(word string) { want[winsOfWord(word)]++ })
			if got := impl.WinCounts(m, n); !slices.Equal(got, want) {
				t.Errorf("WinCounts(%d, %d) = %v, want %v", m, n, got, want)
			}
		}
	}
}

// Promise 11.
func TestOrdersWinAsOftenAsTheyLose(t *testing.T) {
	for m := range impl.MaxSide + 1 {
		for n := range impl.MaxSide + 1 {
			counts := impl.WinCounts(m, n)
			turned := slices.Clone(counts)
			slices.Reverse(turned)
			exchanged := impl.WinCounts(n, m)
			if len(counts) != m*n+1 || sumOf(counts) != choices(m+n, m) || !slices.Equal(turned, counts) || !slices.Equal(exchanged, counts) {
				t.Errorf("WinCounts(%d, %d) = %v, exchanged %v", m, n, counts, exchanged)
			}
		}
	}
}

func TestFlipChanceCountsSigns(t *testing.T) {
	for _, c := range []struct {
		list        []int
		enough, all int
	}{
		{nil, 1, 1},
		{[]int{}, 1, 1},
		{[]int{0}, 2, 2},
		{[]int{3}, 1, 2},
		{[]int{-3}, 2, 2},
		{[]int{200}, 1, 2},
		{[]int{-200}, 2, 2},
		{[]int{1, 2}, 1, 4},
		{[]int{-1, 2}, 2, 4},
		{[]int{1, -2}, 3, 4},
		{[]int{5, -5}, 3, 4},
		{[]int{0, 0, 4}, 4, 8},
		{[]int{1, 2, 3, -3, 0}, 12, 32},
		{slices.Repeat([]int{0}, 10), 1024, 1024},
		{slices.Repeat([]int{200}, 10), 1, 1024},
		{slices.Repeat([]int{-200}, 10), 1024, 1024},
		{slices.Repeat([]int{-200, 200}, 5), 638, 1024},
	} {
		if enough, all := impl.FlipChance(c.list); enough != c.enough || all != c.all {
			t.Errorf("FlipChance(%v) = %d, %d, want %d, %d", c.list, enough, all, c.enough, c.all)
		}
	}
}

func TestFlipChanceOfAllSigns(t *testing.T) {
	for _, list := range samples() {
		sums := []int{0}
		for _, x := range list {
			var next []int
			for _, sum := range sums {
				next = append(next, sum+x, sum-x)
			}
			sums = next
		}
		enough := 0
		for _, sum := range sums {
			if sum >= sumOf(list) {
				enough++
			}
		}
		if got, all := impl.FlipChance(list); got != enough || all != len(sums) {
			t.Errorf("FlipChance(%v) = %d, %d, want %d, %d", list, got, all, enough, len(sums))
		}
	}
}

// Promise 12.
func TestFlipsOfBothSignsAreMoreThanAll(t *testing.T) {
	for _, list := range samples() {
		enough, all := impl.FlipChance(list)
		other, all2 := impl.FlipChance(otherSigns(list))
		want := 1 << len(list)
		if all != want || all2 != want || enough+other <= all || enough < 1 || enough > all {
			t.Errorf("FlipChance(%v) = %d, %d, with the other signs %d, %d", list, enough, all, other, all2)
		}
	}
}

func TestSignedRanksAddsBothSides(t *testing.T) {
	for _, c := range []struct {
		list         []int
		above, below int
	}{
		{nil, 0, 0},
		{[]int{}, 0, 0},
		{[]int{0}, 0, 0},
		{[]int{4}, 2, 0},
		{[]int{-4}, 0, 2},
		{[]int{4, -4}, 3, 3},
		{[]int{3, -1, 0, -3}, 5, 7},
		{[]int{0, 0, -1, 0, 2}, 4, 2},
		{[]int{-200, 199}, 2, 4},
		{[]int{200, -1}, 4, 2},
		{slices.Repeat([]int{0}, 10), 0, 0},
		{slices.Repeat([]int{200, -200}, 5), 55, 55},
		{slices.Repeat([]int{-200}, 10), 0, 110},
		{[]int{1, 2, 3, 4, 5, 6, 7, 8, 9, 10}, 110, 0},
		{[]int{1, -2, 3, -4, 5, -6, 7, -8, 9, -10}, 50, 60},
	} {
		if above, below := impl.SignedRanks(c.list); above != c.above || below != c.below {
			t.Errorf("SignedRanks(%v) = %d, %d, want %d, %d", c.list, above, below, c.above, c.below)
		}
	}
}

func TestSignedRanksWithoutNoughts(t *testing.T) {
	for _, list := range samples() {
		var sizes, signs []int
		for _, x := range list {
			if x > 0 {
				sizes, signs = append(sizes, x), append(signs, 1)
			} else if x < 0 {
				sizes, signs = append(sizes, -x), append(signs, -1)
			}
		}
		above, below := 0, 0
		for i, rank := range impl.RanksOf(sizes) {
			if signs[i] > 0 {
				above += rank
			} else {
				below += rank
			}
		}
		if x, y := impl.SignedRanks(list); x != above || y != below {
			t.Errorf("SignedRanks(%v) = %d, %d, want %d, %d", list, x, y, above, below)
		}
	}
}

// Promise 13.
func TestRanksOfBothSignsAreAll(t *testing.T) {
	for _, list := range samples() {
		others := 0
		for _, x := range list {
			if x != 0 {
				others++
			}
		}
		above, below := impl.SignedRanks(list)
		if above < 0 || below < 0 || above+below != others*(others+1) {
			t.Errorf("SignedRanks(%v) = %d, %d, want together %d", list, above, below, others*(others+1))
		}
		if x, y := impl.SignedRanks(otherSigns(list)); x != below || y != above {
			t.Errorf("SignedRanks(%v) = %d, %d, with the other signs %d, %d", list, above, below, x, y)
		}
	}
}

func TestRankSumsOfFewRanks(t *testing.T) {
	for n, want := range [][]int{{1}, {1, 1}, {1, 1, 1, 1}, {1, 1, 1, 2, 1, 1, 1}, {1, 1, 1, 2, 2, 2, 2, 2, 1, 1, 1}} {
		if got := impl.RankSums(n); !slices.Equal(got, want) {
			t.Errorf("RankSums(%d) = %v, want %v", n, got, want)
		}
	}
}

func TestRankSumsOfAllSets(t *testing.T) {
	for n := range impl.MaxOrder + 1 {
		var ranks []int
		for rank := range n {
			ranks = append(ranks, rank+1)
		}
		want := make([]int, n*(n+1)/2+1)
		for size := range n + 1 {
			for _, sum := range chosenSums(ranks, size) {
				want[sum]++
			}
		}
		if got := impl.RankSums(n); !slices.Equal(got, want) {
			t.Errorf("RankSums(%d) = %v, want %v", n, got, want)
		}
	}
}

// Promise 14.
func TestSumsOfRanksAreEven(t *testing.T) {
	for n := range impl.MaxOrder + 1 {
		counts := impl.RankSums(n)
		turned := slices.Clone(counts)
		slices.Reverse(turned)
		if len(counts) != n*(n+1)/2+1 || sumOf(counts) != 1<<n || !slices.Equal(turned, counts) {
			t.Errorf("RankSums(%d) = %v", n, counts)
		}
	}
}

func TestRunCountOfFewLetters(t *testing.T) {
	for _, c := range []struct{ m, n, r, want int }{
		{1, 1, 1, 0},
		{1, 1, 2, 2},
		{1, 1, 3, 0},
		{1, 1, math.MaxInt, 0},
		{2, 2, 1, 0},
		{2, 2, 2, 2},
		{2, 2, 3, 2},
		{2, 2, 4, 2},
		{2, 2, 5, 0},
		{1, 3, 2, 2},
		{1, 3, 3, 2},
		{1, 3, 4, 0},
		{3, 2, 3, 3},
		{3, 2, 5, 1},
		{1, 6, 3, 5},
		{6, 6, 1, 0},
		{6, 6, 2, 2},
		{6, 6, 7, 200},
		{6, 6, 11, 10},
		{6, 6, 12, 2},
		{6, 6, 13, 0},
		{6, 6, 1000, 0},
		{6, 6, math.MaxInt, 0},
	} {
		if got := impl.RunCount(c.m, c.n, c.r); got != c.want {
			t.Errorf("RunCount(%d, %d, %d) = %d, want %d", c.m, c.n, c.r, got, c.want)
		}
	}
}

func TestRunCountOfAllOrders(t *testing.T) {
	for m := 1; m <= impl.MaxSide; m++ {
		for n := 1; n <= impl.MaxSide; n++ {
			want := make([]int, m+n+4)
			eachWord(m, n, func(word string) { want[runsOfWord(word)]++ })
			for r := 1; r < len(want); r++ {
				if got := impl.RunCount(m, n, r); got != want[r] {
					t.Errorf("RunCount(%d, %d, %d) = %d, want %d", m, n, r, got, want[r])
				}
			}
		}
	}
}

// Promise 15.
func TestRunsAreAllOrders(t *testing.T) {
	for m := 1; m <= impl.MaxSide; m++ {
		for n := 1; n <= impl.MaxSide; n++ {
			all := 0
			for r := 1; r <= m+n; r++ {
				count, exchanged := impl.RunCount(m, n, r), impl.RunCount(n, m, r)
				if count < 0 || exchanged != count {
					t.Errorf("RunCount(%d, %d, %d) = %d, exchanged %d", m, n, r, count, exchanged)
				}
				all += count
			}
			if all != choices(m+n, m) {
				t.Errorf("RunCount(%d, %d, ..) are together %d", m, n, all)
			}
		}
	}
}

func TestSamplesOfOtherDataHaveFixedResults(t *testing.T) {
	for _, p := range badSamples() {
		if enough, all := impl.SplitChance(p[0], p[1]); enough != -1 || all != -1 {
			t.Errorf("SplitChance(%v, %v) = %d, %d", p[0], p[1], enough, all)
		}
		if got := impl.WinsOf(p[0], p[1]); got != -1 {
			t.Errorf("WinsOf(%v, %v) = %d", p[0], p[1], got)
		}
	}
	for _, list := range badData() {
		if enough, all := impl.FlipChance(list); enough != -1 || all != -1 {
			t.Errorf("FlipChance(%v) = %d, %d", list, enough, all)
		}
		if above, below := impl.SignedRanks(list); above != -1 || below != -1 {
			t.Errorf("SignedRanks(%v) = %d, %d", list, above, below)
		}
	}
}

func TestOrdersOfOtherNumbersHaveFixedResults(t *testing.T) {
	for _, bad := range badSides() {
		for _, other := range append(badSides(), 0, 1, 3, impl.MaxSide) {
			for _, p := range [][2]int{{bad, other}, {other, bad}} {
				if got := impl.WinCounts(p[0], p[1]); len(got) != 0 {
					t.Errorf("WinCounts(%d, %d) = %v", p[0], p[1], got)
				}
				for _, r := range []int{math.MinInt, 0, 1, 2, math.MaxInt} {
					if got := impl.RunCount(p[0], p[1], r); got != -1 {
						t.Errorf("RunCount(%d, %d, %d) = %d", p[0], p[1], r, got)
					}
				}
			}
		}
	}
	for _, r := range []int{0, -1, math.MinInt} {
		for _, p := range [][2]int{{1, 1}, {2, 3}, {impl.MaxSide, impl.MaxSide}, {0, 1}} {
			if got := impl.RunCount(p[0], p[1], r); got != -1 {
				t.Errorf("RunCount(%d, %d, %d) = %d", p[0], p[1], r, got)
			}
		}
	}
	for _, p := range [][2]int{{0, 0}, {0, 1}, {1, 0}, {0, impl.MaxSide}, {impl.MaxSide, 0}} {
		for _, r := range []int{1, 2, 1000} {
			if got := impl.RunCount(p[0], p[1], r); got != -1 {
				t.Errorf("RunCount(%d, %d, %d) = %d", p[0], p[1], r, got)
			}
		}
	}
	for _, n := range badOrders() {
		if got := impl.RankSums(n); n != 0 && len(got) != 0 {
			t.Errorf("RankSums(%d) = %v", n, got)
		}
	}
}

func TestSamplesLeaveArgumentsAlone(t *testing.T) {
	check := func(a, b []int) {
		// Numbers behind the end show whether spare memory of an argument is used.
		longA, longB := append(slices.Clone(a), 77, 78, 79), append(slices.Clone(b), 87, 88, 89)
		wantA, wantB := slices.Clone(longA), slices.Clone(longB)
		shortA, shortB := longA[:len(a)], longB[:len(b)]
		impl.SplitChance(shortA, shortB)
		impl.WinsOf(shortA, shortB)
		impl.FlipChance(shortA)
		impl.SignedRanks(shortA)
		if !slices.Equal(longA, wantA) || !slices.Equal(longB, wantB) {
			t.Errorf("%v and %v became %v and %v", wantA, wantB, longA, longB)
		}
	}
	twoSamples(check)
	for _, p := range badSamples() {
		check(p[0], p[1])
	}
	for _, list := range samples() {
		check(list, list)
	}
}

func TestSamplesGiveNewMemory(t *testing.T) {
	counts := []func() []int{}
	for n := range impl.MaxOrder + 1 {
		counts = append(counts, func() []int { return impl.RankSums(n) })
	}
	for m := range impl.MaxSide + 1 {
		for n := range impl.MaxSide + 1 {
			counts = append(counts, func() []int { return impl.WinCounts(m, n) })
		}
	}
	for _, count := range counts {
		want := count()
		kept := slices.Clone(want)
		overwrite(count())
		if again := count(); len(kept) == 0 || !slices.Equal(want, kept) || !slices.Equal(again, kept) {
			t.Errorf("counts became %v, and again %v, of %v", want, again, kept)
		}
	}
}
