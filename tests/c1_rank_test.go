package tests

import (
	"math"
	"slices"
	"testing"

	"loop.example/countedchances/impl"
)

func TestValidDataKnowsLimits(t *testing.T) {
	for _, list := range samples() {
		if !impl.ValidData(list) {
			t.Errorf("ValidData(%v) = false", list)
		}
	}
	if !impl.ValidData([]int{}) {
		t.Error("ValidData of an empty list = false")
	}
	for _, list := range badData() {
		if impl.ValidData(list) {
			t.Errorf("ValidData(%v) = true", list)
		}
	}
}

// Promise 1.
func TestDataCanBeCut(t *testing.T) {
	for _, list := range samples() {
		for size := range list {
			if !impl.ValidData(list[:size]) {
				t.Errorf("ValidData(%v) = false", list[:size])
			}
		}
	}
}

func TestRanksOfIsTwiceTheMeanPlace(t *testing.T) {
	for _, c := range []struct{ list, want []int }{
		{nil, nil},
		{[]int{-2}, []int{2}},
		{[]int{4, 4}, []int{3, 3}},
		{[]int{5, 1, 5, 3}, []int{7, 2, 7, 4}},
		{[]int{7, 7, 7}, []int{4, 4, 4}},
		{[]int{-200, 200, 0}, []int{2, 6, 4}},
		{slices.Repeat([]int{9}, 10), slices.Repeat([]int{11}, 10)},
		{[]int{10, 9, 8, 7, 6, 5, 4, 3, 2, 1}, []int{20, 18, 16, 14, 12, 10, 8, 6, 4, 2}},
	} {
		if got := impl.RanksOf(c.list); !slices.Equal(got, c.want) {
			t.Errorf("RanksOf(%v) = %v, want %v", c.list, got, c.want)
		}
	}
	for _, list := range samples() {
		sorted := slices.Sorted(slices.Values(list))
		for i, rank := range impl.RanksOf(list) {
			first := slices.Index(sorted, list[i]) + 1
			slices.Reverse(sorted)
			last := len(sorted) - slices.Index(sorted, list[i])
			slices.Reverse(sorted)
			if rank != first+last {
				t.Errorf("RanksOf(%v)[%d] = %d, want %d", list, i, rank, first+last)
			}
		}
	}
}

// Promise 2.
func TestRanksAddUp(t *testing.T) {
	for _, list := range samples() {
		ranks := impl.RanksOf(list)
		n := len(list)
		if len(ranks) != n || sumOf(ranks) != n*(n+1) {
			t.Fatalf("RanksOf(%v) = %v, want the sum %d", list, ranks, n*(n+1))
		}
		for i := range list {
			for k := range list {
				if list[i] < list[k] && ranks[i] >= ranks[k] || list[i] == list[k] && ranks[i] != ranks[k] {
					t.Errorf("RanksOf(%v) = %v do not rise with the numbers", list, ranks)
				}
			}
		}
	}
}

func TestTiesOfCountsEachValue(t *testing.T) {
	for _, c := range []struct{ list, want []int }{
		{nil, nil},
		{[]int{3}, nil},
		{[]int{1, 2}, nil},
		{[]int{2, 2}, []int{2}},
		{[]int{5, 1, 5, 1, 1, 3}, []int{3, 2}},
		{[]int{1, 5, 5, 1, 5, 3}, []int{2, 3}},
		{[]int{-200, 200, -200, 200}, []int{2, 2}},
		{[]int{9, -9, 9, 0, -9, 9, -9, 9}, []int{3, 4}},
		{slices.Repeat([]int{0}, 10), []int{10}},
		{[]int{2, 2, 1, 1, 3, 3, 5, 5, 4, 4}, []int{2, 2, 2, 2, 2}},
	} {
		if got := impl.TiesOf(c.list); !slices.Equal(got, c.want) {
			t.Errorf("TiesOf(%v) = %v, want %v", c.list, got, c.want)
		}
	}
}

// Promise 3.
func TestTiesAreToldByRanks(t *testing.T) {
	for _, list := range samples() {
		ties := impl.TiesOf(list)
		seen := map[int]bool{}
		plain := true
		for _, rank := range impl.RanksOf(list) {
			plain = plain && rank%2 == 0 && !seen[rank]
			seen[rank] = true
		}
		if plain != (len(ties) == 0) || sumOf(ties) > len(list) {
			t.Errorf("TiesOf(%v) = %v, RanksOf = %v", list, ties, impl.RanksOf(list))
		}
	}
}

func TestMiddleOfIsTwiceTheMiddle(t *testing.T) {
	for _, c := range []struct {
		list []int
		want int
	}{
		{[]int{-3}, -6},
		{[]int{4, 1, 9}, 8},
		{[]int{4, 1, 9, 5}, 9},
		{[]int{1, 2}, 3},
		{[]int{7, 7, 7, 7}, 14},
		{[]int{200}, 400},
		{[]int{-200, -200}, -400},
		{[]int{-200, 200}, 0},
		{[]int{10, 9, 8, 7, 6, 5, 4, 3, 2, 1}, 11},
		{[]int{0, 0, 0, 0, 0, 0, 0, 0, 0, 200}, 0},
	} {
		if got, ok := impl.MiddleOf(c.list); !ok || got != c.want {
			t.Errorf("MiddleOf(%v) = %d, %v, want %d", c.list, got, ok, c.want)
		}
	}
	for _, list := range [][]int{nil, {}} {
		if got, ok := impl.MiddleOf(list); ok || got != 0 {
			t.Errorf("MiddleOf of no data = %d, %v", got, ok)
		}
	}
}

// Promise 4.
func TestMiddlesHaveAsManyOnBothSides(t *testing.T) {
	for _, list := range samples() {
		if len(list) == 0 {
			continue
		}
		middle, ok := impl.MiddleOf(list)
		less, greater := 0, 0
		for _, x := range list {
			if 2*x < middle {
				less++
			} else if 2*x > middle {
				greater++
			}
		}
		if !ok || 2*less > len(list) || 2*greater > len(list) {
			t.Errorf("MiddleOf(%v) = %d, %v: %d are less, %d greater", list, middle, ok, less, greater)
		}
		if turned, ok := impl.MiddleOf(otherSigns(list)); !ok || turned != -middle {
			t.Errorf("MiddleOf(%v) = %d, %v, want %d", otherSigns(list), turned, ok, -middle)
		}
	}
}

func TestAgreeOfCountsPairs(t *testing.T) {
	up := []int{1, 2, 3, 4, 5, 6, 7, 8, 9, 10}
	down := []int{10, 9, 8, 7, 6, 5, 4, 3, 2, 1}
	for _, c := range []struct {
		a, b []int
		want int
	}{
		{nil, nil, 0},
		{nil, []int{}, 0},
		{[]int{3}, []int{-5}, 0},
		{[]int{1, 1}, []int{1, 2}, 0},
		{[]int{1, 2}, []int{5, 5}, 0},
		{[]int{6, 6, 6}, []int{6, 6, 6}, 0},
		{[]int{1, 2, 3, 4}, []int{1, 3, 2, 4}, 4},
		{[]int{4, 3, 2, 1}, []int{4, 2, 3, 1}, 4},
		{[]int{-200, 200}, []int{200, -200}, -1},
		{[]int{1, 2, 2, 3}, []int{1, 3, 2, 2}, 2},
		{up, up, 45},
		{down, down, 45},
		{up, down, -45},
	} {
		if got, ok := impl.AgreeOf(c.a, c.b); !ok || got != c.want {
			t.Errorf("AgreeOf(%v, %v) = %d, %v, want %d", c.a, c.b, got, ok, c.want)
		}
	}
}

// Promise 5.
func TestAgreementGoesBothWays(t *testing.T) {
	pairsOf(func(a, b []int) {
		agree, ok := impl.AgreeOf(a, b)
		back, ok2 := impl.AgreeOf(b, a)
		turned, ok3 := impl.AgreeOf(a, otherSigns(b))
		if !ok || !ok2 || !ok3 || back != agree || turned != -agree {
			t.Errorf("AgreeOf(%v, %v) = %d, the other way %d, with the other signs %d", a, b, agree, back, turned)
		}
	})
	for _, list := range samples() {
		differ := 0
		for i := range list {
			for k := range i {
				if list[i] != list[k] {
					differ++
				}
			}
		}
		if agree, ok := impl.AgreeOf(list, slices.Clone(list)); !ok || agree != differ {
			t.Errorf("AgreeOf(%v) with itself = %d, %v, want %d", list, agree, ok, differ)
		}
	}
}

func TestRankGapAddsSquares(t *testing.T) {
	for _, c := range []struct {
		a, b []int
		want int
	}{
		{nil, nil, 0},
		{[]int{}, nil, 0},
		{[]int{200}, []int{-200}, 0},
		{[]int{1, 2, 3}, []int{3, 2, 1}, 32},
		{[]int{1, 1}, []int{1, 2}, 2},
		{[]int{-200, 200}, []int{200, -200}, 8},
		{[]int{5, 5, 5}, []int{1, 2, 3}, 8},
		{[]int{1, 2, 3, 4, 5, 6, 7, 8, 9, 10}, []int{10, 9, 8, 7, 6, 5, 4, 3, 2, 1}, 1320},
	} {
		if got := impl.RankGap(c.a, c.b); got != c.want {
			t.Errorf("RankGap(%v, %v) = %d, want %d", c.a, c.b, got, c.want)
		}
	}
}

// Promise 6.
func TestGapsOfRanksAreNoneForTheSameOrder(t *testing.T) {
	pairsOf(func(a, b []int) {
		gap := impl.RankGap(a, b)
		ranks, others := impl.RanksOf(a), impl.RanksOf(b)
		if back := impl.RankGap(b, a); back != gap {
			t.Errorf("RankGap(%v, %v) = %d, the other way %d", a, b, gap, back)
		}
		if (gap == 0) != slices.Equal(ranks, others) {
			t.Errorf("RankGap(%v, %v) = %d", a, b, gap)
		}
		squares := 0
		for i := range ranks {
			x, y := ranks[i]-len(a)-1, others[i]-len(b)-1
			squares += x*x + y*y
		}
		if both := gap + impl.RankGap(a, otherSigns(b)); both != 2*squares {
			t.Errorf("RankGap(%v, %v) and that with the other signs = %d, want %d", a, b, both, 2*squares)
		}
	})
}

// Promise 7.
func TestOrdersFallAsOftenAsTheyRise(t *testing.T) {
	all := 1
	for n := 1; n <= impl.MaxOrder; n++ {
		all *= n
		counts := impl.FallCounts(n)
		if len(counts) != n*(n-1)/2+1 || sumOf(counts) != all || counts[0] != 1 {
			t.Fatalf("FallCounts(%d) = %v, want %d orders", n, counts, all)
		}
		turned := slices.Clone(counts)
		slices.Reverse(turned)
		if !slices.Equal(turned, counts) {
			t.Errorf("FallCounts(%d) = %v, which is another one the other way round", n, counts)
		}
	}
}

func TestFallCountsOfAllOrders(t *testing.T) {
	for n := 1; n <= impl.MaxOrder; n++ {
		want := make([]int, n*(n-1)/2+1)
		eachOrder(n, func(order []int) { want[fallsOf(order)]++ })
		if got := impl.FallCounts(n); !slices.Equal(got, want) {
			t.Errorf("FallCounts(%d) = %v, want %v", n, got, want)
		}
	}
}

// Promise 8.
func TestChancesOfBothEndsAreAll(t *testing.T) {
	all := 1
	for n := 1; n <= impl.MaxOrder; n++ {
		all *= n
		for s := -50; s <= 50; s++ {
			agree, orders := impl.AgreeChance(n, s)
			other, orders2 := impl.AgreeChance(n, 1-s)
			if orders != all || orders2 != all || agree+other != all {
				t.Errorf("AgreeChance(%d, %d) = %d, %d, of %d: %d, %d", n, s, agree, orders, 1-s, other, orders2)
			}
		}
		if agree, orders := impl.AgreeChance(n, math.MinInt); agree != all || orders != all {
			t.Errorf("AgreeChance(%d, MinInt) = %d, %d", n, agree, orders)
		}
		if agree, orders := impl.AgreeChance(n, math.MaxInt); agree != 0 || orders != all {
			t.Errorf("AgreeChance(%d, MaxInt) = %d, %d", n, agree, orders)
		}
		pairs := n * (n - 1) / 2
		if agree, _ := impl.AgreeChance(n, pairs); agree != 1 {
			t.Errorf("AgreeChance(%d, %d) = %d", n, pairs, agree)
		}
	}
}

func TestAgreeChanceOfAllOrders(t *testing.T) {
	for n := 1; n <= 7; n++ {
		var rising, agreements []int
		for i := range n {
			rising = append(rising, i+1)
		}
		eachOrder(n, func(order []int) {
			agree, _ := impl.AgreeOf(rising, order)
			agreements = append(agreements, agree)
		})
		for s := -25; s <= 25; s++ {
			want := 0
			for _, agree := range agreements {
				if agree >= s {
					want++
				}
			}
			if got, all := impl.AgreeChance(n, s); got != want || all != len(agreements) {
				t.Errorf("AgreeChance(%d, %d) = %d, %d, want %d, %d", n, s, got, all, want, len(agreements))
			}
		}
	}
}

func TestRanksOfOtherDataHaveFixedResults(t *testing.T) {
	for _, list := range badData() {
		if got := impl.RanksOf(list); len(got) != 0 {
			t.Errorf("RanksOf(%v) = %v", list, got)
		}
		if got := impl.TiesOf(list); len(got) != 0 {
			t.Errorf("TiesOf(%v) = %v", list, got)
		}
		if got, ok := impl.MiddleOf(list); ok || got != 0 {
			t.Errorf("MiddleOf(%v) = %d, %v", list, got, ok)
		}
	}
	for _, p := range badPairs() {
		if got, ok := impl.AgreeOf(p[0], p[1]); ok || got != 0 {
			t.Errorf("AgreeOf(%v, %v) = %d, %v", p[0], p[1], got, ok)
		}
		if got := impl.RankGap(p[0], p[1]); got != -1 {
			t.Errorf("RankGap(%v, %v) = %d", p[0], p[1], got)
		}
	}
	for _, n := range badOrders() {
		if got := impl.FallCounts(n); len(got) != 0 {
			t.Errorf("FallCounts(%d) = %v", n, got)
		}
		for _, s := range []int{math.MinInt, -1, 0, 1, math.MaxInt} {
			if got, all := impl.AgreeChance(n, s); got != -1 || all != -1 {
				t.Errorf("AgreeChance(%d, %d) = %d, %d", n, s, got, all)
			}
		}
	}
}

// callRanks calls each function of the chapter that takes lists, and returns the lists that they give.
func callRanks(a, b []int) [][]int {
	impl.ValidData(a)
	impl.MiddleOf(a)
	impl.AgreeOf(a, b)
	impl.RankGap(a, b)
	return [][]int{impl.RanksOf(a), impl.TiesOf(a), impl.RanksOf(b), impl.TiesOf(b)}
}

func TestRanksLeaveArgumentsAlone(t *testing.T) {
	check := func(a, b []int) {
		// Numbers behind the end show whether spare memory of an argument is used.
		longA, longB := append(slices.Clone(a), 77, 78, 79), append(slices.Clone(b), 87, 88, 89)
		wantA, wantB := slices.Clone(longA), slices.Clone(longB)
		for _, result := range callRanks(longA[:len(a)], longB[:len(b)]) {
			overwrite(result)
		}
		if !slices.Equal(longA, wantA) || !slices.Equal(longB, wantB) {
			t.Errorf("%v and %v became %v and %v", wantA, wantB, longA, longB)
		}
	}
	pairsOf(check)
	for _, p := range badPairs() {
		check(p[0], p[1])
	}
}

func TestRanksGiveNewMemory(t *testing.T) {
	for _, list := range samples() {
		want := callRanks(list, list)
		kept := make([][]int, len(want))
		for i := range want {
			kept[i] = slices.Clone(want[i])
		}
		for _, result := range callRanks(list, list) {
			overwrite(result)
		}
		for i, again := range callRanks(list, list) {
			if !slices.Equal(want[i], kept[i]) || !slices.Equal(again, kept[i]) {
				t.Errorf("a result of %v became %v, and again %v, of %v", list, want[i], again, kept[i])
			}
		}
	}
	for n := 1; n <= impl.MaxOrder; n++ {
		want := impl.FallCounts(n)
		kept := slices.Clone(want)
		overwrite(impl.FallCounts(n))
		if again := impl.FallCounts(n); !slices.Equal(want, kept) || !slices.Equal(again, kept) {
			t.Errorf("FallCounts(%d) became %v, and again %v, of %v", n, want, again, kept)
		}
	}
}
