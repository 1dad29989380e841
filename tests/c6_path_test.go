package tests

import (
	"maps"
	"math"
	"runtime"
	"slices"
	"sync"
	"testing"
	"time"

	"loop.example/countedchances/impl"
)

func TestResampleSumsOfFewNumbers(t *testing.T) {
	for _, c := range []struct{ list, sums, counts []int }{
		{[]int{0}, []int{0}, []int{1}},
		{[]int{5}, []int{5}, []int{1}},
		{[]int{impl.MaxValue}, []int{200}, []int{1}},
		{[]int{-impl.MaxValue}, []int{-200}, []int{1}},
		{[]int{1, 3}, []int{2, 4, 6}, []int{1, 2, 1}},
		{[]int{3, 1}, []int{2, 4, 6}, []int{1, 2, 1}},
		{[]int{2, 2}, []int{4}, []int{4}},
		{[]int{-200, 200}, []int{-400, 0, 400}, []int{1, 2, 1}},
		{[]int{3, 0, 1}, []int{0, 1, 2, 3, 4, 5, 6, 7, 9}, []int{1, 3, 3, 4, 6, 3, 3, 3, 1}},
		{[]int{1, 2, 1}, []int{3, 4, 5, 6}, []int{8, 12, 6, 1}},
		{[]int{7, 7, 7}, []int{21}, []int{27}},
		{[]int{1, 2, 3, 4}, []int{4, 5, 6, 7, 8, 9, 10, 11, 12, 13, 14, 15, 16}, []int{1, 4, 10, 20, 31, 40, 44, 40, 31, 20, 10, 4, 1}},
		{[]int{0, 0, 1, 0}, []int{0, 1, 2, 3, 4}, []int{81, 108, 54, 12, 1}},
		{[]int{5, 0, 0, 5}, []int{0, 5, 10, 15, 20}, []int{16, 64, 96, 64, 16}},
		{[]int{200, -200, 200, -200}, []int{-800, -400, 0, 400, 800}, []int{16, 64, 96, 64, 16}},
		{[]int{200, 200, 200, 200}, []int{800}, []int{256}},
		{[]int{-200, -200, -200, -200}, []int{-800}, []int{256}},
	} {
		if sums, counts := impl.ResampleSums(c.list); !slices.Equal(sums, c.sums) || !slices.Equal(counts, c.counts) {
			t.Errorf("ResampleSums(%v) = %v, %v, want %v, %v", c.list, sums, counts, c.sums, c.counts)
		}
	}
}

func TestResampleSumsOfAllDraws(t *testing.T) {
	for _, list := range drawLists() {
		want := drawCounts(list)
		sums, counts := impl.ResampleSums(list)
		if !slices.Equal(sums, slices.Sorted(maps.Keys(want))) || len(counts) != len(sums) {
			t.Fatalf("ResampleSums(%v) = %v, %v, want %v", list, sums, counts, want)
		}
		for i, sum := range sums {
			if counts[i] != want[sum] {
				t.Errorf("ResampleSums(%v) = %v, %v, want %v", list, sums, counts, want)
			}
		}
	}
}

// Promise 34.
func TestDrawsAreAsGreatAsTheDataInTheMiddle(t *testing.T) {
	for _, list := range drawLists() {
		sums, counts := impl.ResampleSums(list)
		if len(sums) != len(counts) {
			t.Fatalf("ResampleSums(%v) = %v, %v", list, sums, counts)
		}
		all, total := 1, 0
		for range list {
			all *= len(list)
		}
		for i, sum := range sums {
			total += sum * counts[i]
		}
		if sumOf(counts) != all || total != sumOf(list)*all {
			t.Errorf("ResampleSums(%v) = %v, %v: %d draws of %d, and %d together", list, sums, counts, sumOf(counts), all, total)
		}
	}
}

func TestPairMiddleOfFewNumbers(t *testing.T) {
	for _, c := range []struct {
		list []int
		want int
	}{
		{[]int{0}, 0},
		{[]int{3}, 12},
		{[]int{-1}, -4},
		{[]int{impl.MaxValue}, 800},
		{[]int{-impl.MaxValue}, -800},
		{[]int{0, 1}, 2},
		{[]int{4, 1}, 10},
		{[]int{5, 5}, 20},
		{[]int{-200, 200}, 0},
		{[]int{1, 2, 9}, 14},
		{[]int{0, 3, 0}, 3},
		{[]int{0, -3, 0}, -3},
		{[]int{1, 2, 3, 4}, 10},
		{[]int{0, 0, 0, 1}, 0},
		{[]int{0, 1, 0, 1}, 2},
		{[]int{200, 200, 200, -200}, 800},
		{[]int{0, 1, 0, 1, 0}, 2},
		{[]int{10, 9, 8, 7, 6, 5, 4, 3, 2, 1}, 22},
		{slices.Repeat([]int{200}, impl.MaxData), 800},
		{slices.Repeat([]int{-200}, impl.MaxData), -800},
		{slices.Repeat([]int{200, -200}, impl.MaxData/2), 0},
	} {
		if got, ok := impl.PairMiddle(c.list); !ok || got != c.want {
			t.Errorf("PairMiddle(%v) = %d, %v, want %d", c.list, got, ok, c.want)
		}
	}
}

func TestPairMiddleOfAllPairs(t *testing.T) {
	for _, list := range samples()[1:] {
		var sums []int
		for i, x := range list {
			sums = append(sums, 2*x)
			for _, y := range list[i+1:] {
				sums = append(sums, x+y)
			}
		}
		if got, ok := impl.PairMiddle(list); !ok || got != middleTwice(sums) {
			t.Errorf("PairMiddle(%v) = %d, %v, want %d", list, got, ok, middleTwice(sums))
		}
	}
}

// Promise 35.
func TestMiddlesOfPairsAreWithinTheData(t *testing.T) {
	for _, list := range samples()[1:] {
		middle, ok := impl.PairMiddle(list)
		if !ok || middle < 4*slices.Min(list) || middle > 4*slices.Max(list) {
			t.Errorf("PairMiddle(%v) = %d, %v", list, middle, ok)
		}
		if turned, ok := impl.PairMiddle(otherSigns(list)); !ok || turned != -middle {
			t.Errorf("PairMiddle(%v) = %d, %v, want %d", otherSigns(list), turned, ok, -middle)
		}
	}
}

func TestShiftMiddleOfFewNumbers(t *testing.T) {
	for _, c := range []struct {
		a, b []int
		want int
	}{
		{[]int{1}, []int{1}, 0},
		{[]int{1}, []int{4}, 6},
		{[]int{4}, []int{1}, -6},
		{[]int{-200}, []int{200}, 800},
		{[]int{200}, []int{-200}, -800},
		{[]int{1, 2}, []int{5, 9}, 11},
		{[]int{5, 9}, []int{1, 2}, -11},
		{[]int{1, 2}, []int{4, 3}, 4},
		{[]int{0, 0}, []int{3}, 6},
		{[]int{0, 1}, []int{0}, -1},
		{[]int{0}, []int{0, 1}, 1},
		{[]int{1, 2, 3}, []int{1, 2, 3}, 0},
		{[]int{0, 0, 5}, []int{1, 1, 1}, 2},
		{[]int{1, 5}, []int{0, 2, 7}, 0},
		{[]int{0}, []int{1, 2, 3, 4, 5, 6, 7, 8, 9}, 10},
		{[]int{1, 2, 3, 4, 5, 6, 7, 8, 9}, []int{0}, -10},
		{[]int{0, 0, 0, 0, 0}, []int{7, 7, 7, 7, 7}, 14},
	} {
		if got, ok := impl.ShiftMiddle(c.a, c.b); !ok || got != c.want {
			t.Errorf("ShiftMiddle(%v, %v) = %d, %v, want %d", c.a, c.b, got, ok, c.want)
		}
	}
}

func TestShiftMiddleOfAllDifferences(t *testing.T) {
	twoSamples(func(a, b []int) {
		var shifts []int
		for _, x := range a {
			for _, y := range b {
				shifts = append(shifts, y-x)
			}
		}
		if got, ok := impl.ShiftMiddle(a, b); !ok || got != middleTwice(shifts) {
			t.Errorf("ShiftMiddle(%v, %v) = %d, %v, want %d", a, b, got, ok, middleTwice(shifts))
		}
	})
}

// Promise 36.
func TestShiftsGoBack(t *testing.T) {
	twoSamples(func(a, b []int) {
		there, ok := impl.ShiftMiddle(a, b)
		back, okBack := impl.ShiftMiddle(b, a)
		if !ok || !okBack || there != -back {
			t.Errorf("ShiftMiddle of %v and %v = %d, %v, and back %d, %v", a, b, there, ok, back, okBack)
		}
	})
	for _, list := range samples()[1:] {
		if 2*len(list) > impl.MaxData {
			continue
		}
		if got, ok := impl.ShiftMiddle(list, list); !ok || got != 0 {
			t.Errorf("ShiftMiddle(%v, %v) = %d, %v", list, list, got, ok)
		}
	}
}

func TestPathsWithinOfFewSteps(t *testing.T) {
	for _, c := range [][4]int{
		{1, 1, 0, 0}, {1, 1, 1, 2}, {1, 1, 2, 2}, {1, 1, math.MaxInt, 2},
		{2, 1, 0, 0}, {2, 1, 1, 1}, {2, 1, 2, 3}, {2, 1, 3, 3},
		{1, 2, 0, 0}, {1, 2, 1, 1}, {1, 2, 2, 3}, {1, 2, math.MaxInt, 3},
		{2, 2, 0, 0}, {2, 2, 1, 0}, {2, 2, 2, 4}, {2, 2, 3, 4}, {2, 2, 4, 6}, {2, 2, 5, 6},
		{3, 1, 1, 0}, {3, 1, 2, 2}, {3, 1, 3, 4},
		{6, 1, 2, 0}, {6, 1, 3, 1}, {6, 1, 4, 3}, {6, 1, 5, 5}, {6, 1, 6, 7}, {6, 1, 7, 7},
		{1, 6, 2, 0}, {1, 6, 3, 1}, {1, 6, 4, 3}, {1, 6, 5, 5}, {1, 6, 6, 7}, {1, 6, math.MaxInt, 7},
		{6, 6, 0, 0}, {6, 6, 5, 0}, {6, 6, 6, 64}, {6, 6, 11, 64}, {6, 6, 12, 486}, {6, 6, 29, 900},
		{6, 6, 30, 922}, {6, 6, 35, 922}, {6, 6, 36, 924}, {6, 6, 37, 924}, {6, 6, math.MaxInt, 924},
	} {
		if got := impl.PathsWithin(c[0], c[1], c[2]); got != c[3] {
			t.Errorf("PathsWithin(%d, %d, %d) = %d, want %d", c[0], c[1], c[2], got, c[3])
		}
	}
}

func TestPathsWithinOfAllWays(t *testing.T) {
	eachSteps(func(m, n int) {
		gaps := gapsOfWords(m, n)
		for d := range m*n + 3 {
			want := 0
			for _, gap := range gaps {
				if gap <= d {
					want++
				}
			}
			if got := impl.PathsWithin(m, n, d); got != want {
				t.Errorf("PathsWithin(%d, %d, %d) = %d, want %d", m, n, d, got, want)
			}
		}
	})
}

// Promise 37.
func TestWideBoundsLetAllWaysPass(t *testing.T) {
	eachSteps(func(m, n int) {
		for d := range m*n + 3 {
			got := impl.PathsWithin(m, n, d)
			if turned := impl.PathsWithin(n, m, d); got < 0 || turned != got {
				t.Errorf("PathsWithin(%d, %d, %d) = %d, and the other way %d", m, n, d, got, turned)
			}
			if wider := impl.PathsWithin(m, n, d+1); wider < got {
				t.Errorf("PathsWithin(%d, %d, %d) = %d, and one wider %d", m, n, d, got, wider)
			}
		}
		for _, d := range []int{m * n, m*n + 1, 1000, math.MaxInt - 1, math.MaxInt} {
			if got := impl.PathsWithin(m, n, d); got != choices(m+n, m) {
				t.Errorf("PathsWithin(%d, %d, %d) = %d, want %d", m, n, d, got, choices(m+n, m))
			}
		}
	})
}

func TestGapOfFewNumbers(t *testing.T) {
	for _, c := range []struct {
		a, b []int
		want int
	}{
		{[]int{1}, []int{1}, 0},
		{[]int{1}, []int{2}, 1},
		{[]int{2}, []int{1}, 1},
		{[]int{-200}, []int{200}, 1},
		{[]int{200}, []int{-200}, 1},
		{[]int{200}, []int{200}, 0},
		{[]int{-200}, []int{-200}, 0},
		{[]int{1, 2}, []int{2, 1}, 0},
		{[]int{1, 1}, []int{1}, 0},
		{[]int{5, 5, 5}, []int{5, 5}, 0},
		{[]int{1, 1}, []int{1, 2}, 2},
		{[]int{1, 2}, []int{3, 4}, 4},
		{[]int{4, 3}, []int{2, 1}, 4},
		{[]int{1, 3}, []int{2, 4}, 2},
		{[]int{1, 4}, []int{2, 3}, 2},
		{[]int{3, 1, 2}, []int{2}, 1},
		{[]int{1, 2, 3}, []int{1, 4}, 3},
		{[]int{1, 4}, []int{1, 2, 3}, 3},
		{[]int{3, 4}, []int{1, 2, 5}, 4},
		{[]int{1, 2, 5}, []int{3, 4}, 4},
		{[]int{1}, []int{2, 3, 4, 5, 6, 7, 8, 9, 10}, 9},
		{[]int{2, 3, 4, 5, 6, 7, 8, 9, 10}, []int{1}, 9},
		{[]int{1, 2, 3, 4, 5}, []int{6, 7, 8, 9, 10}, 25},
		{[]int{6, 7, 8, 9, 10}, []int{1, 2, 3, 4, 5}, 25},
		{[]int{1, 3, 5, 7, 9}, []int{2, 4, 6, 8, 10}, 5},
		{[]int{0, 0, 0, 0, 0}, []int{0, 0, 0, 0, 0}, 0},
	} {
		if got := impl.GapOf(c.a, c.b); got != c.want {
			t.Errorf("GapOf(%v, %v) = %d, want %d", c.a, c.b, got, c.want)
		}
	}
}

func TestGapOfManySamples(t *testing.T) {
	twoSamples(func(a, b []int) {
		if got := impl.GapOf(a, b); got != gapAtAll(a, b) {
			t.Errorf("GapOf(%v, %v) = %d, want %d", a, b, got, gapAtAll(a, b))
		}
	})
}

// Promise 38.
func TestGapsGoBothWays(t *testing.T) {
	parted := 0
	twoSamples(func(a, b []int) {
		gap, product := impl.GapOf(a, b), len(a)*len(b)
		if back := impl.GapOf(b, a); gap < 0 || gap > product || back != gap {
			t.Errorf("GapOf(%v, %v) = %d, and back %d", a, b, gap, back)
		}
		if turned := impl.GapOf(otherSigns(a), otherSigns(b)); turned != gap {
			t.Errorf("GapOf(%v, %v) = %d, and with the other signs %d", a, b, gap, turned)
		}
		if slices.Max(a) < slices.Min(b) || slices.Max(b) < slices.Min(a) {
			parted++
			if gap != product {
				t.Errorf("GapOf(%v, %v) = %d, want %d", a, b, gap, product)
			}
		}
	})
	if parted == 0 {
		t.Error("no samples are apart")
	}
}

func TestGapChanceOfFewNumbers(t *testing.T) {
	for _, c := range []struct {
		a, b        []int
		enough, all int
	}{
		{[]int{1}, []int{2}, 2, 2},
		{[]int{2}, []int{1}, 2, 2},
		{[]int{-200}, []int{200}, 2, 2},
		{[]int{200}, []int{-200}, 2, 2},
		{[]int{1, 2}, []int{3}, 2, 3},
		{[]int{2, 3}, []int{1}, 2, 3},
		{[]int{1, 3}, []int{2}, 3, 3},
		{[]int{1, 2}, []int{3, 4}, 2, 6},
		{[]int{4, 3}, []int{2, 1}, 2, 6},
		{[]int{1, 3}, []int{2, 4}, 6, 6},
		{[]int{4, 1}, []int{2, 3}, 6, 6},
		{[]int{1}, []int{2, 3, 4, 5, 6, 7}, 2, 7},
		{[]int{2, 3, 4, 5, 6, 7}, []int{1}, 2, 7},
		{[]int{3}, []int{1, 2, 4, 5, 6, 7}, 6, 7},
		{[]int{4}, []int{1, 2, 3, 5, 6, 7}, 7, 7},
		{[]int{1, 2, 3, 4, 5}, []int{6, 7, 8, 9, 10}, 2, 252},
		{[]int{6, 7, 8, 9, 10}, []int{1, 2, 3, 4, 5}, 2, 252},
		{[]int{1, 3, 5, 7, 9}, []int{2, 4, 6, 8, 10}, 252, 252},
		{[]int{1, 2, 3, 4, 5, 6}, []int{7, 8, 9, 10}, 2, 210},
		{[]int{7, 8, 9, 10}, []int{1, 2, 3, 4, 5, 6}, 2, 210},
	} {
		if enough, all := impl.GapChance(c.a, c.b); enough != c.enough || all != c.all {
			t.Errorf("GapChance(%v, %v) = %d, %d, want %d, %d", c.a, c.b, enough, all, c.enough, c.all)
		}
	}
}

func TestGapChanceOfAllOrders(t *testing.T) {
	gaps := map[[2]int][]int{}
	eachSteps(func(m, n int) { gaps[[2]int{m, n}] = gapsOfWords(m, n) })
	eachSidesWord(func(word string) {
		gap := gapOfWord(word)
		for _, values := range [][]int{{1, 2, 3, 4, 5, 6, 7, 8, 9, 10}, {-200, -199, -50, -1, 0, 1, 2, 77, 199, 200}} {
			a, b := samplesOf(word, values)
			others := gaps[[2]int{len(a), len(b)}]
			want := 0
			for _, other := range others {
				if other >= gap {
					want++
				}
			}
			// The order in a sample does not count.
			slices.Reverse(a)
			if enough, all := impl.GapChance(a, b); enough != want || all != len(others) {
				t.Errorf("GapChance(%v, %v) = %d, %d, want %d, %d", a, b, enough, all, want, len(others))
			}
		}
	})
}

// Promise 39.
func TestGapsAreNoWonderIfTheyAreTheLeast(t *testing.T) {
	least := map[[2]int]int{}
	eachSidesWord(func(word string) {
		a, b := samplesOf(word, []int{-9, -4, -1, 0, 2, 3, 5, 6, 8, 11})
		sides := [2]int{len(a), len(b)}
		enough, all := impl.GapChance(a, b)
		if back, allBack := impl.GapChance(b, a); back != enough || allBack != all {
			t.Errorf("GapChance(%v, %v) = %d, %d, and back %d, %d", a, b, enough, all, back, allBack)
		}
		if enough < 1 || enough > all || all != choices(len(word), len(a)) {
			t.Errorf("GapChance(%v, %v) = %d, %d", a, b, enough, all)
		}
		if apart := slices.Max(a) < slices.Min(b) || slices.Max(b) < slices.Min(a); apart && enough < 2 {
			t.Errorf("GapChance(%v, %v) = %d, %d", a, b, enough, all)
		}
		if gap, seen := least[sides]; !seen || impl.GapOf(a, b) < gap {
			least[sides] = impl.GapOf(a, b)
		}
	})
	eachSidesWord(func(word string) {
		a, b := samplesOf(word, []int{-9, -4, -1, 0, 2, 3, 5, 6, 8, 11})
		noWonder := impl.GapOf(a, b) == least[[2]int{len(a), len(b)}]
		if enough, all := impl.GapChance(a, b); noWonder != (enough == all) {
			t.Errorf("GapChance(%v, %v) = %d, %d", a, b, enough, all)
		}
	})
}

func TestOtherDrawsHaveFixedResults(t *testing.T) {
	for _, list := range badDraws() {
		if sums, counts := impl.ResampleSums(list); len(sums) != 0 || len(counts) != 0 {
			t.Errorf("ResampleSums(%v) = %v, %v", list, sums, counts)
		}
	}
	for _, list := range append(badData(), nil, []int{}) {
		if got, ok := impl.PairMiddle(list); ok || got != 0 {
			t.Errorf("PairMiddle(%v) = %d, %v", list, got, ok)
		}
	}
}

func TestGapsOfOtherSamplesHaveFixedResults(t *testing.T) {
	for _, p := range badSamples() {
		if got, ok := impl.ShiftMiddle(p[0], p[1]); ok || got != 0 {
			t.Errorf("ShiftMiddle(%v, %v) = %d, %v", p[0], p[1], got, ok)
		}
		if got := impl.GapOf(p[0], p[1]); got != -1 {
			t.Errorf("GapOf(%v, %v) = %d", p[0], p[1], got)
		}
		if enough, all := impl.GapChance(p[0], p[1]); enough != -1 || all != -1 {
			t.Errorf("GapChance(%v, %v) = %d, %d", p[0], p[1], enough, all)
		}
	}
}

func TestPathsOfOtherNumbersHaveAFixedResult(t *testing.T) {
	bounds := []int{math.MinInt, -1, 0, 1, 6, 36, math.MaxInt}
	for _, bad := range append(badSides(), 0) {
		for _, other := range append(badSides(), 0, 1, 3, impl.MaxSide) {
			for _, d := range bounds {
				if got := impl.PathsWithin(bad, other, d); got != -1 {
					t.Errorf("PathsWithin(%d, %d, %d) = %d", bad, other, d, got)
				}
				if got := impl.PathsWithin(other, bad, d); got != -1 {
					t.Errorf("PathsWithin(%d, %d, %d) = %d", other, bad, d, got)
				}
			}
		}
	}
	eachSteps(func(m, n int) {
		for _, d := range []int{-1, -2, -m * n, math.MinInt} {
			if got := impl.PathsWithin(m, n, d); got != -1 {
				t.Errorf("PathsWithin(%d, %d, %d) = %d", m, n, d, got)
			}
		}
	})
}

func TestGapChanceOfOtherSamplesHasAFixedResult(t *testing.T) {
	pairs := [][2][]int{
		{{1}, {1}},
		{{0, 0}, {1}},
		{{0}, {1, 1}},
		{{1, 2}, {3, 1}},
		{{1, 2}, {2, 3}},
		{{1, 2, 1}, {5, 6, 7}},
		{{200, -200}, {-200, 199}},
		{{5, 5, 5, 5, 5}, {5, 5, 5, 5, 5}},
		{{1, 2, 3, 4, 5}, {6, 7, 8, 9, 1}},
		{{1, 2, 3, 4, 5, 6}, {10, 9, 8, 6}},
		{{1, 2, 3, 4, 5, 6, 7}, {8}},
		{{1, 2, 3, 4, 5, 6, 7}, {8, 9, 10}},
		{{4}, {1, 2, 3, 5, 6, 7, 8}},
		{{1, 2, 3, 4, 5, 6, 7, 8, 9}, {0}},
		{{1, 1, 1, 1, 1, 1, 1}, {2}},
	}
	twoSamples(func(a, b []int) {
		sorted := slices.Sorted(slices.Values(slices.Concat(a, b)))
		if max(len(a), len(b)) > impl.MaxSide || len(slices.Compact(sorted)) < len(a)+len(b) {
			pairs = append(pairs, [2][]int{a, b})
		}
	})
	for _, p := range pairs {
		for _, q := range [][2][]int{{p[0], p[1]}, {p[1], p[0]}} {
			if enough, all := impl.GapChance(q[0], q[1]); enough != -1 || all != -1 {
				t.Errorf("GapChance(%v, %v) = %d, %d", q[0], q[1], enough, all)
			}
		}
	}
}

func TestPathsLeaveArgumentsAlone(t *testing.T) {
	check := func(a, b []int) {
		// Numbers behind the end show whether spare memory of an argument is used.
		longA, longB := append(slices.Clone(a), 77, 78, 79), append(slices.Clone(b), 87, 88, 89)
		wantA, wantB := slices.Clone(longA), slices.Clone(longB)
		shortA, shortB := longA[:len(a)], longB[:len(b)]
		for _, list := range [][]int{shortA, shortB} {
			sums, counts := impl.ResampleSums(list)
			// A result that shares memory with the argument changes it here.
			overwrite(sums)
			overwrite(counts)
			impl.PairMiddle(list)
		}
		impl.ShiftMiddle(shortA, shortB)
		impl.GapOf(shortA, shortB)
		impl.GapChance(shortA, shortB)
		if !slices.Equal(longA, wantA) || !slices.Equal(longB, wantB) {
			t.Errorf("%v and %v became %v and %v", wantA, wantB, longA, longB)
		}
	}
	twoSamples(check)
	eachSidesWord(func(word string) {
		a, b := samplesOf(word, []int{10, 9, 8, 7, 6, 5, 4, 3, 2, 1})
		check(a, b)
	})
	for _, p := range badSamples() {
		check(p[0], p[1])
	}
	for _, list := range append(drawLists(), badDraws()...) {
		check(list, list)
	}
}

func TestDrawsGiveNewMemory(t *testing.T) {
	for _, list := range drawLists() {
		sums, counts := impl.ResampleSums(list)
		keptSums, keptCounts := slices.Clone(sums), slices.Clone(counts)
		otherSums, otherCounts := impl.ResampleSums(list)
		overwrite(otherSums)
		if !slices.Equal(otherCounts, keptCounts) {
			t.Errorf("the counts of %v became %v, of %v", list, otherCounts, keptCounts)
		}
		otherSums, otherCounts = impl.ResampleSums(list)
		overwrite(otherCounts)
		if !slices.Equal(otherSums, keptSums) {
			t.Errorf("the sums of %v became %v, of %v", list, otherSums, keptSums)
		}
		if !slices.Equal(sums, keptSums) || !slices.Equal(counts, keptCounts) {
			t.Errorf("ResampleSums(%v) became %v, %v, of %v, %v", list, sums, counts, keptSums, keptCounts)
		}
	}
}

func TestDrawsAtTheSameTime(t *testing.T) {
	lists := drawLists()
	running := runtime.NumGoroutine()
	var group sync.WaitGroup
	for worker := range 8 {
		group.Go(func() {
			for i := worker; i < len(lists); i += 3 {
				want := drawCounts(lists[i])
				sums, counts := impl.ResampleSums(lists[i])
				for k, sum := range sums {
					if len(sums) != len(want) || counts[k] != want[sum] {
						t.Errorf("ResampleSums(%v) = %v, %v, want %v", lists[i], sums, counts, want)
						return
					}
				}
			}
		})
	}
	group.Wait()
	for _, list := range badDraws() {
		impl.ResampleSums(list)
	}
	// A goroutine may need a moment to end behind the close of its channel.
	for range 1000 {
		if runtime.NumGoroutine() <= running {
			return
		}
		time.Sleep(time.Millisecond)
	}
	t.Errorf("%d goroutines became %d", running, runtime.NumGoroutine())
}
