package tests

import (
	"math/big"
	"slices"
	"testing"

	"loop.example/countedchances/impl"
)

// Promise 50.
func TestNumbersWithWeightsAreSuchWithoutWeights(t *testing.T) {
	eachLoads(func(list, weights []int) {
		if !impl.ValidLoads(list, weights) || !impl.ValidLoads(list, ones(len(list))) {
			t.Errorf("ValidLoads(%v, %v) = %v, and with weights of 1 %v", list, weights, impl.ValidLoads(list, weights), impl.ValidLoads(list, ones(len(list))))
		}
	})
}

func TestValidLoadsOfFewNumbers(t *testing.T) {
	for _, c := range []struct {
		list, weights []int
		want          bool
	}{
		{[]int{0}, []int{1}, true},
		{[]int{impl.MaxHeight}, []int{impl.MaxWeight}, true},
		{[]int{-impl.MaxHeight}, []int{1}, true},
		{[]int{30, -30, 0}, []int{5, 1, 3}, true},
		{[]int{1, 2, 3, 4, 5, 6, 7, 8}, ones(8), true},
		{[]int{1, 2, 3, 4, 5, 6, 7, 8, 9}, ones(9), false},
		{[]int{1, 2}, []int{1}, false},
		{[]int{1}, []int{1, 2}, false},
		{nil, nil, false},
		{[]int{31}, []int{1}, false},
		{[]int{-31}, []int{1}, false},
		{[]int{0, 31}, []int{1, 1}, false},
		{[]int{1}, []int{0}, false},
		{[]int{1}, []int{6}, false},
		{[]int{1, 1}, []int{1, -1}, false},
	} {
		if got := impl.ValidLoads(c.list, c.weights); got != c.want {
			t.Errorf("ValidLoads(%v, %v) = %v", c.list, c.weights, got)
		}
	}
}

func TestMeanOfFewNumbers(t *testing.T) {
	eight := []int{1, 2, 3, 4, 5, 6, 7, 8}
	for _, c := range []struct {
		list, weights []int
		i, k          int
		want          impl.Frac
	}{
		{[]int{5}, []int{1}, 0, 0, frac(5, 1)},
		{[]int{0}, []int{3}, 0, 0, frac(0, 1)},
		{[]int{-30}, []int{5}, 0, 0, frac(-30, 1)},
		{[]int{4, 1}, []int{1, 2}, 0, 1, frac(2, 1)},
		{[]int{4, 1}, []int{1, 2}, 0, 0, frac(4, 1)},
		{[]int{4, 1}, []int{1, 2}, 1, 1, frac(1, 1)},
		{[]int{1, 2}, []int{1, 1}, 0, 1, frac(3, 2)},
		{[]int{1, 2}, []int{1, 2}, 0, 1, frac(5, 3)},
		{[]int{-1, -2}, []int{1, 2}, 0, 1, frac(-5, 3)},
		{[]int{-1, 0, 1}, []int{5, 1, 5}, 0, 2, frac(0, 1)},
		{[]int{-1, 0, 1}, []int{5, 1, 5}, 1, 2, frac(5, 6)},
		{[]int{30, -30}, []int{5, 1}, 0, 1, frac(20, 1)},
		{[]int{30, -30}, []int{1, 5}, 0, 1, frac(-20, 1)},
		{eight, ones(8), 0, 0, frac(1, 1)},
		{eight, ones(8), 7, 7, frac(8, 1)},
		{eight, ones(8), 3, 5, frac(5, 1)},
		{eight, ones(8), 0, 7, frac(9, 2)},
		{[]int{1, 0, 0, 0, 0, 0, 0, 0}, []int{1, 5, 5, 5, 5, 5, 5, 5}, 0, 7, frac(1, 36)},
		{slices.Repeat([]int{30}, 8), slices.Repeat([]int{5}, 8), 0, 7, frac(30, 1)},
	} {
		if got, ok := impl.MeanOf(c.list, c.weights, c.i, c.k); !ok || got != c.want {
			t.Errorf("MeanOf(%v, %v, %d, %d) = %v, %v, want %v", c.list, c.weights, c.i, c.k, got, ok, c.want)
		}
	}
}

// Promise 51.
func TestMeansAreWithinTheNumbers(t *testing.T) {
	eachLoads(func(list, weights []int) {
		for i := range list {
			for k := i; k < len(list); k++ {
				got, ok := impl.MeanOf(list, weights, i, k)
				if !ok || got != told(meanBetween(list, weights, i, k)) {
					t.Fatalf("MeanOf(%v, %v, %d, %d) = %v, %v, want %v", list, weights, i, k, got, ok, meanBetween(list, weights, i, k))
				}
				if less(got, frac(slices.Min(list[i:k+1]), 1)) || less(frac(slices.Max(list[i:k+1]), 1), got) {
					t.Errorf("MeanOf(%v, %v, %d, %d) = %v", list, weights, i, k, got)
				}
			}
		}
	})
}

func TestRisesOfFewNumbers(t *testing.T) {
	for _, c := range []struct {
		list, weights []int
		blocks        []int
		row           []impl.Frac
		miss          impl.Frac
	}{
		{[]int{7}, []int{3}, []int{0}, []impl.Frac{frac(7, 1)}, frac(0, 1)},
		{[]int{-30}, []int{5}, []int{0}, []impl.Frac{frac(-30, 1)}, frac(0, 1)},
		{[]int{1, 4, 2, 5}, ones(4), []int{0, 1, 3}, []impl.Frac{frac(1, 1), frac(3, 1), frac(3, 1), frac(5, 1)}, frac(2, 1)},
		{[]int{3, 2, 1}, ones(3), []int{0}, []impl.Frac{frac(2, 1), frac(2, 1), frac(2, 1)}, frac(2, 1)},
		{[]int{1, 2, 3}, ones(3), []int{0, 1, 2}, []impl.Frac{frac(1, 1), frac(2, 1), frac(3, 1)}, frac(0, 1)},
		{[]int{-30, 30}, []int{5, 1}, []int{0, 1}, []impl.Frac{frac(-30, 1), frac(30, 1)}, frac(0, 1)},
		{[]int{30, -30}, []int{1, 5}, []int{0}, []impl.Frac{frac(-20, 1), frac(-20, 1)}, frac(3000, 1)},
		{[]int{4, 1}, []int{1, 2}, []int{0}, []impl.Frac{frac(2, 1), frac(2, 1)}, frac(6, 1)},
		// Numbers that are the same are one block.
		{[]int{1, 1}, []int{1, 2}, []int{0}, []impl.Frac{frac(1, 1), frac(1, 1)}, frac(0, 1)},
		{[]int{1, 3, 3, 5}, ones(4), []int{0, 1, 3}, []impl.Frac{frac(1, 1), frac(3, 1), frac(3, 1), frac(5, 1)}, frac(0, 1)},
		// Blocks with the same mean are joined, and with other weights their means are not the same.
		{[]int{2, 4, 0, 3}, ones(4), []int{0, 3}, []impl.Frac{frac(2, 1), frac(2, 1), frac(2, 1), frac(3, 1)}, frac(8, 1)},
		{[]int{2, 4, 0, 3}, []int{1, 1, 3, 1}, []int{0, 3}, []impl.Frac{frac(6, 5), frac(6, 5), frac(6, 5), frac(3, 1)}, frac(64, 5)},
		{[]int{2, 4, 0, 3}, []int{1, 3, 1, 1}, []int{0, 1}, []impl.Frac{frac(2, 1), frac(3, 1), frac(3, 1), frac(3, 1)}, frac(12, 1)},
		{[]int{0, 5, 1, 4, 2}, ones(5), []int{0, 1}, []impl.Frac{frac(0, 1), frac(3, 1), frac(3, 1), frac(3, 1), frac(3, 1)}, frac(10, 1)},
		{[]int{0, 5, 1, 6, 2}, ones(5), []int{0, 1, 3}, []impl.Frac{frac(0, 1), frac(3, 1), frac(3, 1), frac(4, 1), frac(4, 1)}, frac(16, 1)},
		{[]int{5, 1, 2, 0}, ones(4), []int{0}, []impl.Frac{frac(2, 1), frac(2, 1), frac(2, 1), frac(2, 1)}, frac(14, 1)},
		// Weights tell whether a number is joined to those ahead.
		{[]int{3, 0, 2}, []int{1, 5, 1}, []int{0, 2}, []impl.Frac{frac(1, 2), frac(1, 2), frac(2, 1)}, frac(15, 2)},
		{[]int{3, 0, 2}, []int{5, 1, 1}, []int{0}, []impl.Frac{frac(17, 7), frac(17, 7), frac(17, 7)}, frac(54, 7)},
		{[]int{1, 2, 3, 4, 5, 6, 7, 8}, ones(8), []int{0, 1, 2, 3, 4, 5, 6, 7}, []impl.Frac{frac(1, 1), frac(2, 1), frac(3, 1), frac(4, 1), frac(5, 1), frac(6, 1), frac(7, 1), frac(8, 1)}, frac(0, 1)},
		{[]int{8, 7, 6, 5, 4, 3, 2, 1}, ones(8), []int{0}, slices.Repeat([]impl.Frac{frac(9, 2)}, 8), frac(42, 1)},
		{slices.Repeat([]int{30, -30}, 4), slices.Repeat([]int{5}, 8), []int{0}, slices.Repeat([]impl.Frac{frac(0, 1)}, 8), frac(36000, 1)},
		{slices.Repeat([]int{-30}, 8), slices.Repeat([]int{5}, 8), []int{0}, slices.Repeat([]impl.Frac{frac(-30, 1)}, 8), frac(0, 1)},
	} {
		if got := impl.BlocksOf(c.list, c.weights); !slices.Equal(got, c.blocks) {
			t.Errorf("BlocksOf(%v, %v) = %v, want %v", c.list, c.weights, got, c.blocks)
		}
		if got := impl.RiseByBlocks(c.list, c.weights); !slices.Equal(got, c.row) {
			t.Errorf("RiseByBlocks(%v, %v) = %v, want %v", c.list, c.weights, got, c.row)
		}
		if got := impl.RiseByMeans(c.list, c.weights); !slices.Equal(got, c.row) {
			t.Errorf("RiseByMeans(%v, %v) = %v, want %v", c.list, c.weights, got, c.row)
		}
		if got := impl.RiseByHull(c.list, c.weights); !slices.Equal(got, c.row) {
			t.Errorf("RiseByHull(%v, %v) = %v, want %v", c.list, c.weights, got, c.row)
		}
		if got, ok := impl.RiseMiss(c.list, c.weights); !ok || got != c.miss {
			t.Errorf("RiseMiss(%v, %v) = %v, %v, want %v", c.list, c.weights, got, ok, c.miss)
		}
	}
}

// No row is as good as the best one, so its values tell the blocks, too.
func TestRisesOfManyNumbers(t *testing.T) {
	eachLoads(func(list, weights []int) {
		row, miss := bestRising(list, weights)
		var blocks []int
		for i := range row {
			if i == 0 || row[i].Cmp(row[i-1]) != 0 {
				blocks = append(blocks, i)
			}
		}
		if got := impl.BlocksOf(list, weights); !slices.Equal(got, blocks) {
			t.Errorf("BlocksOf(%v, %v) = %v, want %v", list, weights, got, blocks)
		}
		want := toldAll(row)
		if got := impl.RiseByBlocks(list, weights); !slices.Equal(got, want) {
			t.Errorf("RiseByBlocks(%v, %v) = %v, want %v", list, weights, got, want)
		}
		if got := impl.RiseByMeans(list, weights); !slices.Equal(got, want) {
			t.Errorf("RiseByMeans(%v, %v) = %v, want %v", list, weights, got, want)
		}
		if got := impl.RiseByHull(list, weights); !slices.Equal(got, want) {
			t.Errorf("RiseByHull(%v, %v) = %v, want %v", list, weights, got, want)
		}
		if got, ok := impl.RiseMiss(list, weights); !ok || got != told(miss) {
			t.Errorf("RiseMiss(%v, %v) = %v, %v, want %v", list, weights, got, ok, miss)
		}
	})
}

// Promise 52.
func TestBlocksRise(t *testing.T) {
	eachLoads(func(list, weights []int) {
		blocks := impl.BlocksOf(list, weights)
		if len(blocks) == 0 || blocks[0] != 0 {
			t.Fatalf("BlocksOf(%v, %v) = %v", list, weights, blocks)
		}
		last := frac(-impl.MaxHeight-1, 1)
		for at, start := range blocks {
			end := len(list)
			if at+1 < len(blocks) {
				end = blocks[at+1]
			}
			mean, ok := impl.MeanOf(list, weights, start, end-1)
			if !ok || !less(last, mean) {
				t.Errorf("BlocksOf(%v, %v) = %v: from %d on %v, behind %v", list, weights, blocks, start, mean, last)
			}
			last = mean
		}
		rising := slices.Sorted(slices.Values(list))
		if slices.Equal(list, slices.Compact(rising)) && len(blocks) != len(list) {
			t.Errorf("BlocksOf(%v, %v) = %v, of numbers that rise", list, weights, blocks)
		}
	})
}

// Promise 53.
func TestRowsThatRiseAreTheSameByBlocksByMeansAndByTheHull(t *testing.T) {
	eachLoads(func(list, weights []int) {
		row := impl.RiseByBlocks(list, weights)
		if means, hull := impl.RiseByMeans(list, weights), impl.RiseByHull(list, weights); !slices.Equal(means, row) || !slices.Equal(hull, row) {
			t.Errorf("RiseByBlocks(%v, %v) = %v, by means %v, and by the hull %v", list, weights, row, means, hull)
		}
		if len(row) != len(list) {
			t.Fatalf("RiseByBlocks(%v, %v) = %v", list, weights, row)
		}
		for i, x := range row {
			if !isTold(x) || i > 0 && less(x, row[i-1]) {
				t.Errorf("RiseByBlocks(%v, %v) = %v", list, weights, row)
			}
		}
	})
}

// Promise 54.
func TestRowsThatRiseKeepTheSum(t *testing.T) {
	eachLoads(func(list, weights []int) {
		row := impl.RiseByMeans(list, weights)
		if len(row) != len(list) {
			t.Fatalf("RiseByMeans(%v, %v) = %v", list, weights, row)
		}
		sum, want := new(big.Rat), 0
		for i, x := range list {
			sum = plus(sum, times(rat(row[i]), ratOf(weights[i])))
			want += x * weights[i]
		}
		if sum.Cmp(ratOf(want)) != 0 {
			t.Errorf("RiseByMeans(%v, %v) = %v, together %v of %d", list, weights, row, sum, want)
		}
		if slices.IsSorted(list) && !slices.Equal(row, toldAll(ratsOf(list))) {
			t.Errorf("RiseByMeans(%v, %v) = %v, of numbers that do not fall", list, weights, row)
		}
	})
}

// Promise 55.
func TestRowsThatRiseTurnRound(t *testing.T) {
	eachLoads(func(list, weights []int) {
		var want []impl.Frac
		for _, x := range reversed(impl.RiseByHull(list, weights)) {
			want = append(want, turned(x))
		}
		if got := impl.RiseByHull(otherSigns(reversed(list)), reversed(weights)); len(got) != len(list) || !slices.Equal(got, want) {
			t.Errorf("RiseByHull(%v, %v) the other way round with the other signs = %v, want %v", list, weights, got, want)
		}
	})
}

// Promise 56.
func TestTheBestRowMissesLeast(t *testing.T) {
	eachLoads(func(list, weights []int) {
		got, ok := impl.RiseMiss(list, weights)
		if !ok || !isTold(got) || (got == frac(0, 1)) != slices.IsSorted(list) {
			t.Fatalf("RiseMiss(%v, %v) = %v, %v", list, weights, got, ok)
		}
		others := [][]int{greatestSoFar(list)}
		for _, x := range list {
			others = append(others, slices.Repeat([]int{x}, len(list)))
		}
		for _, row := range others {
			if miss := squaresMissed(list, weights, ratsOf(row)); rat(got).Cmp(miss) > 0 {
				t.Errorf("RiseMiss(%v, %v) = %v, and %v misses %v", list, weights, got, row, miss)
			}
		}
	})
}

func TestPeakOfFewNumbers(t *testing.T) {
	for _, c := range []struct {
		list, weights []int
		at            int
		miss          impl.Frac
	}{
		// One number is as good ahead of the peak as behind it.
		{[]int{5}, []int{1}, 0, frac(0, 1)},
		{[]int{-30}, []int{5}, 0, frac(0, 1)},
		{[]int{1, 3, 2}, ones(3), 1, frac(0, 1)},
		{[]int{1, 2, 3, 2, 1}, []int{1, 2, 3, 4, 5}, 2, frac(0, 1)},
		// No number rises.
		{[]int{2, 1}, ones(2), 0, frac(0, 1)},
		{[]int{3, 2, 1}, []int{5, 1, 2}, 0, frac(0, 1)},
		{[]int{2, 2, 2}, ones(3), 0, frac(0, 1)},
		{[]int{8, 7, 6, 5, 4, 3, 2, 1}, slices.Repeat([]int{5}, 8), 0, frac(0, 1)},
		// The peak is the last number.
		{[]int{1, 2}, ones(2), 1, frac(0, 1)},
		{[]int{1, 2, 3}, ones(3), 2, frac(0, 1)},
		{[]int{1, 2, 3, 4, 5, 6, 7, 8}, slices.Repeat([]int{5}, 8), 7, frac(0, 1)},
		{[]int{1, 2, 2}, ones(3), 1, frac(0, 1)},
		// Several peaks are as good.
		{[]int{3, 1, 3}, ones(3), 0, frac(2, 1)},
		{[]int{0, 30, 0, 30, 0}, ones(5), 1, frac(450, 1)},
		{[]int{0, 30, 0, 30, 0}, []int{1, 1, 5, 1, 1}, 1, frac(750, 1)},
		{[]int{3, 1, 2}, ones(3), 0, frac(1, 2)},
		{[]int{1, 0, 2}, ones(3), 2, frac(1, 2)},
		{[]int{1, 0, 2}, []int{5, 1, 1}, 2, frac(5, 6)},
		{[]int{2, 0, 1}, []int{1, 1, 5}, 0, frac(5, 6)},
	} {
		if at, miss, ok := impl.PeakOf(c.list, c.weights); !ok || at != c.at || miss != c.miss {
			t.Errorf("PeakOf(%v, %v) = %d, %v, %v, want %d, %v", c.list, c.weights, at, miss, ok, c.at, c.miss)
		}
	}
}

func TestPeakOfManyNumbers(t *testing.T) {
	eachLoads(func(list, weights []int) {
		at, miss := bestPeak(list, weights)
		if gotAt, gotMiss, ok := impl.PeakOf(list, weights); !ok || gotAt != at || gotMiss != told(miss) {
			t.Errorf("PeakOf(%v, %v) = %d, %v, %v, want %d, %v", list, weights, gotAt, gotMiss, ok, at, miss)
		}
	})
}

// Promise 57.
func TestPeaksMissNoMoreThanRisesAndFalls(t *testing.T) {
	eachLoads(func(list, weights []int) {
		at, miss, ok := impl.PeakOf(list, weights)
		if !ok || at < 0 || at > len(list) || !isTold(miss) {
			t.Fatalf("PeakOf(%v, %v) = %d, %v, %v", list, weights, at, miss, ok)
		}
		rise, okRise := impl.RiseMiss(list, weights)
		fall, okFall := impl.RiseMiss(reversed(list), reversed(weights))
		if !okRise || !okFall || less(rise, miss) || less(fall, miss) {
			t.Errorf("PeakOf(%v, %v) = %d, %v, and all that rise miss %v, %v, and that fall %v, %v", list, weights, at, miss, rise, okRise, fall, okFall)
		}
	})
}

func TestRiseSumOfFewNumbers(t *testing.T) {
	for _, c := range []struct {
		list, weights []int
		want          int
	}{
		{[]int{7}, []int{3}, 0},
		{[]int{-30}, []int{5}, 0},
		{[]int{30}, []int{1}, 0},
		{[]int{1, 1}, ones(2), 0},
		{[]int{1, 2, 2, 3}, []int{5, 4, 3, 2}, 0},
		{[]int{-30, 30}, []int{5, 5}, 0},
		{[]int{1, 4, 2, 5}, ones(4), 2},
		{[]int{3, 1}, []int{1, 5}, 2},
		{[]int{3, 1}, []int{5, 1}, 2},
		// Each number from 1 to 5 makes a row that is as near.
		{[]int{5, 1}, ones(2), 4},
		{[]int{5, 1}, []int{3, 3}, 12},
		{[]int{3, 2, 1}, ones(3), 2},
		{[]int{3, 2, 1}, []int{1, 1, 5}, 3},
		{[]int{3, 2, 1}, []int{2, 1, 2}, 4},
		{[]int{0, 5, 1, 4, 2}, ones(5), 6},
		{[]int{30, -30}, []int{5, 5}, 300},
		{[]int{30, -30}, []int{5, 1}, 60},
		{[]int{30, -30}, []int{1, 5}, 60},
		{[]int{8, 7, 6, 5, 4, 3, 2, 1}, ones(8), 16},
		{slices.Repeat([]int{30, -30}, 4), ones(8), 240},
		{slices.Repeat([]int{30, -30}, 4), slices.Repeat([]int{5}, 8), 1200},
		{slices.Repeat([]int{-30}, 8), slices.Repeat([]int{5}, 8), 0},
		{slices.Repeat([]int{30}, 8), slices.Repeat([]int{5}, 8), 0},
	} {
		if got := impl.RiseSum(c.list, c.weights); got != c.want {
			t.Errorf("RiseSum(%v, %v) = %d, want %d", c.list, c.weights, got, c.want)
		}
	}
}

func TestRiseSumOfAllRows(t *testing.T) {
	var all []int
	for x := -impl.MaxHeight - 1; x <= impl.MaxHeight+1; x++ {
		all = append(all, x)
	}
	eachLoads(func(list, weights []int) {
		// A row of more numbers gains nothing by others than the numbers themselves.
		values := all
		if len(list) > 3 {
			values = slices.Compact(slices.Sorted(slices.Values(list)))
		}
		if got, want := impl.RiseSum(list, weights), nearestRising(list, weights, values); got != want {
			t.Errorf("RiseSum(%v, %v) = %d, want %d", list, weights, got, want)
		}
	})
}

// Promise 58.
func TestTheNearestRowIsNearest(t *testing.T) {
	eachLoads(func(list, weights []int) {
		got := impl.RiseSum(list, weights)
		if got < 0 || (got == 0) != slices.IsSorted(list) || got > away(list, weights, greatestSoFar(list)) {
			t.Errorf("RiseSum(%v, %v) = %d, and the greatest numbers so far are away %d", list, weights, got, away(list, weights, greatestSoFar(list)))
		}
		if other := impl.RiseSum(otherSigns(reversed(list)), reversed(weights)); other != got {
			t.Errorf("RiseSum(%v, %v) = %d, and the other way round with the other signs %d", list, weights, got, other)
		}
	})
}

func TestOtherLoadsHaveFixedResults(t *testing.T) {
	none := impl.Frac{}
	for _, p := range badLoads() {
		if impl.ValidLoads(p[0], p[1]) {
			t.Errorf("ValidLoads(%v, %v)", p[0], p[1])
		}
		for _, span := range append(badSpans(len(p[0])), [2]int{0, 0}, [2]int{0, len(p[0]) - 1}) {
			if got, ok := impl.MeanOf(p[0], p[1], span[0], span[1]); ok || got != none {
				t.Errorf("MeanOf(%v, %v, %d, %d) = %v, %v", p[0], p[1], span[0], span[1], got, ok)
			}
		}
		if got := impl.BlocksOf(p[0], p[1]); len(got) != 0 {
			t.Errorf("BlocksOf(%v, %v) = %v", p[0], p[1], got)
		}
		if got := impl.RiseByBlocks(p[0], p[1]); len(got) != 0 {
			t.Errorf("RiseByBlocks(%v, %v) = %v", p[0], p[1], got)
		}
		if got := impl.RiseByMeans(p[0], p[1]); len(got) != 0 {
			t.Errorf("RiseByMeans(%v, %v) = %v", p[0], p[1], got)
		}
		if got := impl.RiseByHull(p[0], p[1]); len(got) != 0 {
			t.Errorf("RiseByHull(%v, %v) = %v", p[0], p[1], got)
		}
		if got, ok := impl.RiseMiss(p[0], p[1]); ok || got != none {
			t.Errorf("RiseMiss(%v, %v) = %v, %v", p[0], p[1], got, ok)
		}
		if at, miss, ok := impl.PeakOf(p[0], p[1]); ok || at != 0 || miss != none {
			t.Errorf("PeakOf(%v, %v) = %d, %v, %v", p[0], p[1], at, miss, ok)
		}
		if got := impl.RiseSum(p[0], p[1]); got != -1 {
			t.Errorf("RiseSum(%v, %v) = %d", p[0], p[1], got)
		}
	}
}

func TestOtherSpansHaveNoMean(t *testing.T) {
	eachLoads(func(list, weights []int) {
		for _, span := range badSpans(len(list)) {
			if got, ok := impl.MeanOf(list, weights, span[0], span[1]); ok || got != (impl.Frac{}) {
				t.Errorf("MeanOf(%v, %v, %d, %d) = %v, %v", list, weights, span[0], span[1], got, ok)
			}
		}
	})
}

func TestRisesLeaveArgumentsAlone(t *testing.T) {
	check := func(list, weights []int) {
		// Numbers behind the end show whether spare memory of an argument is used.
		long, heavy := append(slices.Clone(list), 27, 28, 29), append(slices.Clone(weights), 3, 4, 5)
		wantLong, wantHeavy := slices.Clone(long), slices.Clone(heavy)
		list, weights = long[:len(list)], heavy[:len(weights)]
		impl.ValidLoads(list, weights)
		impl.MeanOf(list, weights, 0, len(list)-1)
		impl.BlocksOf(list, weights)
		impl.RiseByBlocks(list, weights)
		impl.RiseByMeans(list, weights)
		impl.RiseByHull(list, weights)
		impl.RiseMiss(list, weights)
		impl.PeakOf(list, weights)
		impl.RiseSum(list, weights)
		if !slices.Equal(long, wantLong) || !slices.Equal(heavy, wantHeavy) {
			t.Errorf("%v and %v became %v and %v", wantLong, wantHeavy, long, heavy)
		}
	}
	eachLoads(check)
	for _, p := range badLoads() {
		check(p[0], p[1])
	}
}

// checkNewRow checks that a row of a function is memory of its own, of no other row, and of no argument.
func checkNewRow[T comparable](t *testing.T, name string, list, weights []int, rowOf func(list, weights []int) []T, other T) {
	givenList, givenWeights := slices.Clone(list), slices.Clone(weights)
	first := rowOf(givenList, givenWeights)
	kept := slices.Clone(first)
	overwriteBy(rowOf(givenList, givenWeights), other)
	again := rowOf(givenList, givenWeights)
	if !slices.Equal(givenList, list) || !slices.Equal(givenWeights, weights) {
		t.Errorf("%s of %v and %v shares memory with them: %v and %v", name, list, weights, givenList, givenWeights)
	}
	overwrite(givenList)
	overwrite(givenWeights)
	if !slices.Equal(first, kept) || !slices.Equal(again, kept) {
		t.Errorf("%s of %v and %v became %v, and again %v, of %v", name, list, weights, first, again, kept)
	}
}

func TestRisesGiveNewMemory(t *testing.T) {
	eachLoads(func(list, weights []int) {
		checkNewRow(t, "BlocksOf", list, weights, impl.BlocksOf, -9999)
		checkNewRow(t, "RiseByBlocks", list, weights, impl.RiseByBlocks, frac(-9999, 9999))
		checkNewRow(t, "RiseByMeans", list, weights, impl.RiseByMeans, frac(-9999, 9999))
		checkNewRow(t, "RiseByHull", list, weights, impl.RiseByHull, frac(-9999, 9999))
	})
}
