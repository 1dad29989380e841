package tests

import (
	"math"
	"math/big"
	"slices"

	"loop.example/countedchances/impl"
)

// ones returns as many weights of 1.
func ones(size int) []int {
	return slices.Repeat([]int{1}, size)
}

// eachLoads calls f with many numbers with weights: few of them with all of some heights and weights, and more by a rule.
func eachLoads(f func(list, weights []int)) {
	for _, c := range []struct {
		size             int
		heights, weights []int
	}{
		{2, []int{-impl.MaxHeight, -1, 0, 2, impl.MaxHeight}, []int{1, 2, impl.MaxWeight}},
		{3, []int{-impl.MaxHeight, 0, 7}, []int{1, 3}},
		{4, []int{-2, 0, 1}, []int{1, impl.MaxWeight}},
		{5, []int{0, 1}, []int{1, 2}},
	} {
		for _, list := range listsOf(c.size, c.heights...) {
			for _, weights := range listsOf(c.size, c.weights...) {
				f(slices.Clone(list), slices.Clone(weights))
			}
		}
	}
	for x := -impl.MaxHeight; x <= impl.MaxHeight; x++ {
		for weight := 1; weight <= impl.MaxWeight; weight++ {
			f([]int{x}, []int{weight})
		}
	}
	eachOrder(5, func(order []int) {
		f(slices.Clone(order), ones(5))
		f(slices.Clone(order), []int{1, 2, 3, 4, 5})
	})
	for size := 3; size <= impl.MaxRise; size++ {
		eachLongLoads(size, f)
	}
}

// eachLongLoads calls f with numbers by a rule, and with the edges of so many of them.
func eachLongLoads(size int, f func(list, weights []int)) {
	offer := func(weightOf, heightOf func(i int) int) {
		list, weights := make([]int, size), make([]int, size)
		for i := range size {
			list[i], weights[i] = heightOf(i), weightOf(i)
		}
		f(list, weights)
	}
	for step := range 10 {
		for bend := range 8 {
			offer(func(i int) int { return (step*i+bend)%impl.MaxWeight + 1 }, func(i int) int {
				return (step*step*i+bend*i*i+7*bend)%(2*impl.MaxHeight+1) - impl.MaxHeight
			})
		}
	}
	for _, weightOf := range []func(i int) int{
		func(int) int { return 1 },
		func(int) int { return impl.MaxWeight },
		func(i int) int { return i%impl.MaxWeight + 1 },
		func(i int) int { return impl.MaxWeight - i%impl.MaxWeight },
	} {
		for _, x := range []int{-impl.MaxHeight, 0, impl.MaxHeight} {
			offer(weightOf, func(int) int { return x })
		}
		offer(weightOf, func(i int) int { return 8*i - impl.MaxHeight })
		offer(weightOf, func(i int) int { return impl.MaxHeight - 8*i })
		offer(weightOf, func(i int) int { return i / 2 })
		offer(weightOf, func(i int) int { return -i / 2 })
		offer(weightOf, func(i int) int { return impl.MaxHeight * (1 - i%2*2) })
		offer(weightOf, func(i int) int { return impl.MaxHeight * (i%2*2 - 1) })
	}
}

// meanBetween returns the mean of the numbers with weights at the indices from i up to k.
func meanBetween(list, weights []int, i, k int) *big.Rat {
	sum, weight := 0, 0
	for at := i; at <= k; at++ {
		sum += list[at] * weights[at]
		weight += weights[at]
	}
	return big.NewRat(int64(sum), int64(weight))
}

// squaresMissed returns the sum of what each of a row is more or less than the number, multiplied by itself and by the weight.
func squaresMissed(list, weights []int, row []*big.Rat) *big.Rat {
	miss := new(big.Rat)
	for i, x := range list {
		gap := minus(row[i], ratOf(x))
		miss = plus(miss, times(times(gap, gap), ratOf(weights[i])))
	}
	return miss
}

// rises reports whether none of a row is less than the one ahead of it.
func rises(row []*big.Rat) bool {
	return slices.IsSortedFunc(row, (*big.Rat).Cmp)
}

// bestRising tries all ways to cut the numbers into pieces that are told by their means, as the best row is one of them,
// and returns of those that rise the row that misses least, and how much it misses.
func bestRising(list, weights []int) ([]*big.Rat, *big.Rat) {
	var best []*big.Rat
	miss := new(big.Rat)
	var try func(row []*big.Rat)
	try = func(row []*big.Rat) {
		start := len(row)
		if start == len(list) {
			if missed := squaresMissed(list, weights, row); rises(row) && (best == nil || missed.Cmp(miss) < 0) {
				best, miss = row, missed
			}
			return
		}
		for end := start; end < len(list); end++ {
			piece := slices.Repeat([]*big.Rat{meanBetween(list, weights, start, end)}, end-start+1)
			try(slices.Concat(row, piece))
		}
	}
	try(nil)
	return best, miss
}

// bestPeak tries how many numbers rise, and returns the least number for which least is missed, and what is missed.
func bestPeak(list, weights []int) (int, *big.Rat) {
	_, least := bestRising(reversed(list), reversed(weights))
	at := 0
	for rising := 1; rising <= len(list); rising++ {
		_, up := bestRising(list[:rising], weights[:rising])
		_, down := bestRising(reversed(list[rising:]), reversed(weights[rising:]))
		if both := plus(up, down); both.Cmp(least) < 0 {
			at, least = rising, both
		}
	}
	return at, least
}

// away returns how far numbers are from those of a row, times their weights.
func away(list, weights, row []int) int {
	sum := 0
	for i, x := range list {
		sum += max(x-row[i], row[i]-x) * weights[i]
	}
	return sum
}

// nearestRising tries all rows of the values, ascending, of which none is less than the one ahead of it,
// and returns how far the numbers are from the nearest one.
func nearestRising(list, weights, values []int) int {
	if len(list) == 0 {
		return 0
	}
	nearest := math.MaxInt
	for i, x := range values {
		here := away(list[:1], weights[:1], []int{x})
		if here < nearest {
			nearest = min(nearest, here+nearestRising(list[1:], weights[1:], values[i:]))
		}
	}
	return nearest
}

// greatestSoFar returns for each number the greatest one up to it.
func greatestSoFar(list []int) []int {
	row := slices.Clone(list)
	for i := 1; i < len(row); i++ {
		row[i] = max(row[i], row[i-1])
	}
	return row
}

// ratsOf returns whole numbers with which to reckon as with fractions.
func ratsOf(list []int) []*big.Rat {
	rats := make([]*big.Rat, len(list))
	for i, x := range list {
		rats[i] = ratOf(x)
	}
	return rats
}

// badLoads returns lists that are not numbers with weights: too few or too many of either, or one out of its limits, at each place.
func badLoads() [][2][]int {
	pairs := [][2][]int{
		{nil, {1}},
		{{1}, nil},
		{{1, 2}, {1}},
		{{1}, {1, 2}},
		{ones(impl.MaxRise), ones(impl.MaxRise - 1)},
		{ones(impl.MaxRise - 1), ones(impl.MaxRise)},
		{ones(impl.MaxRise), ones(impl.MaxRise + 1)},
		{ones(impl.MaxRise + 1), ones(impl.MaxRise)},
	}
	for _, bad := range badHeights() {
		pairs = append(pairs, [2][]int{bad, ones(len(bad))})
	}
	for size := 1; size <= impl.MaxRise; size++ {
		for i := range size {
			for _, weight := range []int{0, -1, -impl.MaxWeight, impl.MaxWeight + 1, 1000, math.MinInt, math.MaxInt} {
				bad := ones(size)
				bad[i] = weight
				pairs = append(pairs, [2][]int{ones(size), bad})
			}
		}
	}
	return pairs
}

// badSpans returns two indices of so many numbers from one of which up to the other one there is no mean.
func badSpans(size int) [][2]int {
	spans := [][2]int{{-1, -1}, {size, size}, {size, size + 1}, {-1, size}, {math.MinInt, math.MaxInt}, {math.MaxInt, math.MinInt}, {math.MaxInt, math.MaxInt}, {math.MinInt, math.MinInt}}
	for at := range size {
		spans = append(spans,
			[2]int{-1, at}, [2]int{-size, at}, [2]int{math.MinInt, at},
			[2]int{at, size}, [2]int{at, 2 * size}, [2]int{at, math.MaxInt},
			[2]int{at, at - 1}, [2]int{at + 1, at}, [2]int{at, math.MinInt}, [2]int{math.MaxInt, at})
	}
	return spans
}
