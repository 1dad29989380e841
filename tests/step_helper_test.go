package tests

import (
	"fmt"
	"math"
	"math/big"
	"slices"

	"loop.example/countedchances/impl"
)

// rounds is how often a function is called whose code ranges over a map, as the order may be another one each time.
const rounds = 20

// timesOver calls f many times over.
func timesOver(f func()) {
	for range rounds {
		f()
	}
}

// eachHeights calls f with many numbers that may be cut, each list once: those of eachLoads, and longer ones of two values.
func eachHeights(f func(list []int)) {
	seen := map[string]bool{}
	offer := func(list []int) {
		if key := fmt.Sprint(list); !seen[key] {
			seen[key] = true
			f(slices.Clone(list))
		}
	}
	eachLoads(func(list, _ []int) { offer(list) })
	for size := 6; size <= impl.MaxRise; size++ {
		for _, list := range listsOf(size, -1, 3) {
			offer(list)
		}
	}
}

// squaresBetween returns the sum of what the numbers at the indices from i up to k are more or less than their mean, by squares.
func squaresBetween(list []int, i, k int) *big.Rat {
	piece := list[i : k+1]
	row := slices.Repeat([]*big.Rat{meanBetween(list, ones(len(list)), i, k)}, len(piece))
	return squaresMissed(piece, ones(len(piece)), row)
}

// distancesBetween returns how far the numbers at the indices from i up to k are from the nearest number, whole or with a half.
func distancesBetween(list []int, i, k int) *big.Rat {
	nearest := math.MaxInt
	for twice := -2*impl.MaxHeight - 1; twice <= 2*impl.MaxHeight+1; twice++ {
		sum := 0
		for _, x := range list[i : k+1] {
			sum += max(2*x-twice, twice-2*x)
		}
		nearest = min(nearest, sum)
	}
	return half(ratOf(nearest))
}

// roomBetween returns how far two of the numbers at the indices from i up to k are apart at the most.
func roomBetween(list []int, i, k int) *big.Rat {
	room := 0
	for _, x := range list[i : k+1] {
		for _, y := range list[i : k+1] {
			room = max(room, x-y)
		}
	}
	return ratOf(room)
}

// greaterOf returns the greater one of two fractions.
func greaterOf(a, b *big.Rat) *big.Rat {
	if a.Cmp(b) < 0 {
		return b
	}
	return a
}

// sizesOf returns the sizes of the pieces of all ways to cut so many numbers.
func sizesOf(size int) [][]int {
	if size == 0 {
		return [][]int{nil}
	}
	var ways [][]int
	for first := 1; first <= size; first++ {
		for _, others := range sizesOf(size - first) {
			ways = append(ways, slices.Concat([]int{first}, others))
		}
	}
	return ways
}

// leastByPieces tries all ways to cut the numbers, and returns at each number of pieces, up to MaxRise,
// the least of what the pieces of one way with at most so many of them are together.
func leastByPieces(list []int, pieceOf func(list []int, i, k int) *big.Rat, together func(a, b *big.Rat) *big.Rat) []*big.Rat {
	// What a piece is, by its first and its last index, is needed for many ways.
	var of [impl.MaxRise][impl.MaxRise]*big.Rat
	for i := range list {
		for k := i; k < len(list); k++ {
			of[i][k] = pieceOf(list, i, k)
		}
	}
	least := make([]*big.Rat, impl.MaxRise+1)
	for _, sizes := range sizesOf(len(list)) {
		all, start := new(big.Rat), 0
		for _, size := range sizes {
			all = together(all, of[start][start+size-1])
			start += size
		}
		for pieces := len(sizes); pieces <= impl.MaxRise; pieces++ {
			if least[pieces] == nil || all.Cmp(least[pieces]) < 0 {
				least[pieces] = all
			}
		}
	}
	return least
}

// squaresByPieces returns at each number of pieces the least sum that they miss by squares.
func squaresByPieces(list []int) []*big.Rat {
	return leastByPieces(list, squaresBetween, plus)
}

// distancesByPieces returns at each number of pieces the least sum of distances.
func distancesByPieces(list []int) []*big.Rat {
	return leastByPieces(list, distancesBetween, plus)
}

// roomsByPieces returns at each number of pieces the least room for all of them.
func roomsByPieces(list []int) []*big.Rat {
	return leastByPieces(list, roomBetween, greaterOf)
}

// bestPriced returns the least sum of what pieces miss, by their numbers, and of the price of each one, and the fewest pieces for it.
func bestPriced(missed []*big.Rat, price int) (*big.Rat, int) {
	var least *big.Rat
	best := 0
	for pieces := 1; pieces < len(missed); pieces++ {
		if sum := plus(missed[pieces], ratOf(price*pieces)); least == nil || sum.Cmp(least) < 0 {
			least, best = sum, pieces
		}
	}
	return least, best
}

// pricesFor returns prices, and those for which two numbers of pieces that miss so much are as good as each other.
func pricesFor(missed []*big.Rat) []int {
	prices := []int{0, 1, 2, 30, 101, impl.MaxPrice - 1, impl.MaxPrice}
	for fewer := 1; fewer < len(missed); fewer++ {
		for more := fewer + 1; more < len(missed); more++ {
			price := times(minus(missed[fewer], missed[more]), big.NewRat(1, int64(more-fewer)))
			if price.IsInt() && price.Cmp(ratOf(impl.MaxPrice)) <= 0 {
				prices = append(prices, int(price.Num().Int64()))
			}
		}
	}
	slices.Sort(prices)
	return slices.Compact(prices)
}

// longestPieces returns the first indices of the pieces, from the index start on, each the longest one that the room has.
func longestPieces(list []int, start, room int) []int {
	if start == len(list) {
		return nil
	}
	end := len(list)
	for roomBetween(list, start, end-1).Cmp(ratOf(room)) > 0 {
		end--
	}
	return append([]int{start}, longestPieces(list, end, room)...)
}

// badHeights returns lists that may not be cut: too few or too many numbers, or one out of its limits, at each place.
func badHeights() [][]int {
	lists := [][]int{nil, {}, ones(impl.MaxRise + 1), make([]int, impl.MaxRise+1), ones(50)}
	for size := 1; size <= impl.MaxRise; size++ {
		for i := range size {
			for _, x := range []int{-impl.MaxHeight - 1, impl.MaxHeight + 1, -1000, 1000, math.MinInt, math.MaxInt} {
				bad := ones(size)
				bad[i] = x
				lists = append(lists, bad)
			}
		}
	}
	return lists
}

// badPieces returns numbers of pieces into which no numbers are cut.
func badPieces() []int {
	return []int{0, -1, -impl.MaxRise, impl.MaxRise + 1, 1000, math.MinInt, math.MaxInt}
}

// badPrices returns numbers that are not prices.
func badPrices() []int {
	return []int{-1, -impl.MaxPrice, impl.MaxPrice + 1, 100000, math.MinInt, math.MaxInt}
}

// badRooms returns numbers that are not rooms.
func badRooms() []int {
	return []int{-1, -2 * impl.MaxHeight, 2*impl.MaxHeight + 1, 1000, math.MinInt, math.MaxInt}
}
