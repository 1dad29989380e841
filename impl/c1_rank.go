package impl

import (
	"cmp"
	"slices"
)

// MaxValue is the greatest number of data.
const MaxValue = 200

// MaxData is the largest number of data.
const MaxData = 10

// MaxOrder is the largest number of numbers whose orders are counted.
const MaxOrder = 10

// ValidData reports whether numbers are data.
func ValidData(list []int) bool {
	if len(list) > MaxData {
		return false
	}
	for _, x := range list {
		if x < -MaxValue || x > MaxValue {
			return false
		}
	}
	return true
}

// validPair reports whether a and b are data of as many numbers.
func validPair(a []int, b []int) bool {
	return ValidData(a) && ValidData(b) && len(a) == len(b)
}

// RanksOf returns twice the ranks of data.
func RanksOf(list []int) []int {
	if !ValidData(list) {
		return nil
	}
	return twiceRanks(list)
}

// twiceRanks returns the ranks twice, as the mean rank of numbers that are the same may end in a half.
func twiceRanks(list []int) []int {
	ranks := make([]int, len(list))
	for i, x := range list {
		less, same := 0, 0
		for _, y := range list {
			if y < x {
				less++
			} else if y == x {
				same++
			}
		}
		ranks[i] = 2*less + same + 1
	}
	return ranks
}

// TiesOf returns how many data have the same values.
func TiesOf(list []int) []int {
	if !ValidData(list) {
		return nil
	}
	sorted := sortedCopy(list)
	var ties []int
	for start := 0; start < len(sorted); {
		end := start + 1
		for end < len(sorted) && sorted[end] == sorted[start] {
			end++
		}
		if end-start > 1 {
			ties = append(ties, end-start)
		}
		start = end
	}
	return ties
}

// sortedCopy sorts a copy, as an argument is never changed.
func sortedCopy(list []int) []int {
	sorted := slices.Clone(list)
	slices.Sort(sorted)
	return sorted
}

// MiddleOf returns twice the middle of data.
func MiddleOf(list []int) (int, bool) {
	if !ValidData(list) || len(list) == 0 {
		return 0, false
	}
	return twiceMiddle(list), true
}

// twiceMiddle adds the middle one from below and that from above, so that an odd and an even length need no telling apart.
func twiceMiddle(list []int) int {
	sorted := sortedCopy(list)
	return sorted[(len(sorted)-1)/2] + sorted[len(sorted)/2]
}

// AgreeOf returns how much two data rise and fall together.
func AgreeOf(a []int, b []int) (int, bool) {
	if !validPair(a, b) {
		return 0, false
	}
	agree := 0
	for k := range a {
		for i := range k {
			order := func(list []int) int { return cmp.Compare(list[i], list[k]) }
			agree += agreement([2]int{order(a), order(b)})
		}
	}
	return agree, true
}

// agreement compares both orders of a pair at once, as one that is the same in either data counts for neither side.
func agreement(orders [2]int) int {
	switch orders {
	case [2]int{-1, -1}, [2]int{1, 1}:
		return 1
	case [2]int{-1, 1}, [2]int{1, -1}:
		return -1
	}
	return 0
}

// RankGap returns how far the ranks of two data are apart.
func RankGap(a []int, b []int) int {
	if !validPair(a, b) {
		return -1
	}
	gap := 0
	others := twiceRanks(b)
	for i, rank := range twiceRanks(a) {
		gap += (rank - others[i]) * (rank - others[i])
	}
	return gap
}

// FallCounts returns how many orders have how many pairs that fall.
func FallCounts(n int) []int {
	if n < 1 || n > MaxOrder {
		return nil
	}
	counts := []int{1}
	for taken := 1; taken < n; taken++ {
		counts = withOneMore(counts, taken)
	}
	return counts
}

// withOneMore puts a number greater than all taken ones at each place of their orders: as many pairs fall as are behind it.
func withOneMore(counts []int, taken int) []int {
	more := make([]int, len(counts)+taken)
	for falls, orders := range counts {
		for behind := range taken + 1 {
			more[falls+behind] += orders
		}
	}
	return more
}

// AgreeChance returns how many orders agree at least so much.
func AgreeChance(n int, s int) (int, int) {
	counts := FallCounts(n)
	if len(counts) == 0 {
		return -1, -1
	}
	pairs := len(counts) - 1
	agree, all := 0, 0
	for falls, orders := range counts {
		// A pair that falls is missing from those that rise, and is taken off as well.
		if pairs-2*falls >= s {
			agree += orders
		}
		all += orders
	}
	return agree, all
}
