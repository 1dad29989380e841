package tests

import (
	"math"
	"slices"
	"strings"

	"loop.example/countedchances/impl"
)

// samples returns valid data: all short lists of a few values, and the edges of the limits.
func samples() [][]int {
	lists := [][]int{nil}
	for start, size := 0, 0; size < 4; size++ {
		end := len(lists)
		for _, list := range lists[start:end] {
			for _, x := range []int{-3, 0, 7} {
				lists = append(lists, append(slices.Clone(list), x))
			}
		}
		start = end
	}
	return append(lists,
		[]int{impl.MaxValue},
		[]int{-impl.MaxValue},
		[]int{-impl.MaxValue, impl.MaxValue},
		[]int{5, 1, 5, 1, 1, 3},
		[]int{8, -8, 4, -4, 0, 2, -2},
		slices.Repeat([]int{0}, impl.MaxData),
		slices.Repeat([]int{-impl.MaxValue}, impl.MaxData),
		slices.Repeat([]int{impl.MaxValue, -impl.MaxValue}, impl.MaxData/2),
		[]int{1, 2, 3, 4, 5, 6, 7, 8, 9, 10},
		[]int{10, 9, 8, 7, 6, 5, 4, 3, 2, 1},
		[]int{200, -200, 13, 13, -7, 13, 0, -7, 42, 199},
		[]int{2, 2, 1, 1, 3, 3, 5, 5, 4, 4},
		[]int{6, 6, 6, 6, 6, 9, 9, 9, 9, 9})
}

// pairsOf calls f with all two samples of as many numbers.
func pairsOf(f func(a, b []int)) {
	lists := samples()
	for _, a := range lists {
		for _, b := range lists {
			if len(a) == len(b) {
				f(slices.Clone(a), slices.Clone(b))
			}
		}
	}
}

// twoSamples calls f with all two samples of at least one number each that are data together.
func twoSamples(f func(a, b []int)) {
	lists := samples()
	for _, list := range samples() {
		for _, size := range []int{1, 5, 9} {
			if size < len(list) {
				f(slices.Clone(list[:size]), slices.Clone(list[size:]))
			}
		}
	}
	for _, a := range lists {
		for _, b := range lists {
			if len(a) > 0 && len(b) > 0 && len(a)+len(b) <= impl.MaxData {
				f(slices.Clone(a), slices.Clone(b))
			}
		}
	}
}

// badData returns lists that are not data: one number too many, or one out of its limits, at each place.
func badData() [][]int {
	lists := [][]int{
		slices.Repeat([]int{0}, impl.MaxData+1),
		slices.Repeat([]int{impl.MaxValue}, 100),
	}
	for _, x := range []int{impl.MaxValue + 1, -impl.MaxValue - 1, math.MaxInt, math.MinInt} {
		for size := 1; size <= impl.MaxData; size++ {
			for i := range size {
				list := make([]int, size)
				list[i] = x
				lists = append(lists, list)
			}
		}
	}
	return lists
}

// badPairs returns two lists that are not both data of as many numbers.
func badPairs() [][2][]int {
	pairs := [][2][]int{
		{nil, {1}},
		{{1}, nil},
		{{1, 2}, {1, 2, 3}},
		{{1, 2, 3}, {1, 2}},
	}
	for _, bad := range badData() {
		good := make([]int, len(bad))
		pairs = append(pairs, [2][]int{bad, good}, [2][]int{good, bad}, [2][]int{bad, bad})
	}
	return pairs
}

// badSamples returns two lists that are not both samples of at least one number that are data together.
func badSamples() [][2][]int {
	pairs := [][2][]int{
		{nil, nil},
		{{}, {}},
		{nil, {1}},
		{{1}, nil},
		{{}, {0, 0}},
		{{0, 0}, {}},
		{make([]int, 1), make([]int, impl.MaxData)},
		{make([]int, impl.MaxData), make([]int, 1)},
		{make([]int, impl.MaxData/2), make([]int, impl.MaxData/2+1)},
		{make([]int, impl.MaxData/2+1), make([]int, impl.MaxData/2)},
		{make([]int, impl.MaxData), make([]int, impl.MaxData)},
		{make([]int, impl.MaxData), nil},
		{nil, make([]int, impl.MaxData)},
	}
	for _, bad := range badData() {
		pairs = append(pairs, [2][]int{bad, {1}}, [2][]int{{1}, bad}, [2][]int{bad, bad})
	}
	return pairs
}

// badSides returns numbers of equal letters of which the orders are not counted.
func badSides() []int {
	return []int{-1, -impl.MaxSide, impl.MaxSide + 1, 1000, math.MinInt, math.MaxInt}
}

// badOrders returns numbers of numbers of which the orders are not counted.
func badOrders() []int {
	return []int{0, -1, -impl.MaxOrder, impl.MaxOrder + 1, 1000, math.MinInt, math.MaxInt}
}

// otherSigns returns the numbers with the other signs.
func otherSigns(list []int) []int {
	turned := make([]int, len(list))
	for i, x := range list {
		turned[i] = -x
	}
	return turned
}

// sumOf adds all numbers.
func sumOf(list []int) int {
	sum := 0
	for _, x := range list {
		sum += x
	}
	return sum
}

// eachOrder calls f with all orders of the numbers from 1 to n, in one array that is not to be kept.
func eachOrder(n int, f func(order []int)) {
	order := make([]int, n)
	for i := range order {
		order[i] = i + 1
	}
	var place func(i int)
	place = func(i int) {
		if i == n {
			f(order)
			return
		}
		for k := i; k < n; k++ {
			order[i], order[k] = order[k], order[i]
			place(i + 1)
			order[i], order[k] = order[k], order[i]
		}
	}
	place(0)
}

// fallsOf counts the pairs of a greater number ahead of a lesser one.
func fallsOf(order []int) int {
	falls := 0
	for i, x := range order {
		for _, y := range order[i+1:] {
			if x > y {
				falls++
			}
		}
	}
	return falls
}

// choices counts the ways to choose size of n things.
func choices(n, size int) int {
	ways := 1
	for i := range size {
		ways = ways * (n - i) / (i + 1)
	}
	return ways
}

// chosenSums returns the sum of each choice of size numbers at different places.
func chosenSums(list []int, size int) []int {
	if size == 0 {
		return []int{0}
	}
	if len(list) < size {
		return nil
	}
	sums := chosenSums(list[1:], size)
	for _, sum := range chosenSums(list[1:], size-1) {
		sums = append(sums, list[0]+sum)
	}
	return sums
}

// eachWord calls f with all orders of m letters a and n letters b.
func eachWord(m, n int, f func(word string)) {
	if m == 0 && n == 0 {
		f("")
	}
	if m > 0 {
		eachWord(m-1, n, func(word string) { f(word + "a") })
	}
	if n > 0 {
		eachWord(m, n-1, func(word string) { f(word + "b") })
	}
}

// winsOfWord counts the pairs of an a behind a b.
func winsOfWord(word string) int {
	wins := 0
	for i := range word {
		for k := range i {
			if word[i] == 'a' && word[k] == 'b' {
				wins++
			}
		}
	}
	return wins
}

// runsOfWord counts the rows of the same letters, each as long as it may be.
func runsOfWord(word string) int {
	runs := 0
	for word != "" {
		word = strings.TrimLeft(word, word[:1])
		runs++
	}
	return runs
}

// overwrite fills a list with other numbers, its spare memory too.
func overwrite(list []int) {
	list = list[:cap(list)]
	for i := range list {
		list[i] = -9999
	}
}
