package tests

import (
	"math"
	"math/bits"
	"slices"
	"strings"

	"loop.example/countedchances/impl"
)

// samples returns valid data: all short lists of a few values, and the edges of the limits.
func samples() [][]int {
	lists := [][]int{nil}
	for start, size := 0, 0; size < 4; size++ {
		end := len(lists)
		for _, list := range lists[start:end] {
			for _, x := range []int{-3, 0, 7} {
				lists = append(lists, append(slices.Clone(list), x))
			}
		}
		start = end
	}
	return append(lists,
		[]int{impl.MaxValue},
		[]int{-impl.MaxValue},
		[]int{-impl.MaxValue, impl.MaxValue},
		[]int{5, 1, 5, 1, 1, 3},
		[]int{8, -8, 4, -4, 0, 2, -2},
		slices.Repeat([]int{0}, impl.MaxData),
		slices.Repeat([]int{-impl.MaxValue}, impl.MaxData),
		slices.Repeat([]int{impl.MaxValue, -impl.MaxValue}, impl.MaxData/2),
		[]int{1, 2, 3, 4, 5, 6, 7, 8, 9, 10},
		[]int{10, 9, 8, 7, 6, 5, 4, 3, 2, 1},
		[]int{200, -200, 13, 13, -7, 13, 0, -7, 42, 199},
		[]int{2, 2, 1, 1, 3, 3, 5, 5, 4, 4},
		[]int{6, 6, 6, 6, 6, 9, 9, 9, 9, 9})
}

// pairsOf calls f with all two samples of as many numbers.
func pairsOf(f func(a, b []int)) {
	lists := samples()
	for _, a := range lists {
		for _, b := range lists {
			if len(a) == len(b) {
				f(slices.Clone(a), slices.Clone(b))
			}
		}
	}
}

// twoSamples calls f with all two samples of at least one number each that are data together.
func twoSamples(f func(a, b []int)) {
	lists := samples()
	for _, list := range samples() {
		for _, size := range []int{1, 5, 9} {
			if size < len(list) {
				f(slices.Clone(list[:size]), slices.Clone(list[size:]))
			}
		}
	}
	for _, a := range lists {
		for _, b := range lists {
			if len(a) > 0 && len(b) > 0 && len(a)+len(b) <= impl.MaxData {
				f(slices.Clone(a), slices.Clone(b))
			}
		}
	}
}

// badData returns lists that are not data: one number too many, or one out of its limits, at each place.
func badData() [][]int {
	lists := [][]int{
		slices.Repeat([]int{0}, impl.MaxData+1),
		slices.Repeat([]int{impl.MaxValue}, 100),
	}
	for _, x := range []int{impl.MaxValue + 1, -impl.MaxValue - 1, math.MaxInt, math.MinInt} {
		for size := 1; size <= impl.MaxData; size++ {
			for i := range size {
				list := make([]int, size)
				list[i] = x
				lists = append(lists, list)
			}
		}
	}
	return lists
}

// badPairs returns two lists that are not both data of as many numbers.
func badPairs() [][2][]int {
	pairs := [][2][]int{
		{nil, {1}},
		{{1}, nil},
		{{1, 2}, {1, 2, 3}},
		{{1, 2, 3}, {1, 2}},
	}
	for _, bad := range badData() {
		good := make([]int, len(bad))
		pairs = append(pairs, [2][]int{bad, good}, [2][]int{good, bad}, [2][]int{bad, bad})
	}
	return pairs
}

// badSamples returns two lists that are not both samples of at least one number that are data together.
func badSamples() [][2][]int {
	pairs := [][2][]int{
		{nil, nil},
		{{}, {}},
		{nil, {1}},
		{{1}, nil},
		{{}, {0, 0}},
		{{0, 0}, {}},
		{make([]int, 1), make([]int, impl.MaxData)},
		{make([]int, impl.MaxData), make([]int, 1)},
		{make([]int, impl.MaxData/2), make([]int, impl.MaxData/2+1)},
		{make([]int, impl.MaxData/2+1), make([]int, impl.MaxData/2)},
		{make([]int, impl.MaxData), make([]int, impl.MaxData)},
		{make([]int, impl.MaxData), nil},
		{nil, make([]int, impl.MaxData)},
	}
	for _, bad := range badData() {
		pairs = append(pairs, [2][]int{bad, {1}}, [2][]int{{1}, bad}, [2][]int{bad, bad})
	}
	return pairs
}

// badSides returns numbers of equal letters of which the orders are not counted.
func badSides() []int {
	return []int{-1, -impl.MaxSide, impl.MaxSide + 1, 1000, math.MinInt, math.MaxInt}
}

// badOrders returns numbers of numbers of which the orders are not counted.
func badOrders() []int {
	return []int{0, -1, -impl.MaxOrder, impl.MaxOrder + 1, 1000, math.MinInt, math.MaxInt}
}

// otherSigns returns the numbers with the other signs.
func otherSigns(list []int) []int {
	turned := make([]int, len(list))
	for i, x := range list {
		turned[i] = -x
	}
	return turned
}

// sumOf adds all numbers.
func sumOf(list []int) int {
	sum := 0
	for _, x := range list {
		sum += x
	}
	return sum
}

// eachOrder calls f with all orders of the numbers from 1 to n, in one array that is not to be kept.
func eachOrder(n int, f func(order []int)) {
	order := make([]int, n)
	for i := range order {
		order[i] = i + 1
	}
	var place func(i int)
	place = func(i int) {
		if i == n {
			f(order)
			return
		}
		for k := i; k < n; k++ {
			order[i], order[k] = order[k], order[i]
			place(i + 1)
			order[i], order[k] = order[k], order[i]
		}
	}
	place(0)
}

// fallsOf counts the pairs of a greater number ahead of a lesser one.
func fallsOf(order []int) int {
	falls := 0
	for i, x := range order {
		for _, y := range order[i+1:] {
			if x > y {
				falls++
			}
		}
	}
	return falls
}

// choices counts the ways to choose size of n things.
func choices(n, size int) int {
	ways := 1
	for i := range size {
		ways = ways * (n - i) / (i + 1)
	}
	return ways
}

// chosenSums returns the sum of each choice of size numbers at different places.
func chosenSums(list []int, size int) []int {
	if size == 0 {
		return []int{0}
	}
	if len(list) < size {
		return nil
	}
	sums := chosenSums(list[1:], size)
	for _, sum := range chosenSums(list[1:], size-1) {
		sums = append(sums, list[0]+sum)
	}
	return sums
}

// eachWord calls f with all orders of m letters a and n letters b.
func eachWord(m, n int, f func(word string)) {
	if m == 0 && n == 0 {
		f("")
	}
	if m > 0 {
		eachWord(m-1, n, func(word string) { f(word + "a") })
	}
	if n > 0 {
		eachWord(m, n-1, func(word string) { f(word + "b") })
	}
}

// winsOfWord counts the pairs of an a behind a b.
func winsOfWord(word string) int {
	wins := 0
	for i := range word {
		for k := range i {
			if word[i] == 'a' && word[k] == 'b' {
				wins++
			}
		}
	}
	return wins
}

// runsOfWord counts the rows of the same letters, each as long as it may be.
func runsOfWord(word string) int {
	runs := 0
	for word != "" {
		word = strings.TrimLeft(word, word[:1])
		runs++
	}
	return runs
}

// overwrite fills a list with other numbers, its spare memory too.
func overwrite(list []int) {
	overwriteBy(list, -9999)
}

// overwriteBy fills a list with something else, its spare memory too.
func overwriteBy[T any](list []T, other T) {
	list = list[:cap(list)]
	for i := range list {
		list[i] = other
	}
}

// badCells returns numbers that are out of the limits of a table of four.
func badCells() []int {
	return []int{-1, -impl.MaxCell, impl.MaxCell + 1, 1000, math.MinInt, math.MaxInt}
}

// badFours returns tables with one number out of the limits, at each place, or with all of them.
func badFours() []impl.Four {
	var tables []impl.Four
	for _, x := range badCells() {
		for _, y := range []int{0, 1, impl.MaxCell} {
			tables = append(tables,
				impl.Four{A: x, B: y, C: y, D: y},
				impl.Four{A: y, B: x, C: y, D: y},
				impl.Four{A: y, B: y, C: x, D: y},
				impl.Four{A: y, B: y, C: y, D: x})
		}
		tables = append(tables, impl.Four{A: x, B: x, C: x, D: x}, impl.Four{A: x, B: -x, C: -x, D: x})
	}
	return tables
}

// eachFour calls f with all tables of numbers up to most.
func eachFour(most int, f func(impl.Four)) {
	for a := range most + 1 {
		for b := range most + 1 {
			for c := range most + 1 {
				for d := range most + 1 {
					f(impl.Four{A: a, B: b, C: c, D: d})
				}
			}
		}
	}
}

// foursWithSums returns the tables of numbers of at least 0 with the sums of f, found by trying all first numbers.
func foursWithSums(f impl.Four) []impl.Four {
	var tables []impl.Four
	for a := range 2*impl.MaxCell + 1 {
		b, c := f.A+f.B-a, f.A+f.C-a
		d := f.C + f.D - c
		if b >= 0 && c >= 0 && d >= 0 {
			tables = append(tables, impl.Four{A: a, B: b, C: c, D: d})
		}
	}
	return tables
}

// waysOfFour counts the choices of the first column, also where a number is above MaxCell.
func waysOfFour(f impl.Four) int {
	return choices(f.A+f.B, f.A) * choices(f.C+f.D, f.C)
}

// ordersOf counts the orders of n things.
func ordersOf(n int) int {
	orders := 1
	for i := range n {
		orders *= i + 1
	}
	return orders
}

// partsOf returns all lists of so many numbers of at least 0 with the sum.
func partsOf(sum, size int) [][]int {
	if size == 0 {
		if sum == 0 {
			return [][]int{nil}
		}
		return nil
	}
	var lists [][]int
	for x := range sum + 1 {
		for _, behind := range partsOf(sum-x, size-1) {
			lists = append(lists, append([]int{x}, behind...))
		}
	}
	return lists
}

// validLines returns all valid sums of rows, or of columns.
func validLines() [][]int {
	var lists [][]int
	for size := 1; size <= impl.MaxLines; size++ {
		for sum := range size*impl.MaxSum + 1 {
			for _, list := range partsOf(sum, size) {
				if slices.Max(list) <= impl.MaxSum {
					lists = append(lists, list)
				}
			}
		}
	}
	return lists
}

// eachSums calls f with all valid sums of rows and of columns that are the same together.
func eachSums(f func(rows, cols []int)) {
	for _, rows := range validLines() {
		for _, cols := range validLines() {
			if sumOf(rows) == sumOf(cols) {
				f(rows, cols)
			}
		}
	}
}

// badSums returns sums of rows and of columns of which no tables are counted.
func badSums() [][2][]int {
	pairs := [][2][]int{
		{nil, nil},
		{{}, {}},
		{{1}, {2}},
		{{2}, {1}},
		{{0}, {1}},
		{{1}, {0}},
		{{6, 6}, {6, 5}},
		{{6, 6, 6}, {6, 6}},
		{{-1, 1}, {0}},
		{{0}, {1, -1}},
		{{7}, {7}},
		{{7}, {6, 1}},
		{{3, 4}, {7}},
		{{7, 0, 0}, {0, 0, 7}},
		{{math.MaxInt, math.MinInt, 1}, {0}},
		{{math.MaxInt, math.MaxInt, 2}, {0}},
		{{0}, {math.MinInt, math.MinInt}},
	}
	for _, bad := range [][]int{
		nil,
		{},
		make([]int, impl.MaxLines+1),
		make([]int, 100),
		{-1},
		{impl.MaxSum + 1},
		{math.MinInt},
		{math.MaxInt},
		{0, 0, -1},
		{0, -1, 1},
		{impl.MaxSum + 1, 0, 0},
		{0, 0, impl.MaxSum + 1},
	} {
		for _, other := range [][]int{{0}, {0, 0}, {0, 0, 0}, {6}, {6, 1}, {1, 1, 1}, bad} {
			pairs = append(pairs, [2][]int{bad, other}, [2][]int{other, bad})
		}
	}
	return pairs
}

// giveOut gives each thing of each row to each column in turn, and counts what has the sums of columns.
func giveOut(rows, cols []int) (int, int) {
	var owners []int
	for row, things := range rows {
		owners = append(owners, slices.Repeat([]int{row}, things)...)
	}
	seen := map[[impl.MaxLines][impl.MaxLines]int]bool{}
	ways := 0
	var give func(thing int, table [impl.MaxLines][impl.MaxLines]int)
	give = func(thing int, table [impl.MaxLines][impl.MaxLines]int) {
		if thing < len(owners) {
			for col := range cols {
				next := table
				next[owners[thing]][col]++
				give(thing+1, next)
			}
			return
		}
		for col, sum := range cols {
			if table[0][col]+table[1][col]+table[2][col] != sum {
				return
			}
		}
		seen[table] = true
		ways++
	}
	give(0, [impl.MaxLines][impl.MaxLines]int{})
	return len(seen), ways
}

// tallyTables counts for the sums of each choice of so many columns the tables with the sums of rows, and their ways.
func tallyTables(rows []int, size int) map[[impl.MaxLines]int][2]int {
	if len(rows) == 0 {
		return map[[impl.MaxLines]int][2]int{{}: {1, 1}}
	}
	tally := map[[impl.MaxLines]int][2]int{}
	for sums, counts := range tallyTables(rows[1:], size) {
		for _, row := range partsOf(rows[0], size) {
			next, ways := sums, ordersOf(rows[0])
			for col, things := range row {
				next[col] += things
				ways /= ordersOf(things)
			}
			so := tally[next]
			tally[next] = [2]int{so[0] + counts[0], so[1] + ways*counts[1]}
		}
	}
	return tally
}

// eachTries calls f with all valid tries: n of them, each of which hits in u of v ways.
func eachTries(f func(n, u, v int)) {
	for n := range impl.MaxTries + 1 {
		for v := 1; v <= impl.MaxBase; v++ {
			for u := range v + 1 {
				f(n, u, v)
			}
		}
	}
}

// eachBase calls f with all n of at least 1 and v of tries that are bounded.
func eachBase(f func(n, v int)) {
	for n := 1; n <= impl.MaxTries; n++ {
		for v := 1; v <= impl.MaxBase; v++ {
			f(n, v)
		}
	}
}

// eachLevel calls f with levels from 0 up to all, of the least, the greatest and some other numbers.
func eachLevel(f func(a, b int)) {
	for _, b := range []int{1, 2, 3, 8, 27, impl.MaxLevel} {
		for a := range b + 1 {
			f(a, b)
		}
	}
}

// hitsOneByOne takes all ways of n tries one by one, and counts how many of them have so many hits.
func hitsOneByOne(n, u, v int) []int {
	counts := make([]int, n+1)
	var try func(left, hits int)
	try = func(left, hits int) {
		if left == 0 {
			counts[hits]++
			return
		}
		for way := range v {
			if way < u {
				try(left-1, hits+1)
			} else {
				try(left-1, hits)
			}
		}
	}
	try(n, 0)
	return counts
}

// hitCounts counts how many ways have so many hits by adding try after try.
func hitCounts(n, u, v int) []int {
	counts := []int{1}
	for range n {
		next := make([]int, len(counts)+1)
		for hits, ways := range counts {
			next[hits] += (v - u) * ways
			next[hits+1] += u * ways
		}
		counts = next
	}
	return counts
}

// setSizes takes all sets of n things one by one, and counts how many of them have so many things.
func setSizes(n int) []int {
	counts := make([]int, n+1)
	for set := range uint(1) << n {
		counts[bits.OnesCount(set)]++
	}
	return counts
}

// badTries returns numbers n, u and v that are not those of tries.
func badTries() [][3]int {
	tries := [][3]int{{-1, 2, 1}, {11, -1, 13}, {-1, -1, -1}}
	for _, n := range []int{-1, -impl.MaxTries, impl.MaxTries + 1, 1000, math.MinInt, math.MaxInt} {
		tries = append(tries, [3]int{n, 0, 1}, [3]int{n, 1, 2}, [3]int{n, impl.MaxBase, impl.MaxBase})
	}
	for n := range impl.MaxTries + 1 {
		for _, v := range []int{0, -1, -impl.MaxBase, impl.MaxBase + 1, 1000, math.MinInt, math.MaxInt} {
			tries = append(tries, [3]int{n, 0, v}, [3]int{n, 1, v}, [3]int{n, v, v})
		}
		for v := 1; v <= impl.MaxBase; v++ {
			for _, u := range []int{-1, -v, v + 1, impl.MaxBase + 1, math.MinInt, math.MaxInt} {
				tries = append(tries, [3]int{n, u, v})
			}
		}
	}
	return tries
}

// badLevels returns numbers a and b that are not those of a level.
func badLevels() [][2]int {
	levels := [][2]int{{0, 0}, {1, 0}, {0, -1}, {-1, -1}, {-2, -1}}
	for _, b := range []int{impl.MaxLevel + 1, -impl.MaxLevel, 1000, math.MinInt, math.MaxInt} {
		levels = append(levels, [2]int{0, b}, [2]int{1, b}, [2]int{b, b})
	}
	for _, b := range []int{1, 2, 50, impl.MaxLevel} {
		for _, a := range []int{-1, -b, b + 1, impl.MaxLevel + 1, math.MinInt, math.MaxInt} {
			levels = append(levels, [2]int{a, b})
		}
	}
	return levels
}

// listsOf returns all lists of so many of the values.
func listsOf(size int, values ...int) [][]int {
	if size == 0 {
		return [][]int{nil}
	}
	var lists [][]int
	for _, list := range listsOf(size-1, values...) {
		for _, x := range values {
			lists = append(lists, append(slices.Clone(list), x))
		}
	}
	return lists
}

// oddsLists returns valid odds: all short lists of some values, long ones of a few, and all orders of different ones.
func oddsLists() [][]int {
	var lists [][]int
	for size := 1; size <= 3; size++ {
		lists = append(lists, listsOf(size, 0, 1, 7, 30, 167, 334, 500, 501, 999, impl.Full)...)
	}
	for size := 4; size <= impl.MaxTests; size++ {
		lists = append(lists, listsOf(size, 0, 30, impl.Full)...)
		lists = append(lists, slices.Repeat([]int{166}, size), slices.Repeat([]int{167}, size), slices.Repeat([]int{999}, size))
	}
	for _, values := range [][]int{
		{1, 2, 3, 4, 5, 6},
		{5, 11, 20, 70, 81, 300},
		{10, 14, 30, 31, 32, 33},
		{4, 4, 9, 9, 9, 230},
		{100, 180, 200, 280, 290, 700},
	} {
		eachOrder(impl.MaxTests, func(order []int) {
			list := make([]int, len(order))
			for i, place := range order {
				list[i] = values[place-1]
			}
			lists = append(lists, list)
		})
	}
	return lists
}

// levelsFor returns, ascending, the least and the greatest levels and those around each of the numbers.
func levelsFor(lists ...[]int) []int {
	levels := []int{0, 1, impl.Full - 1, impl.Full}
	for _, list := range lists {
		for _, x := range list {
			levels = append(levels, max(x-1, 0), x, min(x+1, impl.Full))
		}
	}
	slices.Sort(levels)
	return slices.Compact(levels)
}

// isAhead reports whether the number at the index k stands ahead of that at i by size, and then by index.
func isAhead(list []int, k, i int) bool {
	return list[k] < list[i] || list[k] == list[i] && k < i
}

// aheadOf counts the numbers that stand ahead of that at an index.
func aheadOf(list []int, i int) int {
	count := 0
	for k := range list {
		if isAhead(list, k, i) {
			count++
		}
	}
	return count
}

// foundSet reports whether odds are found together at the level, by the kind least or each: all at most one of them count for it.
func foundSet(set []int, level int, kind string) bool {
	for _, x := range set {
		count := 1
		if kind == "each" {
			count = 0
			for _, y := range set {
				if y <= x {
					count++
				}
			}
		}
		if x*len(set) <= count*level {
			return true
		}
	}
	return false
}

// closedOf tries for each of the odds all sets that have it.
func closedOf(list []int, level int, kind string) []int {
	var closed []int
	for i := range list {
		all := true
		var try func(k int, set []int)
		try = func(k int, set []int) {
			if k == len(list) {
				all = all && foundSet(set, level, kind)
				return
			}
			if k != i {
				try(k+1, set)
			}
			try(k+1, append(slices.Clip(set), list[k]))
		}
		try(0, nil)
		if all {
			closed = append(closed, i)
		}
	}
	return closed
}

// within reports whether all numbers are among the others.
func within(list, others []int) bool {
	for _, x := range list {
		if !slices.Contains(others, x) {
			return false
		}
	}
	return true
}

// noneLess reports whether a has as many numbers as b, none less than that of b at its index.
func noneLess(a, b []int) bool {
	for i := range min(len(a), len(b)) {
		if a[i] < b[i] {
			return false
		}
	}
	return len(a) == len(b)
}

// outOfOdds returns numbers that are neither odds nor levels of them.
func outOfOdds() []int {
	return []int{-1, -impl.Full, impl.Full + 1, 2 * impl.Full, math.MinInt, math.MaxInt}
}

// badOdds returns lists that are not odds: no numbers, too many of them, or one out of its limits, at each place.
func badOdds() [][]int {
	lists := [][]int{
		nil,
		{},
		make([]int, impl.MaxTests+1),
		slices.Repeat([]int{impl.Full}, impl.MaxTests+1),
		make([]int, 100),
	}
	for _, x := range outOfOdds() {
		for size := 1; size <= impl.MaxTests; size++ {
			for i := range size {
				list := slices.Repeat([]int{10}, size)
				list[i] = x
				lists = append(lists, list)
			}
			lists = append(lists, slices.Repeat([]int{x}, size))
		}
	}
	return lists
}

// badKinds returns words, and none, by which no sets of odds are found.
func badKinds() []string {
	return []string{"", " ", "Least", "Each", "LEAST", "EACH", "leas", "eac", "least ", " each", "leasteach", "least,each", "all", "0", "least\x00"}
}

// drawLists returns valid data to draw from: all lists of up to MaxDrawn of some values.
func drawLists() [][]int {
	var lists [][]int
	for size := 1; size <= impl.MaxDrawn; size++ {
		lists = append(lists, listsOf(size, -impl.MaxValue, -3, 0, 1, 7, impl.MaxValue)...)
	}
	return lists
}

// badDraws returns lists that are not drawn from: no numbers, too many of them, or one out of its limits.
func badDraws() [][]int {
	lists := [][]int{nil, {}, {1, 2, 3, 4, 5}}
	for size := impl.MaxDrawn + 1; size <= impl.MaxData; size++ {
		lists = append(lists, make([]int, size), slices.Repeat([]int{impl.MaxValue}, size))
	}
	return append(lists, badData()...)
}

// drawCounts counts the ways to each sum by adding draw after draw.
func drawCounts(list []int) map[int]int {
	counts := map[int]int{0: 1}
	for range list {
		next := map[int]int{}
		for sum, ways := range counts {
			for _, x := range list {
				next[sum+x] += ways
			}
		}
		counts = next
	}
	return counts
}

// middleTwice returns twice the number in the middle by size of an odd number of them, or the sum of the two.
func middleTwice(list []int) int {
	sorted := slices.Sorted(slices.Values(list))
	half := len(sorted) / 2
	if len(sorted)%2 == 1 {
		return 2 * sorted[half]
	}
	return sorted[half-1] + sorted[half]
}

// gapOfWord returns how far the letters a, times all b, and the letters b, times all a, get apart.
func gapOfWord(word string) int {
	m, n := strings.Count(word, "a"), strings.Count(word, "b")
	gap := 0
	for end := range len(word) + 1 {
		gap = max(gap, strings.Count(word[:end], "a")*n-strings.Count(word[:end], "b")*m)
		gap = max(gap, strings.Count(word[:end], "b")*m-strings.Count(word[:end], "a")*n)
	}
	return gap
}

// gapsOfWords returns the gaps of all orders of m letters a and n letters b.
func gapsOfWords(m, n int) []int {
	var gaps []int
	eachWord(m, n, func(word string) { gaps = append(gaps, gapOfWord(word)) })
	return gaps
}

// gapAtAll takes the gap of two samples at each number that there may be, and at those between samples, too.
func gapAtAll(a, b []int) int {
	gap := 0
	for x := -impl.MaxValue; x <= impl.MaxValue; x++ {
		wide := 0
		for _, y := range a {
			if y <= x {
				wide += len(b)
			}
		}
		for _, y := range b {
			if y <= x {
				wide -= len(a)
			}
		}
		gap = max(gap, wide, -wide)
	}
	return gap
}

// samplesOf returns the samples of an order: the ascending values at the letters a, and those at the letters b.
func samplesOf(word string, values []int) ([]int, []int) {
	var a, b []int
	for i := range word {
		if word[i] == 'a' {
			a = append(a, values[i])
		} else {
			b = append(b, values[i])
		}
	}
	return a, b
}

// eachSteps calls f with all numbers of steps in both directions.
func eachSteps(f func(m, n int)) {
	for m := 1; m <= impl.MaxSide; m++ {
		for n := 1; n <= impl.MaxSide; n++ {
			f(m, n)
		}
	}
}

// eachSidesWord calls f with all orders of two samples that are data together, of at most MaxSide numbers each.
func eachSidesWord(f func(word string)) {
	eachSteps(func(m, n int) {
		if m+n <= impl.MaxData {
			eachWord(m, n, f)
		}
	})
}
