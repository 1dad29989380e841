package tests

import (
	"fmt"
	"math"
	"math/bits"
	"slices"

	"loop.example/countedchances/impl"
)

// gapsOf returns the rows of distances of so many things, of the distances of all two: those of 0 to the ones behind it, of 1, and so on.
func gapsOf(size int, distances ...int) [][]int {
	gaps := make([][]int, size)
	for i := range gaps {
		gaps[i] = make([]int, size)
	}
	at := 0
	for a := range size {
		for b := a + 1; b < size; b++ {
			gaps[a][b], gaps[b][a] = distances[at], distances[at]
			at++
		}
	}
	return gaps
}

// gapsBy returns the rows of distances of so many things, each of two things by a rule.
func gapsBy(size int, rule func(a, b int) int) [][]int {
	var distances []int
	for a := range size {
		for b := a + 1; b < size; b++ {
			distances = append(distances, rule(a, b))
		}
	}
	return gapsOf(size, distances...)
}

// sameGaps returns the rows of distances of things that are all as far from each other.
func sameGaps(size, gap int) [][]int {
	return gapsBy(size, func(int, int) int { return gap })
}

// cloneRows copies rows one by one.
func cloneRows(rows [][]int) [][]int {
	cloned := make([][]int, len(rows))
	for i, row := range rows {
		cloned[i] = slices.Clone(row)
	}
	return cloned
}

// equalRows reports whether all rows are the same.
func equalRows(a, b [][]int) bool {
	return slices.EqualFunc(a, b, slices.Equal[[]int])
}

// withoutThing returns the distances without those of one thing.
func withoutThing(gaps [][]int, thing int) [][]int {
	others := slices.Delete(cloneRows(gaps), thing, thing+1)
	for i := range others {
		others[i] = slices.Delete(others[i], thing, thing+1)
	}
	return others
}

// eachGaps calls f with many distances, each once: all of few things and some distances, those of more by rules, and trees.
func eachGaps(f func(gaps [][]int)) {
	seen := map[string]bool{}
	offer := func(gaps [][]int) {
		for _, g := range [][][]int{gaps, stepsByWays(gaps)} {
			if key := fmt.Sprint(g); !seen[key] {
				seen[key] = true
				f(cloneRows(g))
			}
		}
	}
	offer([][]int{{0}})
	for gap := 1; gap <= impl.MaxGap; gap++ {
		offer(gapsOf(2, gap))
	}
	for _, distances := range listsOf(3, 1, 2, 3, 17, impl.MaxGap-1, impl.MaxGap) {
		offer(gapsOf(3, distances...))
	}
	for _, distances := range listsOf(6, 1, 5, impl.MaxGap) {
		offer(gapsOf(4, distances...))
	}
	for _, distances := range listsOf(10, 3, 4) {
		offer(gapsOf(5, distances...))
	}
	for size := 4; size <= impl.MaxThings; size++ {
		eachLongGaps(size, offer)
	}
}

// eachLongGaps calls f with distances of so many things by rules, and with the edges.
func eachLongGaps(size int, f func(gaps [][]int)) {
	for _, gap := range []int{1, 2, impl.MaxGap} {
		f(sameGaps(size, gap))
	}
	f(gapsBy(size, func(a, b int) int { return b - a }))
	f(gapsBy(size, func(a, b int) int { return 1<<b - 1<<a }))
	f(gapsBy(size, func(a, b int) int { return min(b-a, size+a-b) }))
	f(gapsBy(size, func(a, b int) int { return impl.MaxGap - 6*(b-a) }))
	f(gapsBy(size, func(a, b int) int { return 6*a + b }))
	f(gapsBy(size, func(a, b int) int { return impl.MaxGap - 6*a - b }))
	for _, most := range []int{2, 3, 4, 7, 15, impl.MaxGap} {
		for step := range 9 {
			for bend := range 7 {
				f(gapsBy(size, func(a, b int) int {
					return (step*step*a+bend*b*b+5*a*b*(step+3*bend)+b*a*a)%most + 1
				}))
			}
		}
	}
}

// reachedAt returns for each thing the least one that is reached over distances of at most h.
func reachedAt(gaps [][]int, h int) []int {
	firsts := make([]int, len(gaps))
	for start := range gaps {
		reached := []int{start}
		for at := 0; at < len(reached); at++ {
			for next, gap := range gaps[reached[at]] {
				if gap <= h && !slices.Contains(reached, next) {
					reached = append(reached, next)
				}
			}
		}
		firsts[start] = slices.Min(reached)
	}
	return firsts
}

// relabelled joins two groups, of which each thing has the label.
func relabelled(labels []int, a, b int) []int {
	joined := slices.Clone(labels)
	for i, label := range labels {
		if label == labels[b] {
			joined[i] = labels[a]
		}
	}
	return joined
}

// joinsBySize goes through all pairs of things by their distances, and of the same distance by A, and then by B.
func joinsBySize(gaps [][]int) []impl.Join {
	labels := reachedAt(gaps, 0)
	var joins []impl.Join
	for h := 1; h <= impl.MaxGap; h++ {
		for a := range gaps {
			for b := a + 1; b < len(gaps); b++ {
				if gaps[a][b] == h && labels[a] != labels[b] {
					labels = relabelled(labels, a, b)
					joins = append(joins, impl.Join{A: a, B: b, Height: h})
				}
			}
		}
	}
	return joins
}

// stepsByWays takes all ways from each thing to each other one, and returns the least greatest steps.
func stepsByWays(gaps [][]int) [][]int {
	steps := make([][]int, len(gaps))
	for start := range gaps {
		row := slices.Repeat([]int{math.MaxInt}, len(gaps))
		var walk func(way []int, greatest int)
		walk = func(way []int, greatest int) {
			at := way[len(way)-1]
			row[at] = min(row[at], greatest)
			for next, gap := range gaps[at] {
				if !slices.Contains(way, next) {
					walk(append(slices.Clip(way), next), max(greatest, gap))
				}
			}
		}
		walk([]int{start}, 0)
		steps[start] = row
	}
	return steps
}

// noDetourIsLess reports whether no way over one other thing has a lesser greatest step.
func noDetourIsLess(gaps [][]int) bool {
	for a := range gaps {
		for b := range gaps {
			for over := range gaps {
				if gaps[a][b] > max(gaps[a][over], gaps[over][b]) {
					return false
				}
			}
		}
	}
	return true
}

// shortestTree tries all sets of pairs, one fewer than things, and returns the least sum of those that join all things.
func shortestTree(gaps [][]int) int {
	var pairs [][2]int
	for b := range gaps {
		for a := range b {
			pairs = append(pairs, [2]int{a, b})
		}
	}
	shortest := math.MaxInt
	for set := range uint(1) << len(pairs) {
		if bits.OnesCount(set) != len(gaps)-1 {
			continue
		}
		labels := reachedAt(gaps, 0)
		sum := 0
		for i, pair := range pairs {
			if set>>i&1 == 1 {
				labels = relabelled(labels, pair[0], pair[1])
				sum += gaps[pair[0]][pair[1]]
			}
		}
		if slices.Min(labels) == slices.Max(labels) {
			shortest = min(shortest, sum)
		}
	}
	return shortest
}

// farthest returns the greatest distance of one of the things and one of the others.
func farthest(gaps [][]int, some, others []int) int {
	gap := 0
	for _, a := range some {
		for _, b := range others {
			gap = max(gap, gaps[a][b])
		}
	}
	return gap
}

// joinsOfFarGroups keeps the things of each group, at its least one, and goes through all two groups for each join.
func joinsOfFarGroups(gaps [][]int) []impl.Join {
	groups := make([][]int, len(gaps))
	for i := range gaps {
		groups[i] = []int{i}
	}
	var joins []impl.Join
	for range len(gaps) - 1 {
		next := impl.Join{Height: math.MaxInt}
		for a := range gaps {
			for b := a + 1; b < len(gaps); b++ {
				if len(groups[a]) == 0 || len(groups[b]) == 0 {
					continue
				}
				if height := farthest(gaps, groups[a], groups[b]); height < next.Height {
					next = impl.Join{A: a, B: b, Height: height}
				}
			}
		}
		groups[next.A] = slices.Concat(groups[next.A], groups[next.B])
		groups[next.B] = nil
		joins = append(joins, next)
	}
	return joins
}

// distanceTo returns the sum of the distances of all things to the nearest one of the set.
func distanceTo(gaps [][]int, set uint) int {
	sum := 0
	for _, row := range gaps {
		nearest := math.MaxInt
		for i, gap := range row {
			if set>>i&1 == 1 {
				nearest = min(nearest, gap)
			}
		}
		sum += nearest
	}
	return sum
}

// bestCenters tries all sets of k things, from the greatest number down.
func bestCenters(gaps [][]int, k int) (int, int) {
	best, least := uint(0), math.MaxInt
	for set := uint(1)<<len(gaps) - 1; set > 0; set-- {
		if bits.OnesCount(set) != k {
			continue
		}
		if sum := distanceTo(gaps, set); sum <= least {
			best, least = set, sum
		}
	}
	return int(best), least
}

// joinsRise reports whether no join is lower than the one ahead of it.
func joinsRise(joins []impl.Join) bool {
	return slices.IsSortedFunc(joins, func(a, b impl.Join) int { return a.Height - b.Height })
}

// outOfGaps returns numbers that are no distances to another thing.
func outOfGaps() []int {
	return []int{0, -1, -impl.MaxGap, impl.MaxGap + 1, 1000, math.MinInt, math.MaxInt}
}

// badGaps returns rows that are not distances: too few or too many rows, rows of another length, at each place,
// or distances, at each place, that are out of their limits or not the same both ways.
func badGaps() [][][]int {
	tables := [][][]int{nil, {}, {nil}, {{}}, {{0, 1}}, {{0}, {0}}, {{0, 1}, {1}}, {{0, 1}, nil}, sameGaps(impl.MaxThings+1, 1), sameGaps(20, 3)}
	for size := 1; size <= impl.MaxThings; size++ {
		offer := func(change func(gaps [][]int)) {
			for _, gaps := range [][][]int{sameGaps(size, 7), gapsBy(size, func(a, b int) int { return 5*a + b })} {
				change(gaps)
				tables = append(tables, gaps)
			}
		}
		// All rows are one too short, and one too long.
		offer(func(gaps [][]int) {
			for i := range gaps {
				gaps[i] = gaps[i][1:]
			}
		})
		offer(func(gaps [][]int) {
			for i := range gaps {
				gaps[i] = append(gaps[i], 7)
			}
		})
		for i := range size {
			offer(func(gaps [][]int) { gaps[i] = nil })
			offer(func(gaps [][]int) { gaps[i] = gaps[i][:size-1] })
			offer(func(gaps [][]int) { gaps[i] = append(gaps[i], 7) })
			offer(func(gaps [][]int) { gaps[i] = append(gaps[i], 0) })
			for _, x := range []int{1, 7, -1, impl.MaxGap, -impl.MaxGap, math.MinInt, math.MaxInt} {
				offer(func(gaps [][]int) { gaps[i][i] = x })
			}
			for k := range i {
				for _, x := range outOfGaps() {
					offer(func(gaps [][]int) { gaps[i][k], gaps[k][i] = x, x })
					offer(func(gaps [][]int) { gaps[i][k] = x })
					offer(func(gaps [][]int) { gaps[k][i] = x })
				}
				// Both ways are distances, but one is more than the other one.
				offer(func(gaps [][]int) { gaps[i][k]++ })
				offer(func(gaps [][]int) { gaps[k][i]++ })
				offer(func(gaps [][]int) { gaps[i][k] = impl.MaxGap })
				offer(func(gaps [][]int) { gaps[k][i] = impl.MaxGap })
			}
		}
	}
	return tables
}

// badReaches returns numbers that are no distances up to which things are in a group.
func badReaches() []int {
	return []int{-1, -impl.MaxGap, impl.MaxGap + 1, 1000, math.MinInt, math.MaxInt}
}

// badCenters returns numbers of centers that so many things do not have.
func badCenters(size int) []int {
	return []int{0, -1, -size, size + 1, 1000, math.MinInt, math.MaxInt}
}
