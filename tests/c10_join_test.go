package tests

import (
	"math"
	"slices"
	"testing"

	"loop.example/countedchances/impl"
)

func TestValidGapsOfFewThings(t *testing.T) {
	for _, c := range []struct {
		gaps [][]int
		want bool
	}{
		{nil, false},
		{[][]int{}, false},
		{[][]int{{}}, false},
		{[][]int{{0}}, true},
		{[][]int{{1}}, false},
		{[][]int{{-1}}, false},
		{[][]int{{0, 0}}, false},
		{[][]int{{0, 0}, {0, 0}}, false},
		{[][]int{{0, 1}, {1, 0}}, true},
		{[][]int{{0, 40}, {40, 0}}, true},
		{[][]int{{0, 41}, {41, 0}}, false},
		{[][]int{{0, -1}, {-1, 0}}, false},
		{[][]int{{0, 1}, {2, 0}}, false},
		{[][]int{{0, 2}, {1, 0}}, false},
		{[][]int{{0, 1}, {1, 1}}, false},
		{[][]int{{1, 1}, {1, 0}}, false},
		{[][]int{{0, 1}, {1}}, false},
		{[][]int{{0}, {1, 0}}, false},
		{[][]int{{0, 1, 1}, {1, 0, 1}}, false},
		{[][]int{{0, 1}, {1, 0}, {1, 1}}, false},
		// No thing over another one needs to be nearer.
		{[][]int{{0, 1, 40}, {1, 0, 1}, {40, 1, 0}}, true},
		{[][]int{{0, 1, 40}, {1, 0, 1}, {39, 1, 0}}, false},
		{sameGaps(6, 40), true},
		{sameGaps(6, 1), true},
		{sameGaps(7, 1), false},
	} {
		if got := impl.ValidGaps(c.gaps); got != c.want {
			t.Errorf("ValidGaps(%v) = %v", c.gaps, got)
		}
	}
}

// Promise 67.
func TestThingsCanBeLeftOut(t *testing.T) {
	eachGaps(func(gaps [][]int) {
		if !impl.ValidGaps(gaps) {
			t.Errorf("ValidGaps(%v) = false", gaps)
		}
		for thing := range gaps {
			if others := withoutThing(gaps, thing); impl.ValidGaps(others) != (len(gaps) > 1) {
				t.Errorf("ValidGaps(%v) = %v, and it holds of %v", others, len(gaps) <= 1, gaps)
			}
		}
	})
}

func TestGroupsAtFewDistances(t *testing.T) {
	line := gapsBy(6, func(a, b int) int { return 1<<b - 1<<a })
	for _, c := range []struct {
		gaps [][]int
		h    int
		want []int
	}{
		{[][]int{{0}}, 0, []int{0}},
		{[][]int{{0}}, 40, []int{0}},
		{gapsOf(2, 1), 0, []int{0, 1}},
		{gapsOf(2, 1), 1, []int{0, 0}},
		{gapsOf(2, 40), 39, []int{0, 1}},
		{gapsOf(2, 40), 40, []int{0, 0}},
		{sameGaps(6, 5), 4, []int{0, 1, 2, 3, 4, 5}},
		{sameGaps(6, 5), 5, []int{0, 0, 0, 0, 0, 0}},
		{sameGaps(6, 40), 0, []int{0, 1, 2, 3, 4, 5}},
		{sameGaps(6, 40), 39, []int{0, 1, 2, 3, 4, 5}},
		{sameGaps(6, 40), 40, []int{0, 0, 0, 0, 0, 0}},
		// Things are reached over others that are nearer, whatever their order.
		{gapsOf(3, 9, 2, 2), 1, []int{0, 1, 2}},
		{gapsOf(3, 9, 2, 2), 2, []int{0, 0, 0}},
		{gapsOf(4, 9, 9, 3, 3, 9, 4), 2, []int{0, 1, 2, 3}},
		{gapsOf(4, 9, 9, 3, 3, 9, 4), 3, []int{0, 1, 1, 0}},
		{gapsOf(4, 9, 9, 3, 3, 9, 4), 4, []int{0, 0, 0, 0}},
		// Groups whose least things are not 0.
		{gapsOf(4, 9, 9, 9, 9, 3, 9), 3, []int{0, 1, 2, 1}},
		{gapsOf(4, 9, 9, 9, 9, 9, 3), 8, []int{0, 1, 2, 2}},
		{gapsOf(5, 9, 9, 9, 9, 3, 9, 9, 9, 9, 3), 3, []int{0, 1, 1, 3, 3}},
		{line, 0, []int{0, 1, 2, 3, 4, 5}},
		{line, 1, []int{0, 0, 2, 3, 4, 5}},
		{line, 7, []int{0, 0, 0, 0, 4, 5}},
		{line, 8, []int{0, 0, 0, 0, 0, 5}},
		{line, 15, []int{0, 0, 0, 0, 0, 5}},
		{line, 16, []int{0, 0, 0, 0, 0, 0}},
	} {
		if got := impl.GroupsAt(c.gaps, c.h); !slices.Equal(got, c.want) {
			t.Errorf("GroupsAt(%v, %d) = %v, want %v", c.gaps, c.h, got, c.want)
		}
	}
}

// Promise 68.
func TestGroupsAreThoseOfSmallSteps(t *testing.T) {
	eachGaps(func(gaps [][]int) {
		steps := impl.SmallSteps(gaps)
		if len(steps) != len(gaps) {
			t.Fatalf("SmallSteps(%v) = %v", gaps, steps)
		}
		for h := range impl.MaxGap + 1 {
			got := impl.GroupsAt(gaps, h)
			if want := reachedAt(gaps, h); !slices.Equal(got, want) {
				t.Fatalf("GroupsAt(%v, %d) = %v, want %v", gaps, h, got, want)
			}
			for a := range gaps {
				for b := range gaps {
					if (got[a] == got[b]) != (steps[a][b] <= h) {
						t.Errorf("GroupsAt(%v, %d) = %v, and SmallSteps are %v", gaps, h, got, steps)
					}
				}
			}
		}
	})
}

// joined is how things are joined, from the first join on, at the heights.
func joined(numbers ...int) []impl.Join {
	var joins []impl.Join
	for join := range slices.Chunk(numbers, 3) {
		joins = append(joins, impl.Join{A: join[0], B: join[1], Height: join[2]})
	}
	return joins
}

func TestJoinsOfFewThings(t *testing.T) {
	for _, c := range []struct {
		gaps   [][]int
		near   []impl.Join
		far    []impl.Join
		steps  [][]int
		length int
	}{
		{[][]int{{0}}, nil, nil, [][]int{{0}}, 0},
		{gapsOf(2, 1), joined(0, 1, 1), joined(0, 1, 1), gapsOf(2, 1), 1},
		{gapsOf(2, 40), joined(0, 1, 40), joined(0, 1, 40), gapsOf(2, 40), 40},
		// All distances are the same, so that the least A and then the least B come first.
		{gapsOf(3, 5, 5, 5), joined(0, 1, 5, 0, 2, 5), joined(0, 1, 5, 0, 2, 5), gapsOf(3, 5, 5, 5), 10},
		{sameGaps(6, 40), joined(0, 1, 40, 0, 2, 40, 0, 3, 40, 0, 4, 40, 0, 5, 40), joined(0, 1, 40, 0, 2, 40, 0, 3, 40, 0, 4, 40, 0, 5, 40), sameGaps(6, 40), 200},
		{sameGaps(6, 1), joined(0, 1, 1, 0, 2, 1, 0, 3, 1, 0, 4, 1, 0, 5, 1), joined(0, 1, 1, 0, 2, 1, 0, 3, 1, 0, 4, 1, 0, 5, 1), sameGaps(6, 1), 5},
		// Two of three are the same.
		{gapsOf(3, 2, 5, 5), joined(0, 1, 2, 0, 2, 5), joined(0, 1, 2, 0, 2, 5), gapsOf(3, 2, 5, 5), 7},
		{gapsOf(3, 5, 5, 2), joined(1, 2, 2, 0, 1, 5), joined(1, 2, 2, 0, 1, 5), gapsOf(3, 5, 5, 2), 7},
		{gapsOf(3, 5, 2, 2), joined(0, 2, 2, 1, 2, 2), joined(0, 2, 2, 0, 1, 5), gapsOf(3, 2, 2, 2), 4},
		{gapsOf(3, 2, 2, 5), joined(0, 1, 2, 0, 2, 2), joined(0, 1, 2, 0, 2, 5), gapsOf(3, 2, 2, 2), 4},
		{gapsOf(3, 1, 40, 1), joined(0, 1, 1, 1, 2, 1), joined(0, 1, 1, 0, 2, 40), gapsOf(3, 1, 1, 1), 2},
		// A is a thing for near joins, and the least thing of a group for far ones.
		{gapsOf(3, 7, 9, 3), joined(1, 2, 3, 0, 1, 7), joined(1, 2, 3, 0, 1, 9), gapsOf(3, 7, 7, 3), 10},
		{gapsOf(3, 9, 3, 7), joined(0, 2, 3, 1, 2, 7), joined(0, 2, 3, 0, 1, 9), gapsOf(3, 7, 3, 7), 10},
		// The same height with several A.
		{gapsOf(4, 9, 4, 9, 9, 4, 9), joined(0, 2, 4, 1, 3, 4, 0, 1, 9), joined(0, 2, 4, 1, 3, 4, 0, 1, 9), gapsOf(4, 9, 4, 9, 9, 4, 9), 17},
		{gapsOf(4, 9, 9, 4, 4, 9, 9), joined(0, 3, 4, 1, 2, 4, 0, 1, 9), joined(0, 3, 4, 1, 2, 4, 0, 1, 9), gapsOf(4, 9, 9, 4, 4, 9, 9), 17},
		// The same height and A with several B.
		{
			gapsOf(5, 8, 8, 8, 8, 3, 8, 3, 8, 8, 8),
			joined(1, 2, 3, 1, 4, 3, 0, 1, 8, 0, 3, 8), joined(1, 2, 3, 0, 1, 8, 0, 3, 8, 0, 4, 8),
			gapsOf(5, 8, 8, 8, 8, 3, 8, 3, 8, 3, 8), 22,
		},
		// The same height and B with several A.
		{gapsOf(4, 9, 9, 9, 9, 3, 3), joined(1, 3, 3, 2, 3, 3, 0, 1, 9), joined(1, 3, 3, 0, 1, 9, 0, 2, 9), gapsOf(4, 9, 9, 9, 3, 3, 3), 15},
		// The thing 2 is the lesser B, though the group of 4 has a lesser thing than that of 2.
		{
			gapsOf(5, 9, 5, 9, 5, 9, 9, 1, 9, 9, 9),
			joined(1, 4, 1, 0, 2, 5, 0, 4, 5, 0, 3, 9), joined(1, 4, 1, 0, 2, 5, 0, 1, 9, 0, 3, 9),
			gapsOf(5, 5, 5, 9, 5, 5, 9, 1, 9, 5, 9), 20,
		},
		// Steps over others are smaller.
		{gapsBy(4, func(a, b int) int { return 10 * (b - a) }), joined(0, 1, 10, 1, 2, 10, 2, 3, 10), joined(0, 1, 10, 2, 3, 10, 0, 2, 30), sameGaps(4, 10), 30},
		{gapsOf(4, 2, 5, 9, 4, 8, 3), joined(0, 1, 2, 2, 3, 3, 1, 2, 4), joined(0, 1, 2, 2, 3, 3, 0, 2, 9), gapsOf(4, 2, 4, 4, 4, 4, 3), 9},
		{
			gapsBy(6, func(a, b int) int { return 1<<b - 1<<a }),
			joined(0, 1, 1, 1, 2, 2, 2, 3, 4, 3, 4, 8, 4, 5, 16), joined(0, 1, 1, 0, 2, 3, 0, 3, 7, 0, 4, 15, 0, 5, 31),
			gapsBy(6, func(_, b int) int { return 1 << (b - 1) }), 31,
		},
		// The last thing is the middle of a star.
		{
			gapsBy(6, func(_, b int) int { return 12 - 10*(b/5) }),
			joined(0, 5, 2, 1, 5, 2, 2, 5, 2, 3, 5, 2, 4, 5, 2), joined(0, 5, 2, 0, 1, 12, 0, 2, 12, 0, 3, 12, 0, 4, 12),
			sameGaps(6, 2), 10,
		},
		{
			gapsBy(6, func(a, b int) int { return min(b-a, 6+a-b) }),
			joined(0, 1, 1, 0, 5, 1, 1, 2, 1, 2, 3, 1, 3, 4, 1), joined(0, 1, 1, 2, 3, 1, 4, 5, 1, 0, 2, 3, 0, 4, 3),
			sameGaps(6, 1), 5,
		},
	} {
		checkJoins(t, c.gaps, c.near, c.far, c.steps, c.length)
	}
}

// checkJoins checks how things are joined, their small steps, and how long their tree is.
func checkJoins(t *testing.T, gaps [][]int, near, far []impl.Join, steps [][]int, length int) {
	if got := impl.JoinsOf(gaps); !slices.Equal(got, near) {
		t.Errorf("JoinsOf(%v) = %v, want %v", gaps, got, near)
	}
	if got := impl.FarJoins(gaps); !slices.Equal(got, far) {
		t.Errorf("FarJoins(%v) = %v, want %v", gaps, got, far)
	}
	if got := impl.SmallSteps(gaps); !equalRows(got, steps) {
		t.Errorf("SmallSteps(%v) = %v, want %v", gaps, got, steps)
	}
	if got := impl.StepsByJoins(gaps); !equalRows(got, steps) {
		t.Errorf("StepsByJoins(%v) = %v, want %v", gaps, got, steps)
	}
	if got, want := impl.IsTree(gaps), equalRows(gaps, steps); got != want {
		t.Errorf("IsTree(%v) = %v, want %v", gaps, got, want)
	}
	if got := impl.TreeLength(gaps); got != length {
		t.Errorf("TreeLength(%v) = %d, want %d", gaps, got, length)
	}
}

func TestJoinsOfManyThings(t *testing.T) {
	eachGaps(func(gaps [][]int) {
		checkJoins(t, gaps, joinsBySize(gaps), joinsOfFarGroups(gaps), stepsByWays(gaps), shortestTree(gaps))
	})
}

// Promise 69.
func TestJoinsAreATree(t *testing.T) {
	eachGaps(func(gaps [][]int) {
		joins, length := impl.JoinsOf(gaps), 0
		labels := reachedAt(gaps, 0)
		for _, join := range joins {
			if join.A < 0 || join.A >= join.B || join.B >= len(gaps) || labels[join.A] == labels[join.B] || join.Height != gaps[join.A][join.B] {
				t.Fatalf("JoinsOf(%v) = %v", gaps, joins)
			}
			labels = relabelled(labels, join.A, join.B)
			length += join.Height
		}
		if len(joins) != len(gaps)-1 || !joinsRise(joins) || length != impl.TreeLength(gaps) {
			t.Errorf("JoinsOf(%v) = %v, and TreeLength is %d", gaps, joins, impl.TreeLength(gaps))
		}
	})
}

// Promise 70.
func TestSmallStepsAreTheSameByWaysAndByJoins(t *testing.T) {
	eachGaps(func(gaps [][]int) {
		steps := impl.SmallSteps(gaps)
		if other := impl.StepsByJoins(gaps); len(steps) != len(gaps) || !equalRows(steps, other) || !impl.ValidGaps(steps) || !impl.IsTree(steps) {
			t.Fatalf("SmallSteps(%v) = %v, and by joins %v", gaps, steps, other)
		}
		for i, row := range steps {
			if !noneLess(gaps[i], row) {
				t.Errorf("SmallSteps(%v) = %v", gaps, steps)
			}
		}
	})
}

// Promise 71.
func TestStepsByJoinsAreTheGreatestTreeBelow(t *testing.T) {
	eachGaps(func(gaps [][]int) {
		if got := impl.StepsByJoins(gaps); noDetourIsLess(gaps) && !equalRows(got, gaps) {
			t.Errorf("StepsByJoins(%v) = %v", gaps, got)
		}
	})
	for _, size := range []int{3, 4} {
		trees := smallTrees(size)
		for _, distances := range listsOf(size*(size-1)/2, 1, 2, 3) {
			gaps := gapsOf(size, distances...)
			steps := slices.Concat(impl.StepsByJoins(gaps)...)
			for _, tree := range trees {
				if below := slices.Concat(tree...); noneLess(slices.Concat(gaps...), below) && !noneLess(steps, below) {
					t.Errorf("StepsByJoins(%v) = %v, and the tree %v is below the distances, too", gaps, steps, tree)
				}
			}
		}
	}
}

// smallTrees returns all distances of so many things, of at most 3, that are those of a tree.
func smallTrees(size int) [][][]int {
	var trees [][][]int
	for _, distances := range listsOf(size*(size-1)/2, 1, 2, 3) {
		if gaps := gapsOf(size, distances...); noDetourIsLess(gaps) {
			trees = append(trees, gaps)
		}
	}
	return trees
}

func TestIsTreeOfFewThings(t *testing.T) {
	for _, c := range []struct {
		gaps [][]int
		want bool
	}{
		{[][]int{{0}}, true},
		{gapsOf(2, 1), true},
		{gapsOf(2, 40), true},
		{gapsOf(3, 1, 1, 1), true},
		{gapsOf(3, 1, 2, 2), true},
		{gapsOf(3, 2, 1, 2), true},
		{gapsOf(3, 2, 2, 1), true},
		{gapsOf(3, 1, 1, 2), false},
		{gapsOf(3, 1, 2, 1), false},
		{gapsOf(3, 2, 1, 1), false},
		{gapsOf(3, 1, 2, 3), false},
		{gapsOf(3, 39, 40, 40), true},
		{gapsOf(3, 39, 39, 40), false},
		{sameGaps(6, 1), true},
		{sameGaps(6, 40), true},
		{gapsOf(4, 2, 4, 4, 4, 4, 3), true},
		// Only one of four times three things is none.
		{gapsOf(4, 2, 4, 4, 4, 5, 3), false},
		{gapsOf(4, 1, 2, 4, 2, 4, 4), true},
		{gapsOf(4, 1, 2, 4, 2, 4, 5), false},
		{gapsOf(4, 3, 3, 3, 2, 2, 3), false},
		{gapsBy(6, func(_, b int) int { return 5 * b }), true},
		{gapsBy(6, func(_, b int) int { return 30 - 5*b }), false},
		{gapsBy(6, func(a, _ int) int { return 30 - 5*a }), true},
		{gapsBy(6, func(a, b int) int { return b - a }), false},
	} {
		if got := impl.IsTree(c.gaps); got != c.want {
			t.Errorf("IsTree(%v) = %v", c.gaps, got)
		}
	}
}

// Promise 72.
func TestTreesAreTheirOwnSmallSteps(t *testing.T) {
	trees, others := 0, 0
	eachGaps(func(gaps [][]int) {
		got := impl.IsTree(gaps)
		if want := noDetourIsLess(gaps); got != want || got != equalRows(impl.SmallSteps(gaps), gaps) {
			t.Errorf("IsTree(%v) = %v, want %v, and SmallSteps are %v", gaps, got, want, impl.SmallSteps(gaps))
		}
		if got {
			trees++
		} else {
			others++
		}
	})
	if trees == 0 || others == 0 {
		t.Errorf("%d distances of trees, and %d others, were looked at", trees, others)
	}
}

// Promise 73.
func TestTreesAreNoLongerThanStars(t *testing.T) {
	eachGaps(func(gaps [][]int) {
		length := impl.TreeLength(gaps)
		for _, row := range gaps {
			if star := sumOf(row); length < 0 || length > star {
				t.Errorf("TreeLength(%v) = %d, and a star has %d", gaps, length, star)
			}
		}
	})
}

// Promise 74.
func TestFarJoinsRiseUpToTheGreatestDistance(t *testing.T) {
	eachGaps(func(gaps [][]int) {
		joins := impl.FarJoins(gaps)
		if len(joins) != len(gaps)-1 || !joinsRise(joins) {
			t.Fatalf("FarJoins(%v) = %v", gaps, joins)
		}
		groups := reachedAt(gaps, 0)
		for _, join := range joins {
			// Both are the least things of their groups.
			if join.A < 0 || join.A >= join.B || join.B >= len(gaps) || groups[join.A] != join.A || groups[join.B] != join.B {
				t.Fatalf("FarJoins(%v) = %v", gaps, joins)
			}
			groups = relabelled(groups, join.A, join.B)
		}
		if greatest := slices.Max(slices.Concat(gaps...)); len(joins) > 0 && joins[len(joins)-1].Height != greatest {
			t.Errorf("FarJoins(%v) = %v, and the greatest distance is %d", gaps, joins, greatest)
		}
	})
}

func TestCentersOfFewThings(t *testing.T) {
	for _, c := range []struct {
		gaps [][]int
		// For each number of centers, from 1 on, up to all, the set and the sum.
		want [][2]int
	}{
		{[][]int{{0}}, [][2]int{{1, 0}}},
		{gapsOf(2, 1), [][2]int{{1, 1}, {3, 0}}},
		{gapsOf(2, 40), [][2]int{{1, 40}, {3, 0}}},
		// All sets have the same sum, so that the least number is told.
		{gapsOf(3, 5, 5, 5), [][2]int{{1, 10}, {3, 5}, {7, 0}}},
		{sameGaps(6, 40), [][2]int{{1, 200}, {3, 160}, {7, 120}, {15, 80}, {31, 40}, {63, 0}}},
		{sameGaps(6, 1), [][2]int{{1, 5}, {3, 4}, {7, 3}, {15, 2}, {31, 1}, {63, 0}}},
		{gapsOf(3, 5, 2, 2), [][2]int{{4, 4}, {3, 2}, {7, 0}}},
		{gapsOf(3, 2, 5, 2), [][2]int{{2, 4}, {3, 2}, {7, 0}}},
		{gapsOf(3, 7, 9, 3), [][2]int{{2, 10}, {3, 3}, {7, 0}}},
		{gapsOf(3, 3, 9, 7), [][2]int{{2, 10}, {5, 3}, {7, 0}}},
		{gapsBy(4, func(a, b int) int { return 10 * (b - a) }), [][2]int{{2, 40}, {5, 20}, {7, 10}, {15, 0}}},
		{gapsOf(4, 9, 4, 9, 9, 4, 9), [][2]int{{1, 22}, {3, 8}, {7, 4}, {15, 0}}},
		{gapsOf(4, 2, 5, 9, 4, 8, 3), [][2]int{{4, 12}, {5, 5}, {13, 2}, {15, 0}}},
		{gapsOf(5, 8, 8, 8, 8, 3, 8, 3, 8, 8, 8), [][2]int{{2, 22}, {3, 14}, {11, 6}, {15, 3}, {31, 0}}},
		{gapsBy(6, func(a, b int) int { return 1<<b - 1<<a }), [][2]int{{4, 49}, {36, 21}, {50, 9}, {58, 3}, {61, 1}, {63, 0}}},
		// The last thing is near to all, and the others are near to no other one.
		{gapsBy(6, func(_, b int) int { return 12 - 10*(b/5) }), [][2]int{{32, 10}, {33, 8}, {35, 6}, {39, 4}, {31, 2}, {63, 0}}},
	} {
		for i, want := range c.want {
			if set, sum := impl.CentersOf(c.gaps, i+1); [2]int{set, sum} != want {
				t.Errorf("CentersOf(%v, %d) = %d, %d, want %v", c.gaps, i+1, set, sum, want)
			}
		}
	}
}

func TestCentersOfManyThings(t *testing.T) {
	eachGaps(func(gaps [][]int) {
		for k := 1; k <= len(gaps); k++ {
			set, sum := impl.CentersOf(gaps, k)
			if wantSet, wantSum := bestCenters(gaps, k); set != wantSet || sum != wantSum {
				t.Errorf("CentersOf(%v, %d) = %d, %d, want %d, %d", gaps, k, set, sum, wantSet, wantSum)
			}
		}
	})
}

// Promise 75.
func TestMoreCentersAreNearer(t *testing.T) {
	eachGaps(func(gaps [][]int) {
		fewer := math.MaxInt
		for k := 1; k <= len(gaps); k++ {
			_, sum := impl.CentersOf(gaps, k)
			if sum < 0 || sum > fewer {
				t.Errorf("CentersOf(%v, %d) have the sum %d, and one fewer %d", gaps, k, sum, fewer)
			}
			fewer = sum
		}
		if set, sum := impl.CentersOf(gaps, len(gaps)); set != 1<<len(gaps)-1 || sum != 0 {
			t.Errorf("CentersOf(%v, %d) = %d, %d", gaps, len(gaps), set, sum)
		}
	})
}

func TestOtherGapsHaveFixedResults(t *testing.T) {
	for _, gaps := range badGaps() {
		if impl.ValidGaps(gaps) || impl.IsTree(gaps) {
			t.Errorf("ValidGaps(%v) = %v, IsTree = %v", gaps, impl.ValidGaps(gaps), impl.IsTree(gaps))
		}
		if near, far := impl.JoinsOf(gaps), impl.FarJoins(gaps); len(near) != 0 || len(far) != 0 {
			t.Errorf("JoinsOf(%v) = %v, FarJoins = %v", gaps, near, far)
		}
		if steps, other := impl.SmallSteps(gaps), impl.StepsByJoins(gaps); len(steps) != 0 || len(other) != 0 {
			t.Errorf("SmallSteps(%v) = %v, StepsByJoins = %v", gaps, steps, other)
		}
		if got := impl.TreeLength(gaps); got != -1 {
			t.Errorf("TreeLength(%v) = %d", gaps, got)
		}
		for _, h := range append(badReaches(), 0, 1, impl.MaxGap) {
			checkNoGroups(t, gaps, h)
		}
		for _, k := range append(badCenters(len(gaps)), 1, 2, len(gaps)) {
			checkNoCenters(t, gaps, k)
		}
	}
}

func TestOtherReachesAndCentersHaveFixedResults(t *testing.T) {
	eachGaps(func(gaps [][]int) {
		for _, h := range badReaches() {
			checkNoGroups(t, gaps, h)
		}
		for _, k := range badCenters(len(gaps)) {
			checkNoCenters(t, gaps, k)
		}
	})
}

// checkNoGroups checks what is told of distances up to which things are in a group, or of distances, that are not valid.
func checkNoGroups(t *testing.T, gaps [][]int, h int) {
	if got := impl.GroupsAt(gaps, h); len(got) != 0 {
		t.Errorf("GroupsAt(%v, %d) = %v", gaps, h, got)
	}
}

// checkNoCenters checks what is told of numbers of centers, or of distances, that are not valid.
func checkNoCenters(t *testing.T, gaps [][]int, k int) {
	if set, sum := impl.CentersOf(gaps, k); set != -1 || sum != -1 {
		t.Errorf("CentersOf(%v, %d) = %d, %d", gaps, k, set, sum)
	}
}

func TestJoinsLeaveArgumentsAlone(t *testing.T) {
	check := func(gaps [][]int) {
		// Numbers behind the end of each row, and rows behind the last one, show whether spare memory of an argument is used.
		var long [][]int
		for _, row := range gaps {
			long = append(long, append(slices.Clone(row), 27, 28, 29))
		}
		long = append(long, []int{30, 31}, []int{32})
		want := cloneRows(long)
		given := slices.Clone(long)
		for i, row := range gaps {
			given[i] = long[i][:len(row)]
		}
		rows := slices.Clone(given)
		given = given[:len(gaps)]
		impl.ValidGaps(given)
		impl.GroupsAt(given, 2)
		impl.GroupsAt(given, impl.MaxGap)
		impl.JoinsOf(given)
		impl.SmallSteps(given)
		impl.StepsByJoins(given)
		impl.IsTree(given)
		impl.TreeLength(given)
		impl.FarJoins(given)
		impl.CentersOf(given, 1)
		impl.CentersOf(given, len(given))
		if !equalRows(long, want) || !equalRows(given[:len(rows)], rows) {
			t.Errorf("%v became %v, and %v is %v", want, long, rows, given[:len(rows)])
		}
	}
	eachGaps(check)
	for _, gaps := range badGaps() {
		check(gaps)
	}
}

func TestJoinsGiveNewMemory(t *testing.T) {
	eachGaps(func(gaps [][]int) {
		for _, h := range []int{0, 1, 5, impl.MaxGap} {
			checkNewResult(t, "GroupsAt", gaps, func(gaps [][]int) []int { return impl.GroupsAt(gaps, h) }, -9999)
		}
		other := impl.Join{A: -9999, B: -9999, Height: -9999}
		checkNewResult(t, "JoinsOf", gaps, impl.JoinsOf, other)
		checkNewResult(t, "FarJoins", gaps, impl.FarJoins, other)
		checkNewRows(t, "SmallSteps", gaps, impl.SmallSteps)
		checkNewRows(t, "StepsByJoins", gaps, impl.StepsByJoins)
	})
}

// checkNewResult checks that a result is memory of its own, of no other result, and of no row of the argument.
func checkNewResult[T comparable](t *testing.T, name string, gaps [][]int, resultOf func(gaps [][]int) []T, other T) {
	given := cloneRows(gaps)
	first := resultOf(given)
	kept := slices.Clone(first)
	overwriteBy(resultOf(given), other)
	again := resultOf(given)
	if !equalRows(given, gaps) {
		t.Errorf("%s of %v shares memory with it: %v", name, gaps, given)
	}
	for _, row := range given {
		overwrite(row)
	}
	if !slices.Equal(first, kept) || !slices.Equal(again, kept) {
		t.Errorf("%s of %v became %v, and again %v, of %v", name, gaps, first, again, kept)
	}
}

// checkNewRows checks that all rows of a result are memory of their own, of no other row, and of no argument.
func checkNewRows(t *testing.T, name string, gaps [][]int, rowsOf func(gaps [][]int) [][]int) {
	given := cloneRows(gaps)
	kept := cloneRows(rowsOf(given))
	for changed := range kept {
		rows := rowsOf(given)
		overwrite(rows[changed])
		for i, row := range rows {
			if i != changed && !slices.Equal(row, kept[i]) {
				t.Errorf("%s of %v: row %d shares memory with row %d", name, gaps, i, changed)
			}
		}
		if !equalRows(given, gaps) {
			t.Fatalf("%s of %v shares memory with it: %v", name, gaps, given)
		}
	}
	first := rowsOf(given)
	overwriteBy(rowsOf(given), []int{-9999})
	for _, row := range given {
		overwrite(row)
	}
	overwriteBy(given, nil)
	if !equalRows(first, kept) {
		t.Errorf("%s of %v became %v, of %v", name, gaps, first, kept)
	}
}
