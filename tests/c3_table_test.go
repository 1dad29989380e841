package tests

import (
	"math/bits"
	"slices"
	"testing"

	"loop.example/countedchances/impl"
)

func TestFourWaysCountsChoices(t *testing.T) {
	for _, c := range []struct {
		table     impl.Four
		ways, all int
	}{
		{impl.Four{}, 1, 1},
		{impl.Four{A: 1}, 1, 1},
		{impl.Four{D: 8}, 1, 1},
		{impl.Four{A: 3, B: 1, C: 1, D: 3}, 16, 70},
		{impl.Four{A: 2, D: 1}, 1, 3},
		{impl.Four{B: 3, C: 2}, 1, 10},
		{impl.Four{A: 3, B: 2}, 10, 10},
		{impl.Four{C: 3, D: 2}, 10, 10},
		{impl.Four{A: 3, C: 2}, 1, 1},
		{impl.Four{B: 3, D: 2}, 1, 1},
		{impl.Four{A: 8, D: 8}, 1, 12870},
		{impl.Four{A: 8, B: 8}, 12870, 12870},
		{impl.Four{A: 8, C: 8}, 1, 1},
		{impl.Four{A: 1, B: 2, C: 3, D: 4}, 105, 210},
		{impl.Four{A: 8, B: 8, C: 8, D: 8}, 12870 * 12870, 601080390},
	} {
		if ways, all := impl.FourWays(c.table); ways != c.ways || all != c.all {
			t.Errorf("FourWays(%v) = %d, %d, want %d, %d", c.table, ways, all, c.ways, c.all)
		}
	}
}

func TestFourWaysOfAllSets(t *testing.T) {
	eachFour(3, func(f impl.Four) {
		row := f.A + f.B
		ways, all := 0, 0
		for set := range uint(1) << (row + f.C + f.D) {
			above, below := bits.OnesCount(set&(1<<row-1)), bits.OnesCount(set>>row)
			if above == f.A && below == f.C {
				ways++
			}
			if above+below == f.A+f.C {
				all++
			}
		}
		if got, got2 := impl.FourWays(f); got != ways || got2 != all {
			t.Errorf("FourWays(%v) = %d, %d, want %d, %d", f, got, got2, ways, all)
		}
	})
}

// Promise 16.
func TestWaysAreTheSameByRowsAndByColumns(t *testing.T) {
	eachFour(impl.MaxCell, func(f impl.Four) {
		turned := impl.Four{A: f.A, B: f.C, C: f.B, D: f.D}
		ways, all := impl.FourWays(f)
		ways2, all2 := impl.FourWays(turned)
		if ways < 1 || ways > all || ways*all2 != ways2*all {
			t.Errorf("FourWays(%v) = %d, %d, with rows as columns %d, %d", f, ways, all, ways2, all2)
		}
	})
}

func TestFoursLikeOfFewTables(t *testing.T) {
	for _, c := range []struct {
		table impl.Four
		want  []int
	}{
		{impl.Four{}, []int{0}},
		{impl.Four{A: 8}, []int{8}},
		{impl.Four{D: 8}, []int{0}},
		{impl.Four{A: 3, B: 1, C: 1, D: 3}, []int{0, 1, 2, 3, 4}},
		{impl.Four{A: 2, D: 1}, []int{1, 2}},
		{impl.Four{A: 1, D: 2}, []int{0, 1}},
		{impl.Four{B: 2, C: 5}, []int{0, 1, 2}},
		{impl.Four{A: 4, B: 7}, []int{4}},
		{impl.Four{C: 4, D: 7}, []int{0}},
		{impl.Four{A: 4, C: 7}, []int{4}},
		{impl.Four{B: 4, D: 7}, []int{0}},
		{impl.Four{A: 8, B: 8, C: 8}, []int{8, 9, 10, 11, 12, 13, 14, 15, 16}},
		{impl.Four{A: 8, B: 8, C: 8, D: 8}, []int{0, 1, 2, 3, 4, 5, 6, 7, 8, 9, 10, 11, 12, 13, 14, 15, 16}},
	} {
		if got := impl.FoursLike(c.table); !slices.Equal(got, c.want) {
			t.Errorf("FoursLike(%v) = %v, want %v", c.table, got, c.want)
		}
	}
}

func TestFoursLikeHaveTheSameSums(t *testing.T) {
	eachFour(impl.MaxCell, func(f impl.Four) {
		var want []int
		for _, other := range foursWithSums(f) {
			want = append(want, other.A)
		}
		if got := impl.FoursLike(f); !slices.Equal(got, want) {
			t.Errorf("FoursLike(%v) = %v, want %v", f, got, want)
		}
	})
}

// Promise 17.
func TestTablesWithTheSameSumsAreARow(t *testing.T) {
	eachFour(impl.MaxCell, func(f impl.Four) {
		firsts := impl.FoursLike(f)
		if !slices.Contains(firsts, f.A) {
			t.Fatalf("FoursLike(%v) = %v", f, firsts)
		}
		for i, first := range firsts {
			if first != firsts[0]+i {
				t.Errorf("FoursLike(%v) = %v", f, firsts)
			}
		}
	})
}

func TestFourChanceAndFourBothOfFewTables(t *testing.T) {
	for _, c := range []struct {
		table             impl.Four
		chance, both, all int
	}{
		{impl.Four{}, 1, 1, 1},
		{impl.Four{B: 8}, 1, 1, 1},
		{impl.Four{A: 5, B: 3}, 56, 56, 56},
		{impl.Four{B: 5, D: 3}, 1, 1, 1},
		{impl.Four{A: 3, B: 1, C: 1, D: 3}, 17, 34, 70},
		{impl.Four{A: 4, D: 4}, 1, 2, 70},
		{impl.Four{B: 4, C: 4}, 70, 2, 70},
		{impl.Four{A: 2, B: 2, C: 2, D: 2}, 53, 70, 70},
		{impl.Four{A: 2, D: 1}, 1, 1, 3},
		{impl.Four{A: 1, B: 1, C: 1}, 3, 3, 3},
		{impl.Four{A: 8, D: 8}, 1, 2, 12870},
		{impl.Four{B: 8, C: 8}, 12870, 2, 12870},
		{impl.Four{A: 8, B: 8, C: 8, D: 8}, (601080390 + 12870*12870) / 2, 601080390, 601080390},
	} {
		if some, all := impl.FourChance(c.table); some != c.chance || all != c.all {
			t.Errorf("FourChance(%v) = %d, %d, want %d, %d", c.table, some, all, c.chance, c.all)
		}
		if some, all := impl.FourBoth(c.table); some != c.both || all != c.all {
			t.Errorf("FourBoth(%v) = %d, %d, want %d, %d", c.table, some, all, c.both, c.all)
		}
	}
}

func TestFourChanceAndFourBothOfAllTables(t *testing.T) {
	eachFour(impl.MaxCell, func(f impl.Four) {
		chance, both, all := 0, 0, 0
		for _, other := range foursWithSums(f) {
			ways := waysOfFour(other)
			if other.A >= f.A {
				chance += ways
			}
			if ways <= waysOfFour(f) {
				both += ways
			}
			all += ways
		}
		if got, got2 := impl.FourChance(f); got != chance || got2 != all {
			t.Errorf("FourChance(%v) = %d, %d, want %d, %d", f, got, got2, chance, all)
		}
		if got, got2 := impl.FourBoth(f); got != both || got2 != all {
			t.Errorf("FourBoth(%v) = %d, %d, want %d, %d", f, got, got2, both, all)
		}
	})
}

// Promise 18.
func TestTablesWithTheSameSumsAreAllWays(t *testing.T) {
	eachFour(impl.MaxCell, func(f impl.Four) {
		_, ofWays := impl.FourWays(f)
		some, all := impl.FourChance(f)
		if all != ofWays || some < 1 || some > all {
			t.Errorf("FourChance(%v) = %d, %d, want %d", f, some, all, ofWays)
		}
		if firsts := impl.FoursLike(f); f.A == firsts[0] && some != all {
			t.Errorf("FourChance(%v) = %d, %d with the least first number", f, some, all)
		}
	})
}

// Promise 19.
func TestWhatIsAsOddIsAtLeastItself(t *testing.T) {
	eachFour(impl.MaxCell, func(f impl.Four) {
		ways, ofWays := impl.FourWays(f)
		some, all := impl.FourBoth(f)
		if some < ways || some > all || all != ofWays {
			t.Errorf("FourBoth(%v) = %d, %d, of the ways %d, %d", f, some, all, ways, ofWays)
		}
		if x, y := impl.FourBoth(impl.Four{A: f.C, B: f.D, C: f.A, D: f.B}); x != some || y != all {
			t.Errorf("FourBoth(%v) = %d, %d, with rows exchanged %d, %d", f, some, all, x, y)
		}
	})
}

func TestTablesWithFewSums(t *testing.T) {
	for _, c := range []struct {
		rows, cols   []int
		tables, ways int
	}{
		{[]int{0}, []int{0}, 1, 1},
		{[]int{0, 0}, []int{0}, 1, 1},
		{[]int{0}, []int{0, 0, 0}, 1, 1},
		{[]int{0, 0, 0}, []int{0, 0, 0}, 1, 1},
		{[]int{6}, []int{6}, 1, 1},
		{[]int{2}, []int{1, 1}, 1, 2},
		{[]int{1, 1}, []int{2}, 1, 1},
		{[]int{6}, []int{1, 2, 3}, 1, 60},
		{[]int{6}, []int{2, 2, 2}, 1, 90},
		{[]int{1, 2, 3}, []int{6}, 1, 1},
		{[]int{6}, []int{0, 6, 0}, 1, 1},
		{[]int{6}, []int{0, 3, 3}, 1, 20},
		{[]int{0, 6, 0}, []int{6}, 1, 1},
		{[]int{0, 6, 0}, []int{2, 4}, 1, 15},
		{[]int{1, 1}, []int{1, 1}, 2, 2},
		{[]int{2, 1}, []int{1, 2}, 2, 3},
		{[]int{1, 1, 1}, []int{1, 1, 1}, 6, 6},
		{[]int{2, 2, 2}, []int{2, 2, 2}, 21, 90},
		{[]int{0, 1, 1}, []int{1, 0, 1}, 2, 2},
		{[]int{6, 6}, []int{6, 6}, 7, 924},
		{[]int{6, 6}, []int{4, 4, 4}, 19, 34650},
		{[]int{4, 4, 4}, []int{6, 6}, 19, 924},
		{[]int{6, 6, 6}, []int{6, 6, 6}, 406, 17153136},
		{[]int{6, 0, 6}, []int{0, 6, 6}, 7, 924},
	} {
		if tables, ways := impl.TablesWith(c.rows, c.cols); tables != c.tables || ways != c.ways {
			t.Errorf("TablesWith(%v, %v) = %d, %d, want %d, %d", c.rows, c.cols, tables, ways, c.tables, c.ways)
		}
	}
}

func TestTablesWithThingsGivenOut(t *testing.T) {
	eachSums(func(rows, cols []int) {
		if sumOf(rows) > 6 {
			return
		}
		tables, ways := giveOut(rows, cols)
		if got, got2 := impl.TablesWith(rows, cols); got != tables || got2 != ways {
			t.Errorf("TablesWith(%v, %v) = %d, %d, want %d, %d", rows, cols, got, got2, tables, ways)
		}
	})
}

func TestTablesWithAllSums(t *testing.T) {
	for _, rows := range validLines() {
		for size := 1; size <= impl.MaxLines; size++ {
			tally := tallyTables(rows, size)
			for _, cols := range validLines() {
				if len(cols) != size || sumOf(cols) != sumOf(rows) {
					continue
				}
				want := tally[[impl.MaxLines]int(append(slices.Clone(cols), 0, 0, 0))]
				if tables, ways := impl.TablesWith(rows, cols); tables != want[0] || ways != want[1] {
					t.Errorf("TablesWith(%v, %v) = %d, %d, want %v", rows, cols, tables, ways, want)
				}
			}
		}
	}
}

// Promise 20.
func TestWaysOfAllTablesAreAllWays(t *testing.T) {
	eachSums(func(rows, cols []int) {
		tables, ways := impl.TablesWith(rows, cols)
		turned, _ := impl.TablesWith(cols, rows)
		inColumns := 1
		for _, things := range cols {
			inColumns *= ordersOf(things)
		}
		if tables < 1 || turned != tables || ways*inColumns != ordersOf(sumOf(cols)) {
			t.Errorf("TablesWith(%v, %v) = %d, %d, with rows as columns %d", rows, cols, tables, ways, turned)
		}
	})
}

func TestChangeChanceOfFewChanges(t *testing.T) {
	for _, c := range []struct{ b, c, uneven, all int }{
		{0, 0, 1, 1},
		{0, 1, 2, 2},
		{1, 0, 2, 2},
		{1, 1, 4, 4},
		{3, 0, 2, 8},
		{0, 3, 2, 8},
		{2, 1, 8, 8},
		{4, 0, 2, 16},
		{3, 1, 10, 16},
		{1, 8, 20, 512},
		{8, 0, 2, 256},
		{0, 8, 2, 256},
		{7, 8, 32768, 32768},
		{8, 6, 12952, 16384},
		{8, 8, 65536, 65536},
	} {
		if uneven, all := impl.ChangeChance(c.b, c.c); uneven != c.uneven || all != c.all {
			t.Errorf("ChangeChance(%d, %d) = %d, %d, want %d, %d", c.b, c.c, uneven, all, c.uneven, c.all)
		}
	}
}

func TestChangeChanceOfAllChoices(t *testing.T) {
	for b := range impl.MaxCell + 1 {
		for c := range impl.MaxCell + 1 {
			want := 0
			for sides := range uint(1) << (b + c) {
				one := bits.OnesCount(sides)
				if one >= max(b, c) || b+c-one >= max(b, c) {
					want++
				}
			}
			if uneven, all := impl.ChangeChance(b, c); uneven != want || all != 1<<(b+c) {
				t.Errorf("ChangeChance(%d, %d) = %d, %d, want %d, %d", b, c, uneven, all, want, 1<<(b+c))
			}
		}
	}
}

// Promise 21.
func TestEvenChangesAreNoWonder(t *testing.T) {
	for b := range impl.MaxCell + 1 {
		for c := range impl.MaxCell + 1 {
			uneven, all := impl.ChangeChance(b, c)
			if x, y := impl.ChangeChance(c, b); x != uneven || y != all {
				t.Errorf("ChangeChance(%d, %d) = %d, %d, the other way %d, %d", b, c, uneven, all, x, y)
			}
			even := max(b-c, c-b) <= 1
			if all != 1<<(b+c) || uneven < 1 || uneven > all || even && uneven != all {
				t.Errorf("ChangeChance(%d, %d) = %d, %d", b, c, uneven, all)
			}
		}
	}
}

func TestOtherTablesOfFourHaveFixedResults(t *testing.T) {
	for _, f := range badFours() {
		if ways, all := impl.FourWays(f); ways != -1 || all != -1 {
			t.Errorf("FourWays(%v) = %d, %d", f, ways, all)
		}
		if firsts := impl.FoursLike(f); len(firsts) != 0 {
			t.Errorf("FoursLike(%v) = %v", f, firsts)
		}
		if some, all := impl.FourChance(f); some != -1 || all != -1 {
			t.Errorf("FourChance(%v) = %d, %d", f, some, all)
		}
		if some, all := impl.FourBoth(f); some != -1 || all != -1 {
			t.Errorf("FourBoth(%v) = %d, %d", f, some, all)
		}
	}
}

func TestTablesWithOtherSumsHaveFixedResults(t *testing.T) {
	for _, p := range badSums() {
		if tables, ways := impl.TablesWith(p[0], p[1]); tables != -1 || ways != -1 {
			t.Errorf("TablesWith(%v, %v) = %d, %d", p[0], p[1], tables, ways)
		}
	}
	for _, rows := range validLines() {
		for _, cols := range validLines() {
			if tables, ways := impl.TablesWith(rows, cols); sumOf(rows) != sumOf(cols) && (tables != -1 || ways != -1) {
				t.Errorf("TablesWith(%v, %v) = %d, %d", rows, cols, tables, ways)
			}
		}
	}
}

func TestChangeChanceOfOtherNumbersHasAFixedResult(t *testing.T) {
	for _, bad := range badCells() {
		for _, other := range append(badCells(), 0, 1, 3, impl.MaxCell) {
			for _, p := range [][2]int{{bad, other}, {other, bad}} {
				if uneven, all := impl.ChangeChance(p[0], p[1]); uneven != -1 || all != -1 {
					t.Errorf("ChangeChance(%d, %d) = %d, %d", p[0], p[1], uneven, all)
				}
			}
		}
	}
}

func TestTablesLeaveArgumentsAlone(t *testing.T) {
	check := func(rows, cols []int) {
		// Numbers behind the end show whether spare memory of an argument is used.
		longRows, longCols := append(slices.Clone(rows), 77, 78, 79), append(slices.Clone(cols), 87, 88, 89)
		wantRows, wantCols := slices.Clone(longRows), slices.Clone(longCols)
		impl.TablesWith(longRows[:len(rows)], longCols[:len(cols)])
		if !slices.Equal(longRows, wantRows) || !slices.Equal(longCols, wantCols) {
			t.Errorf("%v and %v became %v and %v", wantRows, wantCols, longRows, longCols)
		}
	}
	eachSums(check)
	for _, p := range badSums() {
		check(p[0], p[1])
	}
	shared := []int{1, 2, 3}
	if tables, ways := impl.TablesWith(shared, shared); tables != 12 || ways != 60 || !slices.Equal(shared, []int{1, 2, 3}) {
		t.Errorf("TablesWith of the same list = %d, %d, and the list became %v", tables, ways, shared)
	}
}

func TestFoursLikeGivesNewMemory(t *testing.T) {
	eachFour(impl.MaxCell, func(f impl.Four) {
		want := impl.FoursLike(f)
		kept := slices.Clone(want)
		overwrite(impl.FoursLike(f))
		if again := impl.FoursLike(f); !slices.Equal(want, kept) || !slices.Equal(again, kept) {
			t.Errorf("FoursLike(%v) became %v, and again %v, of %v", f, want, again, kept)
		}
	})
}
