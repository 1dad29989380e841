package tests

import (
	"slices"
	"testing"

	"loop.example/countedchances/impl"
)

func TestValidOdds(t *testing.T) {
	for _, list := range oddsLists() {
		if !impl.ValidOdds(list) {
			t.Errorf("ValidOdds(%v) = false", list)
		}
	}
	for size := 1; size <= impl.MaxTests; size++ {
		for _, x := range []int{0, 1, 999, 1000} {
			if !impl.ValidOdds(slices.Repeat([]int{x}, size)) {
				t.Errorf("ValidOdds of %d times %d = false", size, x)
			}
		}
	}
	for _, list := range badOdds() {
		if impl.ValidOdds(list) {
			t.Errorf("ValidOdds(%v) = true", list)
		}
	}
}

// Promise 27.
func TestOddsCanBeLeftOut(t *testing.T) {
	for _, list := range oddsLists() {
		for size := len(list); size > 0; size-- {
			if !impl.ValidOdds(list[:size]) {
				t.Errorf("ValidOdds(%v) = false", list[:size])
			}
		}
		if impl.ValidOdds(list[:0]) {
			t.Errorf("ValidOdds of none of %v = true", list)
		}
	}
}

func TestOddsOfFewTestsSetRight(t *testing.T) {
	for _, c := range []struct{ list, times, down, up, share []int }{
		{[]int{0}, []int{0}, []int{0}, []int{0}, []int{0}},
		{[]int{500}, []int{500}, []int{500}, []int{500}, []int{500}},
		{[]int{1000}, []int{1000}, []int{1000}, []int{1000}, []int{1000}},
		{[]int{10, 40, 30}, []int{30, 120, 90}, []int{30, 60, 60}, []int{30, 40, 40}, []int{30, 40, 40}},
		{[]int{5, 9, 1}, []int{15, 27, 3}, []int{10, 10, 3}, []int{9, 9, 3}, []int{8, 9, 3}},
		{[]int{1, 4}, []int{2, 8}, []int{2, 4}, []int{2, 4}, []int{2, 4}},
		{[]int{4, 3}, []int{8, 6}, []int{6, 6}, []int{4, 4}, []int{4, 4}},
		{[]int{0, 0}, []int{0, 0}, []int{0, 0}, []int{0, 0}, []int{0, 0}},
		{[]int{1, 1}, []int{2, 2}, []int{2, 2}, []int{1, 1}, []int{1, 1}},
		{[]int{600, 600}, []int{1000, 1000}, []int{1000, 1000}, []int{600, 600}, []int{600, 600}},
		{[]int{1000, 0}, []int{1000, 0}, []int{1000, 0}, []int{1000, 0}, []int{1000, 0}},
		{[]int{500, 1000}, []int{1000, 1000}, []int{1000, 1000}, []int{1000, 1000}, []int{1000, 1000}},
		{[]int{501, 999}, []int{1000, 1000}, []int{1000, 1000}, []int{999, 999}, []int{999, 999}},
		{[]int{20, 30, 20}, []int{60, 90, 60}, []int{60, 60, 60}, []int{30, 30, 30}, []int{30, 30, 30}},
		{[]int{10, 14, 30}, []int{30, 42, 90}, []int{30, 30, 30}, []int{28, 28, 30}, []int{21, 21, 30}},
		{[]int{1, 2, 3, 4, 5, 6}, []int{6, 12, 18, 24, 30, 36}, []int{6, 10, 12, 12, 12, 12}, []int{6, 6, 6, 6, 6, 6}, []int{6, 6, 6, 6, 6, 6}},
		{[]int{10, 0, 1000, 0, 200, 30}, []int{60, 0, 1000, 0, 1000, 180}, []int{40, 0, 1000, 0, 400, 90}, []int{40, 0, 1000, 0, 400, 90}, []int{20, 0, 1000, 0, 240, 45}},
		{[]int{1, 7, 1, 1, 1, 1}, []int{6, 42, 6, 6, 6, 6}, []int{6, 7, 6, 6, 6, 6}, []int{2, 7, 2, 2, 2, 2}, []int{2, 7, 2, 2, 2, 2}},
		{[]int{166, 166, 166, 166, 166, 166}, []int{996, 996, 996, 996, 996, 996}, []int{996, 996, 996, 996, 996, 996}, []int{166, 166, 166, 166, 166, 166}, []int{166, 166, 166, 166, 166, 166}},
		{[]int{167, 167, 167, 167, 167, 167}, []int{1000, 1000, 1000, 1000, 1000, 1000}, []int{1000, 1000, 1000, 1000, 1000, 1000}, []int{167, 167, 167, 167, 167, 167}, []int{167, 167, 167, 167, 167, 167}},
		{[]int{1000, 1000, 1000, 1000, 1000, 1000}, []int{1000, 1000, 1000, 1000, 1000, 1000}, []int{1000, 1000, 1000, 1000, 1000, 1000}, []int{1000, 1000, 1000, 1000, 1000, 1000}, []int{1000, 1000, 1000, 1000, 1000, 1000}},
	} {
		if got := impl.TimesAll(c.list); !slices.Equal(got, c.times) {
			t.Errorf("TimesAll(%v) = %v, want %v", c.list, got, c.times)
		}
		if got := impl.StepDown(c.list); !slices.Equal(got, c.down) {
			t.Errorf("StepDown(%v) = %v, want %v", c.list, got, c.down)
		}
		if got := impl.StepUp(c.list); !slices.Equal(got, c.up) {
			t.Errorf("StepUp(%v) = %v, want %v", c.list, got, c.up)
		}
		if got := impl.FalseShare(c.list); !slices.Equal(got, c.share) {
			t.Errorf("FalseShare(%v) = %v, want %v", c.list, got, c.share)
		}
	}
}

func TestOddsOfManyListsSetRight(t *testing.T) {
	for _, list := range oddsLists() {
		n := len(list)
		times, down, up, share := make([]int, n), make([]int, n), make([]int, n), make([]int, n)
		for i, x := range list {
			times[i], up[i], share[i] = min(x*n, impl.Full), impl.Full, impl.Full
			for k, y := range list {
				ahead := aheadOf(list, k)
				if !isAhead(list, i, k) {
					down[i] = min(max(down[i], y*(n-ahead)), impl.Full)
				}
				if !isAhead(list, k, i) {
					up[i] = min(up[i], y*(n-ahead))
					// One less as long as it is still no less than the quotient, which rounds it up.
					for (share[i]-1)*(ahead+1) >= y*n {
						share[i]--
					}
				}
			}
		}
		got := [][]int{impl.TimesAll(list), impl.StepDown(list), impl.StepUp(list), impl.FalseShare(list)}
		for kind, want := range [][]int{times, down, up, share} {
			if !slices.Equal(got[kind], want) {
				t.Errorf("the odds %v are set right by way %d as %v, want %v", list, kind, got[kind], want)
			}
		}
	}
}

// Promise 28.
func TestTimesAllIsTheMost(t *testing.T) {
	for _, list := range oddsLists() {
		times, down, up, share := impl.TimesAll(list), impl.StepDown(list), impl.StepUp(list), impl.FalseShare(list)
		if !noneLess(times, down) || !noneLess(down, up) || !noneLess(up, share) || !noneLess(share, list) {
			t.Errorf("the odds %v are set right as %v, %v, %v and %v", list, times, down, up, share)
		}
		if len(times) != len(list) || slices.Max(times) > impl.Full {
			t.Errorf("TimesAll(%v) = %v", list, times)
		}
	}
}

// Promise 29.
func TestStepsDownAreClosed(t *testing.T) {
	for _, list := range oddsLists() {
		down := impl.StepDown(list)
		for _, level := range levelsFor(list, down) {
			found, closed := impl.FoundAt(down, level), impl.ClosedBy(list, level, "least")
			if level < impl.Full && !slices.Equal(found, closed) {
				t.Errorf("at the level %d of %v, steps down find %v, and closed are %v", level, list, found, closed)
			}
			if slices.Contains(down, level) && level < impl.Full && len(closed) == 0 {
				t.Errorf("ClosedBy(%v, %d, least) is none, with steps down %v", list, level, down)
			}
		}
	}
}

// Promise 30.
func TestStepsUpAreWithinWhatIsClosed(t *testing.T) {
	for _, list := range oddsLists() {
		up := impl.StepUp(list)
		for _, level := range levelsFor(list, up) {
			found, closed := impl.FoundAt(up, level), impl.ClosedBy(list, level, "each")
			if level < impl.Full && !within(found, closed) {
				t.Errorf("at the level %d of %v, steps up find %v, and closed are %v", level, list, found, closed)
			}
			if slices.Contains(up, level) && len(found) == 0 {
				t.Errorf("FoundAt(%v, %d) is none", up, level)
			}
		}
	}
}

// Promise 31.
func TestSharesRiseWithTheOdds(t *testing.T) {
	for _, list := range oddsLists() {
		share := impl.FalseShare(list)
		if len(share) != len(list) {
			t.Fatalf("FalseShare(%v) = %v", list, share)
		}
		for i, x := range list {
			for k, y := range list {
				if x <= y && share[i] > share[k] {
					t.Errorf("FalseShare(%v) = %v falls", list, share)
				}
			}
			if x == slices.Max(list) && share[i] != x {
				t.Errorf("FalseShare(%v) = %v, and the greatest one does not stay", list, share)
			}
		}
	}
}

func TestClosedByOfFewTests(t *testing.T) {
	for _, c := range []struct {
		list        []int
		level       int
		least, each []int
	}{
		{[]int{0}, 0, []int{0}, []int{0}},
		{[]int{1}, 0, nil, nil},
		{[]int{5}, 4, nil, nil},
		{[]int{5}, 5, []int{0}, []int{0}},
		{[]int{1000}, 999, nil, nil},
		{[]int{1000}, 1000, []int{0}, []int{0}},
		{[]int{10, 40, 30}, 29, nil, nil},
		{[]int{10, 40, 30}, 30, []int{0}, []int{0}},
		{[]int{10, 40, 30}, 39, []int{0}, []int{0}},
		{[]int{10, 40, 30}, 40, []int{0}, []int{0, 1, 2}},
		{[]int{10, 40, 30}, 59, []int{0}, []int{0, 1, 2}},
		{[]int{10, 40, 30}, 60, []int{0, 1, 2}, []int{0, 1, 2}},
		{[]int{10, 14, 30}, 20, nil, nil},
		{[]int{10, 14, 30}, 21, nil, []int{0}},
		{[]int{10, 14, 30}, 27, nil, []int{0}},
		{[]int{10, 14, 30}, 28, nil, []int{0, 1}},
		{[]int{10, 14, 30}, 29, nil, []int{0, 1}},
		{[]int{10, 14, 30}, 30, []int{0, 1, 2}, []int{0, 1, 2}},
		{[]int{0, 5, 0}, 0, []int{0, 2}, []int{0, 2}},
		{[]int{0, 1000, 0}, 999, []int{0, 2}, []int{0, 2}},
		{[]int{0, 1000, 0}, 1000, []int{0, 1, 2}, []int{0, 1, 2}},
		{[]int{600, 600}, 599, nil, nil},
		{[]int{600, 600}, 600, nil, []int{0, 1}},
		{[]int{600, 600}, 1000, nil, []int{0, 1}},
		{[]int{500, 500}, 999, nil, []int{0, 1}},
		{[]int{500, 500}, 1000, []int{0, 1}, []int{0, 1}},
		{[]int{0, 0, 0, 0, 0, 0}, 0, []int{0, 1, 2, 3, 4, 5}, []int{0, 1, 2, 3, 4, 5}},
		{[]int{6, 5, 4, 3, 2, 1}, 5, nil, nil},
		{[]int{6, 5, 4, 3, 2, 1}, 6, []int{5}, []int{0, 1, 2, 3, 4, 5}},
		{[]int{6, 5, 4, 3, 2, 1}, 10, []int{4, 5}, []int{0, 1, 2, 3, 4, 5}},
		{[]int{6, 5, 4, 3, 2, 1}, 12, []int{0, 1, 2, 3, 4, 5}, []int{0, 1, 2, 3, 4, 5}},
		{[]int{1000, 1000, 1000, 1000, 1000, 1000}, 999, nil, nil},
		{[]int{1000, 1000, 1000, 1000, 1000, 1000}, 1000, nil, []int{0, 1, 2, 3, 4, 5}},
	} {
		if got := impl.ClosedBy(c.list, c.level, "least"); !slices.Equal(got, c.least) {
			t.Errorf("ClosedBy(%v, %d, least) = %v, want %v", c.list, c.level, got, c.least)
		}
		if got := impl.ClosedBy(c.list, c.level, "each"); !slices.Equal(got, c.each) {
			t.Errorf("ClosedBy(%v, %d, each) = %v, want %v", c.list, c.level, got, c.each)
		}
	}
}

func TestClosedByTriesAllSets(t *testing.T) {
	for i, list := range oddsLists() {
		levels := levelsFor(list, impl.FalseShare(list), impl.StepDown(list))
		if len(list) > 3 && i%4 > 0 {
			// Long lists are many, and each has many sets.
			levels = []int{slices.Max(list), slices.Min(impl.StepUp(list))}
		}
		for _, level := range levels {
			for _, kind := range []string{"least", "each"} {
				want := closedOf(list, level, kind)
				if got := impl.ClosedBy(list, level, kind); !slices.Equal(got, want) {
					t.Errorf("ClosedBy(%v, %d, %s) = %v, want %v", list, level, kind, got, want)
				}
			}
		}
	}
}

func TestClosedByAtAllLevels(t *testing.T) {
	for _, list := range [][]int{{10, 14, 30}, {100, 180, 200, 280}, {334, 0, 334}, {70, 300, 5, 81, 20, 11}} {
		for level := range impl.Full + 1 {
			for _, kind := range []string{"least", "each"} {
				want := closedOf(list, level, kind)
				if got := impl.ClosedBy(list, level, kind); !slices.Equal(got, want) {
					t.Errorf("ClosedBy(%v, %d, %s) = %v, want %v", list, level, kind, got, want)
				}
			}
		}
	}
}

// Promise 32.
func TestWhatIsClosedByTheLeastIsClosedByEach(t *testing.T) {
	for _, list := range oddsLists() {
		var least, each []int
		for _, level := range levelsFor(list, impl.StepDown(list)) {
			found := impl.FoundAt(list, level)
			nextLeast, nextEach := impl.ClosedBy(list, level, "least"), impl.ClosedBy(list, level, "each")
			if !within(nextLeast, nextEach) || !within(nextEach, found) {
				t.Errorf("of %v, closed at the level %d are %v by the least, and %v by each", list, level, nextLeast, nextEach)
			}
			if !within(least, nextLeast) || !within(each, nextEach) {
				t.Errorf("of %v, fewer are closed at the level %d: %v of %v, and %v of %v", list, level, nextLeast, least, nextEach, each)
			}
			least, each = nextLeast, nextEach
		}
		if len(each) != len(list) {
			t.Errorf("ClosedBy(%v, %d, each) = %v", list, impl.Full, each)
		}
		if slices.Max(list)*len(list) <= impl.Full && len(least) != len(list) {
			t.Errorf("ClosedBy(%v, %d, least) = %v", list, impl.Full, least)
		}
	}
}

func TestFoundAtOfFewTests(t *testing.T) {
	for _, c := range []struct {
		list  []int
		level int
		want  []int
	}{
		{[]int{0}, 0, []int{0}},
		{[]int{1}, 0, nil},
		{[]int{1}, 1, []int{0}},
		{[]int{1000}, 999, nil},
		{[]int{1000}, 1000, []int{0}},
		{[]int{10, 40, 30}, 9, nil},
		{[]int{10, 40, 30}, 10, []int{0}},
		{[]int{10, 40, 30}, 30, []int{0, 2}},
		{[]int{10, 40, 30}, 39, []int{0, 2}},
		{[]int{10, 40, 30}, 40, []int{0, 1, 2}},
		{[]int{7, 7}, 6, nil},
		{[]int{7, 7}, 7, []int{0, 1}},
		{[]int{1000, 0, 5, 0, 5, 1000}, 0, []int{1, 3}},
		{[]int{1000, 0, 5, 0, 5, 1000}, 999, []int{1, 2, 3, 4}},
		{[]int{1000, 0, 5, 0, 5, 1000}, 1000, []int{0, 1, 2, 3, 4, 5}},
	} {
		if got := impl.FoundAt(c.list, c.level); !slices.Equal(got, c.want) {
			t.Errorf("FoundAt(%v, %d) = %v, want %v", c.list, c.level, got, c.want)
		}
	}
}

// Promise 33.
func TestFoundAreThoseAtMostTheLevel(t *testing.T) {
	for _, list := range oddsLists() {
		for _, level := range levelsFor(list) {
			found := impl.FoundAt(list, level)
			if !slices.IsSorted(found) || len(slices.Compact(slices.Clone(found))) != len(found) {
				t.Errorf("FoundAt(%v, %d) = %v", list, level, found)
			}
			for i, x := range list {
				if slices.Contains(found, i) != (x <= level) {
					t.Errorf("FoundAt(%v, %d) = %v", list, level, found)
				}
			}
			if !within(found, []int{0, 1, 2, 3, 4, 5}[:len(list)]) {
				t.Errorf("FoundAt(%v, %d) = %v", list, level, found)
			}
		}
		if all := impl.FoundAt(list, impl.Full); len(all) != len(list) {
			t.Errorf("FoundAt(%v, %d) = %v", list, impl.Full, all)
		}
	}
}

func TestOtherOddsHaveAFixedResult(t *testing.T) {
	for _, list := range badOdds() {
		got := [][]int{impl.TimesAll(list), impl.StepDown(list), impl.StepUp(list), impl.FalseShare(list)}
		for _, level := range []int{0, 30, impl.Full, -1, impl.Full + 1} {
			got = append(got, impl.FoundAt(list, level))
			for _, kind := range []string{"least", "each", ""} {
				got = append(got, impl.ClosedBy(list, level, kind))
			}
		}
		for call, result := range got {
			if len(result) != 0 {
				t.Errorf("the result %d of %v is %v", call, list, result)
			}
		}
	}
}

func TestOtherLevelsHaveAFixedResult(t *testing.T) {
	for _, list := range [][]int{{0}, {impl.Full}, {10, 40, 30}, {0, 0, 0, 0, 0, 0}, {1000, 0, 5, 0, 5, 1000}} {
		for _, level := range outOfOdds() {
			if found := impl.FoundAt(list, level); len(found) != 0 {
				t.Errorf("FoundAt(%v, %d) = %v", list, level, found)
			}
			for _, kind := range []string{"least", "each"} {
				if closed := impl.ClosedBy(list, level, kind); len(closed) != 0 {
					t.Errorf("ClosedBy(%v, %d, %s) = %v", list, level, kind, closed)
				}
			}
		}
	}
}

func TestClosedByOtherKindsHasAFixedResult(t *testing.T) {
	for _, list := range [][]int{{0}, {impl.Full}, {10, 40, 30}, {0, 0, 0, 0, 0, 0}, {1000, 0, 5, 0, 5, 1000}} {
		for _, level := range append(outOfOdds(), 0, 30, 60, impl.Full) {
			for _, kind := range badKinds() {
				if closed := impl.ClosedBy(list, level, kind); len(closed) != 0 {
					t.Errorf("ClosedBy(%v, %d, %q) = %v", list, level, kind, closed)
				}
			}
		}
	}
}

// eachOfOdds calls f with the result of each function of odds that gives a list.
func eachOfOdds(list []int, level int, f func(name string, result []int)) {
	f("TimesAll", impl.TimesAll(list))
	f("StepDown", impl.StepDown(list))
	f("StepUp", impl.StepUp(list))
	f("FalseShare", impl.FalseShare(list))
	f("ClosedBy least", impl.ClosedBy(list, level, "least"))
	f("ClosedBy each", impl.ClosedBy(list, level, "each"))
	f("FoundAt", impl.FoundAt(list, level))
}

func TestOddsAreLeftAlone(t *testing.T) {
	for _, list := range append(oddsLists(), badOdds()...) {
		// Numbers behind the end show whether spare memory of an argument is used.
		long := append(slices.Clone(list), 3, 2, 1)
		want := slices.Clone(long)
		impl.ValidOdds(long[:len(list)])
		eachOfOdds(long[:len(list)], impl.Full, func(name string, result []int) {
			// A result that shares memory with the argument changes it here.
			overwrite(result)
			if !slices.Equal(long, want) {
				t.Fatalf("with %s, %v became %v", name, want, long)
			}
		})
	}
}

func TestOddsGiveNewMemory(t *testing.T) {
	for _, list := range oddsLists() {
		var names []string
		var first, kept, again [][]int
		eachOfOdds(list, impl.Full, func(name string, result []int) {
			names = append(names, name)
			first = append(first, result)
			kept = append(kept, slices.Clone(result))
		})
		eachOfOdds(list, impl.Full, func(_ string, result []int) { overwrite(result) })
		eachOfOdds(list, impl.Full, func(_ string, result []int) { again = append(again, result) })
		for i, name := range names {
			if !slices.Equal(first[i], kept[i]) || !slices.Equal(again[i], kept[i]) {
				t.Errorf("%s of %v became %v, and again %v, of %v", name, list, first[i], again[i], kept[i])
			}
		}
	}
}
