package tests

import (
	"math"
	"math/big"
	"slices"
	"testing"

	"loop.example/countedchances/impl"
)

func TestFracOfFewNumbers(t *testing.T) {
	for _, c := range []struct {
		up, down int
		want     impl.Frac
	}{
		{0, 1, frac(0, 1)},
		{0, -1, frac(0, 1)},
		{0, 7, frac(0, 1)},
		{0, impl.MaxUp, frac(0, 1)},
		{0, -impl.MaxUp, frac(0, 1)},
		{1, 1, frac(1, 1)},
		{-1, -1, frac(1, 1)},
		{5, -5, frac(-1, 1)},
		{6, 4, frac(3, 2)},
		{-6, 4, frac(-3, 2)},
		{6, -4, frac(-3, 2)},
		{-6, -4, frac(3, 2)},
		{4, 6, frac(2, 3)},
		{7, 1, frac(7, 1)},
		{7, 13, frac(7, 13)},
		{impl.MaxUp, impl.MaxUp, frac(1, 1)},
		{-impl.MaxUp, -impl.MaxUp, frac(1, 1)},
		{impl.MaxUp, -impl.MaxUp, frac(-1, 1)},
		{impl.MaxUp, 1, frac(1000000, 1)},
		{-impl.MaxUp, -1, frac(1000000, 1)},
		{impl.MaxUp, -1, frac(-1000000, 1)},
		{1, impl.MaxUp, frac(1, 1000000)},
		{1, -impl.MaxUp, frac(-1, 1000000)},
		{impl.MaxUp, impl.MaxUp - 1, frac(1000000, 999999)},
		{999999, -999, frac(-1001, 1)},
		{524288, 786432, frac(2, 3)},
	} {
		if got, ok := impl.FracOf(c.up, c.down); !ok || got != c.want {
			t.Errorf("FracOf(%d, %d) = %v, %v, want %v", c.up, c.down, got, ok, c.want)
		}
	}
}

// Promise 40.
func TestFractionsHaveNoCommonFactor(t *testing.T) {
	check := func(up, down int) {
		got, ok := impl.FracOf(up, down)
		if !ok || got.Down < 1 || got.Up*down != up*got.Down {
			t.Errorf("FracOf(%d, %d) = %v, %v", up, down, got, ok)
		}
		common := new(big.Int).GCD(nil, nil, big.NewInt(int64(max(got.Up, -got.Up))), big.NewInt(int64(got.Down)))
		if common.Int64() != 1 {
			t.Errorf("FracOf(%d, %d) = %v, which have %v in common", up, down, got, common)
		}
	}
	for up := -60; up <= 60; up++ {
		for down := -60; down <= 60; down++ {
			if down != 0 {
				check(up, down)
			}
		}
	}
	greats := []int{1, 2, 6, 720, 30030, 65536, 510510, 832040, 999983, 999999, impl.MaxUp}
	for _, up := range greats {
		for _, down := range greats {
			check(up, down)
			check(-up, down)
			check(up, -down)
			check(-up, -down)
		}
	}
}

func TestValidCloudOfFewPoints(t *testing.T) {
	for _, c := range []struct {
		xs, ys []int
		want   bool
	}{
		{[]int{0, 1}, []int{0, 0}, true},
		{[]int{1, 0}, []int{5, 5}, true},
		{[]int{-12, 12}, []int{12, -12}, true},
		{[]int{0, 0, 1}, []int{2, 2, 2}, true},
		{[]int{0, 1, 1, 1, 1, 1, 1}, []int{0, 0, 0, 0, 0, 0, 0}, true},
		{[]int{1, 1, 1, 1, 1, 1, 0}, []int{1, 2, 3, 4, 5, 6, 7}, true},
		{[]int{0, 1, 2, 3, 4, 5, 6}, []int{0, 1, 2, 3, 4, 5, 6}, true},
		{[]int{0, 1, 2, 3, 4, 5, 6, 7}, []int{0, 1, 2, 3, 4, 5, 6, 7}, false},
		{[]int{0}, []int{0}, false},
		{[]int{1, 1}, []int{0, 2}, false},
		{[]int{0, 1}, []int{0}, false},
		{[]int{0, 1}, []int{0, 1, 2}, false},
		{nil, nil, false},
		{[]int{0, 13}, []int{0, 0}, false},
		{[]int{0, -13}, []int{0, 0}, false},
		{[]int{0, 1}, []int{13, 0}, false},
		{[]int{0, 1}, []int{0, -13}, false},
	} {
		if got := impl.ValidCloud(c.xs, c.ys); got != c.want {
			t.Errorf("ValidCloud(%v, %v) = %v", c.xs, c.ys, got)
		}
	}
}

// Promise 41.
func TestCloudsAreCloudsInAnyOrder(t *testing.T) {
	eachCloud(func(xs, ys []int) {
		if !impl.ValidCloud(xs, ys) || !impl.ValidCloud(reversed(xs), reversed(ys)) || !impl.ValidCloud(otherSigns(xs), ys) {
			t.Errorf("ValidCloud(%v, %v) = %v", xs, ys, impl.ValidCloud(xs, ys))
		}
	})
}

func TestSquareLineOfFewPoints(t *testing.T) {
	for _, c := range []struct {
		xs, ys        []int
		slope, height impl.Frac
	}{
		{[]int{0, 2}, []int{0, 3}, frac(3, 2), frac(0, 1)},
		{[]int{2, 0}, []int{3, 0}, frac(3, 2), frac(0, 1)},
		{[]int{-12, 12}, []int{12, -12}, frac(-1, 1), frac(0, 1)},
		{[]int{0, 1}, []int{-12, 12}, frac(24, 1), frac(-12, 1)},
		{[]int{11, 12}, []int{12, -12}, frac(-24, 1), frac(276, 1)},
		{[]int{0, 1, 2}, []int{0, 1, 4}, frac(2, 1), frac(-1, 3)},
		{[]int{0, 0, 2}, []int{0, 1, 2}, frac(3, 4), frac(1, 2)},
		{[]int{1, 1, 3}, []int{2, 2, 4}, frac(1, 1), frac(1, 1)},
		{[]int{-3, 0, 7}, []int{5, 5, 5}, frac(0, 1), frac(5, 1)},
		{[]int{0, 1, 0, 1}, []int{0, 1, 1, 0}, frac(0, 1), frac(1, 2)},
		{[]int{-3, -2, -1, 0, 1, 2, 3}, []int{9, 4, 1, 0, 1, 4, 9}, frac(0, 1), frac(4, 1)},
		{[]int{-3, -2, -1, 0, 1, 2, 3}, []int{-6, -4, -2, 0, 2, 4, 6}, frac(2, 1), frac(0, 1)},
		{[]int{12, -12, -12, -12, -12, -12, -12}, []int{12, 0, 0, 0, 0, 0, 0}, frac(1, 2), frac(6, 1)},
	} {
		if slope, height, ok := impl.SquareLine(c.xs, c.ys); !ok || slope != c.slope || height != c.height {
			t.Errorf("SquareLine(%v, %v) = %v, %v, %v, want %v, %v", c.xs, c.ys, slope, height, ok, c.slope, c.height)
		}
	}
}

// Promise 42.
func TestSquareLineIsAboveThePointsAsMuchAsBelow(t *testing.T) {
	eachCloud(func(xs, ys []int) {
		slope, height, ok := impl.SquareLine(xs, ys)
		if !ok || !isTold(slope) || !isTold(height) {
			t.Fatalf("SquareLine(%v, %v) = %v, %v, %v", xs, ys, slope, height, ok)
		}
		sum, sumX := new(big.Rat), new(big.Rat)
		for i, x := range xs {
			above := minus(leftOver(x, ys[i], rat(slope)), rat(height))
			sum, sumX = plus(sum, above), plus(sumX, times(above, ratOf(x)))
		}
		// There is no other line with both sums of 0.
		if sum.Sign() != 0 || sumX.Sign() != 0 {
			t.Errorf("SquareLine(%v, %v) = %v, %v: above by %v, and times x by %v", xs, ys, slope, height, sum, sumX)
		}
	})
}

func TestSlopesOfFewPoints(t *testing.T) {
	for _, c := range []struct {
		xs, ys []int
		want   []impl.Frac
		middle impl.Frac
	}{
		{[]int{0, 2}, []int{0, 3}, []impl.Frac{frac(3, 2)}, frac(3, 2)},
		{[]int{2, 0}, []int{3, 0}, []impl.Frac{frac(3, 2)}, frac(3, 2)},
		{[]int{0, 2}, []int{3, 0}, []impl.Frac{frac(-3, 2)}, frac(-3, 2)},
		{[]int{-12, 12}, []int{5, 5}, []impl.Frac{frac(0, 1)}, frac(0, 1)},
		{[]int{0, 1}, []int{-12, 12}, []impl.Frac{frac(24, 1)}, frac(24, 1)},
		{[]int{0, 1}, []int{12, -12}, []impl.Frac{frac(-24, 1)}, frac(-24, 1)},
		{[]int{-12, 12}, []int{0, 1}, []impl.Frac{frac(1, 24)}, frac(1, 24)},
		{[]int{0, 1, 2}, []int{0, 1, 4}, []impl.Frac{frac(1, 1), frac(2, 1), frac(3, 1)}, frac(2, 1)},
		{[]int{2, 0, 1}, []int{4, 0, 1}, []impl.Frac{frac(1, 1), frac(2, 1), frac(3, 1)}, frac(2, 1)},
		{[]int{0, 0, 2}, []int{0, 1, 2}, []impl.Frac{frac(1, 2), frac(1, 1)}, frac(3, 4)},
		{[]int{0, 0, 2}, []int{1, 1, 2}, []impl.Frac{frac(1, 2), frac(1, 2)}, frac(1, 2)},
		{[]int{0, 0, 1}, []int{-12, 12, 0}, []impl.Frac{frac(-12, 1), frac(12, 1)}, frac(0, 1)},
		{[]int{0, 3, 6}, []int{1, 3, 5}, []impl.Frac{frac(2, 3), frac(2, 3), frac(2, 3)}, frac(2, 3)},
		{[]int{0, 1, 0, 1}, []int{0, 1, 1, 0}, []impl.Frac{frac(-1, 1), frac(0, 1), frac(0, 1), frac(1, 1)}, frac(0, 1)},
		{[]int{0, 1, 3, 4}, []int{0, 0, 1, 3}, []impl.Frac{frac(0, 1), frac(1, 3), frac(1, 2), frac(3, 4), frac(1, 1), frac(2, 1)}, frac(5, 8)},
		{[]int{0, 1, 3, 4}, []int{0, 0, -1, -3}, []impl.Frac{frac(-2, 1), frac(-1, 1), frac(-3, 4), frac(-1, 2), frac(-1, 3), frac(0, 1)}, frac(-5, 8)},
	} {
		if got := impl.SlopesOf(c.xs, c.ys); !slices.Equal(got, c.want) {
			t.Errorf("SlopesOf(%v, %v) = %v, want %v", c.xs, c.ys, got, c.want)
		}
		if got, ok := impl.MiddleSlope(c.xs, c.ys); !ok || got != c.middle {
			t.Errorf("MiddleSlope(%v, %v) = %v, %v, want %v", c.xs, c.ys, got, ok, c.middle)
		}
	}
}

func TestSlopesOfManyPoints(t *testing.T) {
	most := 0
	eachCloud(func(xs, ys []int) {
		slopes := slopesBySize(xs, ys)
		if got, want := impl.SlopesOf(xs, ys), toldAll(slopes); !slices.Equal(got, want) {
			t.Errorf("SlopesOf(%v, %v) = %v, want %v", xs, ys, got, want)
		}
		middle := slopes[len(slopes)/2]
		if len(slopes)%2 == 0 {
			middle = half(plus(middle, slopes[len(slopes)/2-1]))
		}
		if got, ok := impl.MiddleSlope(xs, ys); !ok || got != told(middle) {
			t.Errorf("MiddleSlope(%v, %v) = %v, %v, want %v", xs, ys, got, ok, middle)
		}
		most = max(most, len(slopes))
	})
	if most != choices(impl.MaxPoints, 2) {
		t.Errorf("the most slopes are %d", most)
	}
}

// Promise 43.
func TestSlopesRise(t *testing.T) {
	eachCloud(func(xs, ys []int) {
		slopes := impl.SlopesOf(xs, ys)
		pairs := 0
		for k := range xs {
			for _, x := range xs[:k] {
				if x != xs[k] {
					pairs++
				}
			}
		}
		if len(slopes) != pairs || !slices.Equal(slopes, impl.SlopesOf(reversed(xs), reversed(ys))) {
			t.Errorf("SlopesOf(%v, %v) = %v, of %d pairs", xs, ys, slopes, pairs)
		}
		for i, slope := range slopes {
			if !isTold(slope) || i > 0 && less(slope, slopes[i-1]) {
				t.Errorf("SlopesOf(%v, %v) = %v", xs, ys, slopes)
			}
		}
	})
}

// Promise 44.
func TestMiddleSlopeIsBetweenAllSlopes(t *testing.T) {
	eachCloud(func(xs, ys []int) {
		slopes := impl.SlopesOf(xs, ys)
		middle, ok := impl.MiddleSlope(xs, ys)
		if !ok || !isTold(middle) || less(middle, slopes[0]) || less(slopes[len(slopes)-1], middle) {
			t.Errorf("MiddleSlope(%v, %v) = %v, %v", xs, ys, middle, ok)
		}
		if other, ok := impl.MiddleSlope(xs, otherSigns(ys)); !ok || other != turned(middle) {
			t.Errorf("MiddleSlope(%v, %v) = %v, %v, want %v", xs, otherSigns(ys), other, ok, turned(middle))
		}
	})
}

func TestNearLineOfFewPoints(t *testing.T) {
	for _, c := range []struct {
		xs, ys              []int
		slope, height, miss impl.Frac
	}{
		{[]int{0, 2}, []int{0, 3}, frac(3, 2), frac(0, 1), frac(0, 1)},
		{[]int{-12, 12}, []int{12, -12}, frac(-1, 1), frac(0, 1), frac(0, 1)},
		{[]int{11, 12}, []int{-12, 12}, frac(24, 1), frac(-276, 1), frac(0, 1)},
		{[]int{0, 1, 2}, []int{0, 1, 4}, frac(2, 1), frac(0, 1), frac(1, 1)},
		{[]int{0, 3, 6}, []int{1, 3, 5}, frac(2, 3), frac(1, 1), frac(0, 1)},
		{[]int{-3, 0, 7}, []int{5, 5, 5}, frac(0, 1), frac(5, 1), frac(0, 1)},
		// The second point is above the first one, and both lines through the third one are as near.
		{[]int{0, 0, 2}, []int{0, 1, 2}, frac(1, 1), frac(0, 1), frac(1, 1)},
		{[]int{0, 0, 2}, []int{1, 0, 2}, frac(1, 2), frac(1, 1), frac(1, 1)},
		{[]int{2, 0, 0}, []int{2, 1, 0}, frac(1, 2), frac(1, 1), frac(1, 1)},
		// All lines are as near: the first one by the lesser index, and then by the other one.
		{[]int{0, 1, 0, 1}, []int{0, 1, 1, 0}, frac(1, 1), frac(0, 1), frac(2, 1)},
		{[]int{0, 1, 1, 0}, []int{0, 0, 1, 1}, frac(0, 1), frac(0, 1), frac(2, 1)},
		{[]int{0, 0, 1, 1}, []int{0, 1, 0, 1}, frac(0, 1), frac(0, 1), frac(2, 1)},
		{[]int{0, 0, 1, 1}, []int{0, 1, 1, 0}, frac(1, 1), frac(0, 1), frac(2, 1)},
		// The nearest lines are that of the indices 0 and 4, and that of 1 and 2.
		{[]int{0, 1, 2, 3, 3}, []int{0, 3, 3, 2, 3}, frac(1, 1), frac(0, 1), frac(4, 1)},
		{[]int{0, 3, 6, 9}, []int{0, 3, 3, 0}, frac(1, 2), frac(0, 1), frac(6, 1)},
		{[]int{1, 1, 3}, []int{2, 2, 4}, frac(1, 1), frac(1, 1), frac(0, 1)},
		{[]int{0, 1, 2, 3, 4, 5, 6}, []int{0, 1, 2, 12, 4, 5, 6}, frac(1, 1), frac(0, 1), frac(9, 1)},
		{[]int{0, 1, 2, 3, 4, 5, 6}, []int{0, 1, 2, -12, 4, 5, 6}, frac(1, 1), frac(0, 1), frac(15, 1)},
		{[]int{0, 3, 5}, []int{0, 1, 0}, frac(0, 1), frac(0, 1), frac(1, 1)},
		{[]int{0, 2, 7}, []int{0, 1, 1}, frac(1, 7), frac(0, 1), frac(5, 7)},
	} {
		if slope, height, miss, ok := impl.NearLine(c.xs, c.ys); !ok || slope != c.slope || height != c.height || miss != c.miss {
			t.Errorf("NearLine(%v, %v) = %v, %v, %v, %v, want %v, %v, %v", c.xs, c.ys, slope, height, miss, ok, c.slope, c.height, c.miss)
		}
	}
}

func TestNearLineOfManyPoints(t *testing.T) {
	eachCloud(func(xs, ys []int) {
		want := nearestLine(xs, ys)
		if slope, height, miss, ok := impl.NearLine(xs, ys); !ok || want != [3]impl.Frac{slope, height, miss} {
			t.Errorf("NearLine(%v, %v) = %v, %v, %v, %v, want %v", xs, ys, slope, height, miss, ok, want)
		}
	})
}

// Promise 45.
func TestNearestLineIsNearest(t *testing.T) {
	eachCloud(func(xs, ys []int) {
		slope, height, miss, ok := impl.NearLine(xs, ys)
		if !ok || !isTold(slope) || !isTold(height) || told(missOf(xs, ys, rat(slope), rat(height))) != miss {
			t.Fatalf("NearLine(%v, %v) = %v, %v, %v, %v", xs, ys, slope, height, miss, ok)
		}
		square, at, _ := impl.SquareLine(xs, ys)
		if other := missOf(xs, ys, rat(square), rat(at)); rat(miss).Cmp(other) > 0 {
			t.Errorf("NearLine(%v, %v) = %v, %v, %v, and that of squares %v", xs, ys, slope, height, miss, other)
		}
		on := map[int]bool{}
		for i, x := range xs {
			if leftOver(x, ys[i], rat(slope)).Cmp(rat(height)) == 0 {
				on[x] = true
			}
		}
		if len(on) < 2 {
			t.Errorf("NearLine(%v, %v) = %v, %v, %v: on it are %v", xs, ys, slope, height, miss, on)
		}
	})
}

func TestStripsOfFewPoints(t *testing.T) {
	for _, c := range []struct {
		xs, ys []int
		want   impl.Frac
	}{
		// No three points count.
		{[]int{0, 2}, []int{0, 3}, frac(0, 1)},
		{[]int{-12, 12}, []int{12, -12}, frac(0, 1)},
		{[]int{11, 12}, []int{-12, 12}, frac(0, 1)},
		{[]int{0, 1, 2}, []int{0, 1, 4}, frac(1, 2)},
		{[]int{2, 0, 1}, []int{4, 0, 1}, frac(1, 2)},
		{[]int{0, 1, 2}, []int{0, -1, -4}, frac(1, 2)},
		{[]int{0, 3, 6}, []int{1, 3, 5}, frac(0, 1)},
		{[]int{-3, 0, 7}, []int{5, 5, 5}, frac(0, 1)},
		{[]int{1, 1, 3}, []int{2, 2, 4}, frac(0, 1)},
		{[]int{0, 0, 2}, []int{0, 3, 5}, frac(3, 2)},
		{[]int{0, 2, 0}, []int{0, 5, 3}, frac(3, 2)},
		{[]int{5, 0, 0}, []int{5, -12, 12}, frac(12, 1)},
		{[]int{12, -12, -12}, []int{0, 12, -12}, frac(12, 1)},
		{[]int{0, 0, 1, 1}, []int{0, 1, 0, 3}, frac(3, 2)},
		{[]int{0, 1, 0, 1}, []int{0, 1, 1, 0}, frac(1, 2)},
		{[]int{0, 1, 3}, []int{0, 0, 1}, frac(1, 6)},
		{[]int{0, 3, 5}, []int{0, 1, 0}, frac(1, 2)},
		{[]int{0, 2, 7}, []int{0, 1, 1}, frac(5, 14)},
		{[]int{-12, 0, 12}, []int{-12, 12, -12}, frac(12, 1)},
		{[]int{-12, 11, 12}, []int{-12, 12, -12}, frac(12, 1)},
		{[]int{-3, -2, -1, 0, 1, 2, 3}, []int{9, 4, 1, 0, 1, 4, 9}, frac(9, 2)},
		{[]int{0, 1, 2, 3, 4, 5, 6}, []int{0, 1, 2, 12, 4, 5, 6}, frac(9, 2)},
	} {
		if got, ok := impl.StripByPairs(c.xs, c.ys); !ok || got != c.want {
			t.Errorf("StripByPairs(%v, %v) = %v, %v, want %v", c.xs, c.ys, got, ok, c.want)
		}
		if got, ok := impl.StripByThrees(c.xs, c.ys); !ok || got != c.want {
			t.Errorf("StripByThrees(%v, %v) = %v, %v, want %v", c.xs, c.ys, got, ok, c.want)
		}
	}
}

func TestStripsOfManyPoints(t *testing.T) {
	eachCloud(func(xs, ys []int) {
		if got, ok := impl.StripByPairs(xs, ys); !ok || got != told(halfStrip(xs, ys)) {
			t.Errorf("StripByPairs(%v, %v) = %v, %v, want %v", xs, ys, got, ok, halfStrip(xs, ys))
		}
		if got, ok := impl.StripByThrees(xs, ys); !ok || got != told(halfGap(xs, ys)) {
			t.Errorf("StripByThrees(%v, %v) = %v, %v, want %v", xs, ys, got, ok, halfGap(xs, ys))
		}
	})
}

// Promise 46.
func TestStripsAreTheSameByPairsAndByThrees(t *testing.T) {
	eachCloud(func(xs, ys []int) {
		pairs, ok := impl.StripByPairs(xs, ys)
		threes, okThrees := impl.StripByThrees(xs, ys)
		if !ok || !okThrees || pairs != threes || !isTold(pairs) {
			t.Fatalf("StripByPairs(%v, %v) = %v, %v, and by threes %v, %v", xs, ys, pairs, ok, threes, okThrees)
		}
		if level := half(ratOf(slices.Max(ys) - slices.Min(ys))); rat(pairs).Cmp(level) > 0 {
			t.Errorf("StripByPairs(%v, %v) = %v, and half of all ys %v", xs, ys, pairs, level)
		}
	})
}

// Promise 47.
func TestStripsStayWhenPointsAreMoved(t *testing.T) {
	eachCloud(func(xs, ys []int) {
		strip, ok := impl.StripByThrees(xs, ys)
		if other, okOther := impl.StripByThrees(reversed(xs), reversed(ys)); !ok || !okOther || other != strip {
			t.Errorf("StripByThrees(%v, %v) = %v, %v, and the other way round %v, %v", xs, ys, strip, ok, other, okOther)
		}
		if other, okOther := impl.StripByThrees(xs, otherSigns(ys)); !okOther || other != strip {
			t.Errorf("StripByThrees(%v, %v) = %v, and with the other signs %v, %v", xs, ys, strip, other, okOther)
		}
		last := len(xs) - 1
		if !impl.ValidCloud(xs[:last], ys[:last]) {
			return
		}
		if fewer, okFewer := impl.StripByThrees(xs[:last], ys[:last]); !okFewer || less(strip, fewer) {
			t.Errorf("StripByThrees(%v, %v) = %v, and without the last point %v, %v", xs, ys, strip, fewer, okFewer)
		}
	})
}

func TestCurveOfFewPoints(t *testing.T) {
	for _, c := range []struct {
		xs, ys []int
		want   []impl.Frac
	}{
		{[]int{0}, []int{0}, []impl.Frac{frac(0, 1)}},
		{[]int{12}, []int{-12}, []impl.Frac{frac(-12, 1)}},
		{[]int{-12}, []int{12}, []impl.Frac{frac(12, 1)}},
		{[]int{0, 2}, []int{1, 4}, []impl.Frac{frac(1, 1), frac(3, 2)}},
		{[]int{2, 0}, []int{4, 1}, []impl.Frac{frac(4, 1), frac(3, 2)}},
		{[]int{-12, 12}, []int{12, -12}, []impl.Frac{frac(12, 1), frac(-1, 1)}},
		{[]int{3, 7}, []int{5, 5}, []impl.Frac{frac(5, 1), frac(0, 1)}},
		{[]int{0, 1, 2}, []int{0, 1, 4}, []impl.Frac{frac(0, 1), frac(1, 1), frac(1, 1)}},
		{[]int{2, 0, 1}, []int{4, 0, 1}, []impl.Frac{frac(4, 1), frac(2, 1), frac(1, 1)}},
		{[]int{0, 2, 3}, []int{1, 2, 2}, []impl.Frac{frac(1, 1), frac(1, 2), frac(-1, 6)}},
		// A line through three points, and through five of them.
		{[]int{0, 3, 6}, []int{1, 3, 5}, []impl.Frac{frac(1, 1), frac(2, 3), frac(0, 1)}},
		{[]int{5, 1, 4, 2, 3}, []int{10, 2, 8, 4, 6}, []impl.Frac{frac(10, 1), frac(2, 1), frac(0, 1), frac(0, 1), frac(0, 1)}},
		{[]int{5, 1, 4, 2, 3}, []int{0, 0, 0, 0, 0}, []impl.Frac{frac(0, 1), frac(0, 1), frac(0, 1), frac(0, 1), frac(0, 1)}},
		// The cubes less x, divided by two.
		{[]int{-2, -1, 0, 1, 2}, []int{-3, 0, 0, 0, 3}, []impl.Frac{frac(-3, 1), frac(3, 1), frac(-3, 2), frac(1, 2), frac(0, 1)}},
		{[]int{0, 1, 2, 3, 4}, []int{0, 0, 0, 0, 1}, []impl.Frac{frac(0, 1), frac(0, 1), frac(0, 1), frac(0, 1), frac(1, 24)}},
		{[]int{0, 1, 2, 3, 4}, []int{1, 0, 0, 0, 0}, []impl.Frac{frac(1, 1), frac(-1, 1), frac(1, 2), frac(-1, 6), frac(1, 24)}},
	} {
		if got := impl.CurveOf(c.xs, c.ys); !slices.Equal(got, c.want) {
			t.Errorf("CurveOf(%v, %v) = %v, want %v", c.xs, c.ys, got, c.want)
		}
	}
}

func TestCurveOfManyPoints(t *testing.T) {
	most := 0
	eachCurve(func(xs, ys []int) {
		if got, want := impl.CurveOf(xs, ys), toldAll(curveFactors(xs, ys)); !slices.Equal(got, want) {
			t.Errorf("CurveOf(%v, %v) = %v, want %v", xs, ys, got, want)
		}
		most = max(most, len(xs))
	})
	if most != impl.MaxCurve {
		t.Errorf("the most points are %d", most)
	}
}

func TestCurveAtFewPlaces(t *testing.T) {
	for _, c := range []struct {
		xs, ys []int
		x      int
		want   impl.Frac
	}{
		{[]int{0}, []int{7}, 0, frac(7, 1)},
		{[]int{0}, []int{7}, -impl.MaxPlace, frac(7, 1)},
		{[]int{5}, []int{-12}, impl.MaxPlace, frac(-12, 1)},
		{[]int{0, 2}, []int{1, 4}, 1, frac(5, 2)},
		{[]int{0, 2}, []int{1, 4}, -impl.MaxPlace, frac(-17, 1)},
		{[]int{2, 0}, []int{4, 1}, impl.MaxPlace, frac(19, 1)},
		{[]int{0, 1, 2}, []int{0, 1, 4}, -3, frac(9, 1)},
		{[]int{0, 1, 2}, []int{0, 1, 4}, impl.MaxPlace, frac(144, 1)},
		{[]int{0, 1, 2}, []int{0, 1, 4}, -impl.MaxPlace, frac(144, 1)},
		{[]int{0, 2, 3}, []int{1, 2, 2}, 1, frac(5, 3)},
		{[]int{0, 3, 6}, []int{1, 3, 5}, 1, frac(5, 3)},
		{[]int{-2, -1, 0, 1, 2}, []int{-3, 0, 0, 0, 3}, impl.MaxPlace, frac(858, 1)},
		{[]int{-2, -1, 0, 1, 2}, []int{-3, 0, 0, 0, 3}, -impl.MaxPlace, frac(-858, 1)},
		{[]int{0, 1, 2, 3, 4}, []int{0, 0, 0, 0, 1}, impl.MaxPlace, frac(495, 1)},
		{[]int{0, 1, 2, 3, 4}, []int{0, 0, 0, 0, 1}, -impl.MaxPlace, frac(1365, 1)},
	} {
		if got, ok := impl.CurveAt(c.xs, c.ys, c.x); !ok || got != c.want {
			t.Errorf("CurveAt(%v, %v, %d) = %v, %v, want %v", c.xs, c.ys, c.x, got, ok, c.want)
		}
	}
}

func TestCurveAtManyPlaces(t *testing.T) {
	eachCurve(func(xs, ys []int) {
		for _, x := range []int{-impl.MaxPlace, -5, 2, impl.MaxPlace - 1, impl.MaxPlace} {
			if got, ok := impl.CurveAt(xs, ys, x); !ok || got != told(curveValue(xs, ys, x)) {
				t.Errorf("CurveAt(%v, %v, %d) = %v, %v, want %v", xs, ys, x, got, ok, curveValue(xs, ys, x))
			}
		}
	})
}

// Promise 48.
func TestCurvesGoThroughTheirPoints(t *testing.T) {
	eachCurve(func(xs, ys []int) {
		for i, x := range xs {
			if got, ok := impl.CurveAt(xs, ys, x); !ok || got != frac(ys[i], 1) {
				t.Errorf("CurveAt(%v, %v, %d) = %v, %v", xs, ys, x, got, ok)
			}
		}
		factors := impl.CurveOf(xs, ys)
		if len(factors) != len(xs) {
			t.Fatalf("CurveOf(%v, %v) = %v", xs, ys, factors)
		}
		for size := 1; size < len(xs); size++ {
			if fewer := impl.CurveOf(xs[:size], ys[:size]); !slices.Equal(fewer, factors[:size]) {
				t.Errorf("CurveOf(%v, %v) = %v, and of %d points %v", xs, ys, factors, size, fewer)
			}
		}
	})
}

// Promise 49.
func TestCurvesAreTheSameInAnyOrder(t *testing.T) {
	eachCurve(func(xs, ys []int) {
		for _, x := range []int{-impl.MaxPlace, -1, 0, 3, impl.MaxPlace} {
			got, ok := impl.CurveAt(xs, ys, x)
			if other, okOther := impl.CurveAt(reversed(xs), reversed(ys), x); !ok || !okOther || !isTold(got) || other != got {
				t.Errorf("CurveAt(%v, %v, %d) = %v, %v, and the other way round %v, %v", xs, ys, x, got, ok, other, okOther)
			}
		}
	})
}

func TestOtherFractionsHaveAFixedResult(t *testing.T) {
	outs := []int{impl.MaxUp + 1, -impl.MaxUp - 1, 2 * impl.MaxUp, math.MaxInt, math.MinInt}
	for _, bad := range outs {
		for _, other := range append(outs, 0, 1, -1, impl.MaxUp, -impl.MaxUp) {
			for _, c := range [][2]int{{bad, other}, {other, bad}} {
				if got, ok := impl.FracOf(c[0], c[1]); ok || got != (impl.Frac{}) {
					t.Errorf("FracOf(%d, %d) = %v, %v", c[0], c[1], got, ok)
				}
			}
		}
	}
	for _, up := range append(outs, 0, 1, -1, impl.MaxUp, -impl.MaxUp) {
		if got, ok := impl.FracOf(up, 0); ok || got != (impl.Frac{}) {
			t.Errorf("FracOf(%d, 0) = %v, %v", up, got, ok)
		}
	}
}

func TestOtherCloudsHaveFixedResults(t *testing.T) {
	none := impl.Frac{}
	for _, p := range badClouds() {
		if impl.ValidCloud(p[0], p[1]) {
			t.Errorf("ValidCloud(%v, %v)", p[0], p[1])
		}
		if slope, height, ok := impl.SquareLine(p[0], p[1]); ok || slope != none || height != none {
			t.Errorf("SquareLine(%v, %v) = %v, %v, %v", p[0], p[1], slope, height, ok)
		}
		if got := impl.SlopesOf(p[0], p[1]); len(got) != 0 {
			t.Errorf("SlopesOf(%v, %v) = %v", p[0], p[1], got)
		}
		if got, ok := impl.MiddleSlope(p[0], p[1]); ok || got != none {
			t.Errorf("MiddleSlope(%v, %v) = %v, %v", p[0], p[1], got, ok)
		}
		if slope, height, miss, ok := impl.NearLine(p[0], p[1]); ok || slope != none || height != none || miss != none {
			t.Errorf("NearLine(%v, %v) = %v, %v, %v, %v", p[0], p[1], slope, height, miss, ok)
		}
		if got, ok := impl.StripByPairs(p[0], p[1]); ok || got != none {
			t.Errorf("StripByPairs(%v, %v) = %v, %v", p[0], p[1], got, ok)
		}
		if got, ok := impl.StripByThrees(p[0], p[1]); ok || got != none {
			t.Errorf("StripByThrees(%v, %v) = %v, %v", p[0], p[1], got, ok)
		}
	}
}

func TestOtherCurvesHaveFixedResults(t *testing.T) {
	for _, p := range badCurves() {
		if got := impl.CurveOf(p[0], p[1]); len(got) != 0 {
			t.Errorf("CurveOf(%v, %v) = %v", p[0], p[1], got)
		}
		for _, x := range append(outOfPlaces(), -impl.MaxPlace, 0, impl.MaxPlace) {
			if got, ok := impl.CurveAt(p[0], p[1], x); ok || got != (impl.Frac{}) {
				t.Errorf("CurveAt(%v, %v, %d) = %v, %v", p[0], p[1], x, got, ok)
			}
		}
	}
	eachCurve(func(xs, ys []int) {
		for _, x := range outOfPlaces() {
			if got, ok := impl.CurveAt(xs, ys, x); ok || got != (impl.Frac{}) {
				t.Errorf("CurveAt(%v, %v, %d) = %v, %v", xs, ys, x, got, ok)
			}
		}
	})
}

func TestLinesLeaveArgumentsAlone(t *testing.T) {
	check := func(xs, ys []int) {
		// Numbers behind the end show whether spare memory of an argument is used.
		longX, longY := append(slices.Clone(xs), 77, 78, 79), append(slices.Clone(ys), 87, 88, 89)
		wantX, wantY := slices.Clone(longX), slices.Clone(longY)
		shortX, shortY := longX[:len(xs)], longY[:len(ys)]
		impl.ValidCloud(shortX, shortY)
		impl.SquareLine(shortX, shortY)
		impl.SlopesOf(shortX, shortY)
		impl.MiddleSlope(shortX, shortY)
		impl.NearLine(shortX, shortY)
		impl.StripByPairs(shortX, shortY)
		impl.StripByThrees(shortX, shortY)
		impl.CurveOf(shortX, shortY)
		impl.CurveAt(shortX, shortY, 5)
		if !slices.Equal(longX, wantX) || !slices.Equal(longY, wantY) {
			t.Errorf("%v and %v became %v and %v", wantX, wantY, longX, longY)
		}
	}
	eachCloud(check)
	eachCurve(check)
	for _, p := range append(badClouds(), badCurves()...) {
		check(p[0], p[1])
	}
}

func TestLinesGiveNewMemory(t *testing.T) {
	check := func(name string, xs, ys []int, list func(xs, ys []int) []impl.Frac) {
		first := list(xs, ys)
		kept := slices.Clone(first)
		overwriteBy(list(xs, ys), frac(-9999, 9999))
		if again := list(xs, ys); !slices.Equal(first, kept) || !slices.Equal(again, kept) {
			t.Errorf("%s of %v and %v became %v, and again %v, of %v", name, xs, ys, first, again, kept)
		}
	}
	eachCloud(func(xs, ys []int) { check("SlopesOf", xs, ys, impl.SlopesOf) })
	eachCurve(func(xs, ys []int) { check("CurveOf", xs, ys, impl.CurveOf) })
}
