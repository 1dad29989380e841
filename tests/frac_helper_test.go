package tests

import (
	"math"
	"math/big"
	"slices"

	"loop.example/countedchances/impl"
)

// frac returns the fraction of two numbers as they are.
func frac(up, down int) impl.Frac {
	return impl.Frac{Up: up, Down: down}
}

// rat returns a fraction with which to reckon.
func rat(f impl.Frac) *big.Rat {
	return big.NewRat(int64(f.Up), int64(f.Down))
}

// ratOf returns a whole number with which to reckon as with fractions.
func ratOf(n int) *big.Rat {
	return big.NewRat(int64(n), 1)
}

// told returns what has been reckoned, as the program tells it.
func told(r *big.Rat) impl.Frac {
	return frac(int(r.Num().Int64()), int(r.Denom().Int64()))
}

// toldAll returns all that has been reckoned, as the program tells it.
func toldAll(list []*big.Rat) []impl.Frac {
	fracs := make([]impl.Frac, len(list))
	for i, r := range list {
		fracs[i] = told(r)
	}
	return fracs
}

// isTold reports whether a fraction is as all fractions are told.
func isTold(f impl.Frac) bool {
	return f.Down >= 1 && told(rat(f)) == f
}

// less reports whether a fraction is less than another one.
func less(a, b impl.Frac) bool {
	return rat(a).Cmp(rat(b)) < 0
}

// plus, minus, times and apart reckon with new memory for each result.
func plus(a, b *big.Rat) *big.Rat  { return new(big.Rat).Add(a, b) }
func minus(a, b *big.Rat) *big.Rat { return new(big.Rat).Sub(a, b) }
func times(a, b *big.Rat) *big.Rat { return new(big.Rat).Mul(a, b) }
func apart(a, b *big.Rat) *big.Rat { return new(big.Rat).Abs(minus(a, b)) }

// half divides by two.
func half(a *big.Rat) *big.Rat {
	return times(a, big.NewRat(1, 2))
}

// turned returns a fraction with the other sign.
func turned(f impl.Frac) impl.Frac {
	return frac(-f.Up, f.Down)
}

// reversed returns a list the other way round.
func reversed[T any](list []T) []T {
	list = slices.Clone(list)
	slices.Reverse(list)
	return list
}

// eachCloud calls f with many points that are enough for a line: few of them with all places of some, and more by a rule.
func eachCloud(f func(xs, ys []int)) {
	offer := func(xs, ys []int) {
		if slices.Min(xs) < slices.Max(xs) {
			f(slices.Clone(xs), slices.Clone(ys))
		}
	}
	for _, c := range []struct {
		size   int
		places []int
	}{
		{2, []int{-impl.MaxPlace, -1, 0, 3, impl.MaxPlace}},
		{3, []int{-impl.MaxPlace, 0, 5}},
		{4, []int{0, 1}},
		{5, []int{-3, 4}},
	} {
		for _, xs := range listsOf(c.size, c.places...) {
			for _, ys := range listsOf(c.size, c.places...) {
				offer(xs, ys)
			}
		}
	}
	for size := 3; size <= impl.MaxPoints; size++ {
		for step := range 12 {
			for bend := range 10 {
				xs, ys := make([]int, size), make([]int, size)
				for i := range size {
					xs[i] = (step*i+bend*bend)%(2*impl.MaxPlace+1) - impl.MaxPlace
					ys[i] = (bend*i*i+7*i+step)%(2*impl.MaxPlace+1) - impl.MaxPlace
				}
				offer(xs, ys)
			}
		}
	}
}

// eachCurve calls f with many points of curves: few of them with all places of some, and as many as may be.
func eachCurve(f func(xs, ys []int)) {
	offer := func(xs, ys []int) {
		sorted := slices.Sorted(slices.Values(xs))
		if len(slices.Compact(sorted)) == len(xs) {
			f(slices.Clone(xs), slices.Clone(ys))
		}
	}
	for x := -impl.MaxPlace; x <= impl.MaxPlace; x++ {
		for y := -impl.MaxPlace; y <= impl.MaxPlace; y++ {
			offer([]int{x}, []int{y})
		}
	}
	places := []int{-impl.MaxPlace, -2, 0, 1, impl.MaxPlace}
	for size := 2; size <= 3; size++ {
		for _, xs := range listsOf(size, places...) {
			for _, ys := range listsOf(size, places...) {
				offer(xs, ys)
			}
		}
	}
	for size := 4; size <= impl.MaxCurve; size++ {
		for _, ys := range listsOf(size, -impl.MaxPlace, 1, impl.MaxPlace) {
			for _, xs := range [][]int{{-12, 12, 11, -11, 1}, {0, 1, 2, 3, 4}, {-12, -5, 0, 6, 12}, {7, -10, 3, 12, -9}, {5, 4, 3, 2, 1}} {
				offer(xs[:size], ys)
			}
		}
	}
}

// leftOver returns what is left of the y of a point when the slope times its x is taken off.
func leftOver(x, y int, slope *big.Rat) *big.Rat {
	return minus(ratOf(y), times(slope, ratOf(x)))
}

// missOf returns how far the points are from a line together.
func missOf(xs, ys []int, slope, height *big.Rat) *big.Rat {
	miss := new(big.Rat)
	for i, x := range xs {
		miss = plus(miss, apart(leftOver(x, ys[i], slope), height))
	}
	return miss
}

// slopesBySize returns the slopes of the lines through all two points with different xs, put in order one by one.
func slopesBySize(xs, ys []int) []*big.Rat {
	var slopes []*big.Rat
	for k := range xs {
		for i := range k {
			if xs[i] == xs[k] {
				continue
			}
			slope := big.NewRat(int64(ys[k]-ys[i]), int64(xs[k]-xs[i]))
			at := 0
			for at < len(slopes) && slopes[at].Cmp(slope) < 0 {
				at++
			}
			slopes = slices.Insert(slopes, at, slope)
		}
	}
	return slopes
}

// nearestLine tries the lines through all two points, and tells the slope, the height and the sum of the first one that is nearest.
func nearestLine(xs, ys []int) [3]impl.Frac {
	var nearest [3]impl.Frac
	for i := range xs {
		for k := i + 1; k < len(xs); k++ {
			if xs[i] == xs[k] {
				continue
			}
			slope := big.NewRat(int64(ys[i]-ys[k]), int64(xs[i]-xs[k]))
			height := leftOver(xs[k], ys[k], slope)
			miss := missOf(xs, ys, slope, height)
			if nearest[2].Down == 0 || miss.Cmp(rat(nearest[2])) < 0 {
				nearest = [3]impl.Frac{told(slope), told(height), told(miss)}
			}
		}
	}
	return nearest
}

// halfStrip tries the slopes through all two points, and returns half of the least strip.
func halfStrip(xs, ys []int) *big.Rat {
	var least *big.Rat
	for _, slope := range slopesBySize(xs, ys) {
		wide := new(big.Rat)
		for i := range xs {
			for k := range xs {
				if gap := minus(leftOver(xs[i], ys[i], slope), leftOver(xs[k], ys[k], slope)); gap.Cmp(wide) > 0 {
					wide = gap
				}
			}
		}
		if least == nil || wide.Cmp(least) < 0 {
			least = wide
		}
	}
	return half(least)
}

// halfGap tries all two points above each other, and all three of which one is between the others, by the area that they enclose.
func halfGap(xs, ys []int) *big.Rat {
	gap := new(big.Rat)
	try := func(up, down int) {
		if found := new(big.Rat).Abs(big.NewRat(int64(up), int64(2*down))); found.Cmp(gap) > 0 {
			gap = found
		}
	}
	for i := range xs {
		for k := range xs {
			if xs[i] == xs[k] {
				try(ys[i]-ys[k], 1)
			}
			for m := range xs {
				if m != i && m != k && xs[i] < xs[k] && xs[i] <= xs[m] && xs[m] <= xs[k] {
					try((xs[k]-xs[i])*(ys[m]-ys[i])-(ys[k]-ys[i])*(xs[m]-xs[i]), xs[k]-xs[i])
				}
			}
		}
	}
	return gap
}

// curveFactors returns the factors of the curve through the points, each one by the sum of the ys, divided by how far the xs are apart.
func curveFactors(xs, ys []int) []*big.Rat {
	factors := make([]*big.Rat, len(xs))
	for k := range xs {
		factors[k] = new(big.Rat)
		for i := range k + 1 {
			part := ratOf(ys[i])
			for m := range k + 1 {
				if m != i {
					part = times(part, big.NewRat(1, int64(xs[i]-xs[m])))
				}
			}
			factors[k] = plus(factors[k], part)
		}
	}
	return factors
}

// curveValue returns the value of the curve through the points, as the sum of curves that are 0 at all points but one.
func curveValue(xs, ys []int, x int) *big.Rat {
	value := new(big.Rat)
	for i := range xs {
		part := ratOf(ys[i])
		for m := range xs {
			if m != i {
				part = times(part, big.NewRat(int64(x-xs[m]), int64(xs[i]-xs[m])))
			}
		}
		value = plus(value, part)
	}
	return value
}

// outOfPlaces returns numbers that are not places of points.
func outOfPlaces() []int {
	return []int{-impl.MaxPlace - 1, impl.MaxPlace + 1, -100, 100, math.MinInt, math.MaxInt}
}

// badPoints returns lists that are neither the places of points for lines nor of those for curves.
func badPoints() [][2][]int {
	pairs := [][2][]int{
		{nil, nil},
		{{}, {}},
		{nil, {1}},
		{{1}, nil},
		{{1, 2}, {1}},
		{{1}, {1, 2}},
		{{1, 2, 3}, {1, 2}},
		{{1, 2}, {1, 2, 3}},
		{{1, 1}, {0, 2}},
		{{0, 0}, {0, 0}},
		{{-12, -12, -12}, {1, 2, 3}},
		{{0, 1, 2, 3, 4, 5, 6, 7}, {0, 1, 2, 3, 4, 5, 6, 7}},
		{{0, 1, 2, 3, 4, 5, 6, 7}, {0, 1, 2, 3, 4, 5, 6}},
		{{0, 1, 2, 3, 4, 5, 6}, {0, 1, 2, 3, 4, 5, 6, 7}},
		{make([]int, 25), make([]int, 25)},
	}
	for _, x := range outOfPlaces() {
		for size := 1; size <= impl.MaxPoints; size++ {
			for i := range size {
				good, bad := make([]int, size), make([]int, size)
				for k := range size {
					good[k], bad[k] = k, -k
				}
				bad[i] = x
				pairs = append(pairs, [2][]int{bad, good}, [2][]int{good, bad}, [2][]int{bad, bad})
			}
		}
	}
	for size := 2; size <= impl.MaxPoints; size++ {
		pairs = append(pairs, [2][]int{slices.Repeat([]int{3}, size), make([]int, size)})
	}
	return pairs
}

// badClouds returns lists that are not the places of points for lines.
func badClouds() [][2][]int {
	return append(badPoints(), [2][]int{{0}, {0}}, [2][]int{{12}, {-12}}, [2][]int{{-7}, {3}})
}

// badCurves returns lists that are not the places of points for curves.
func badCurves() [][2][]int {
	pairs := append(badPoints(),
		[2][]int{{0, 1, 2, 3, 4, 5}, {0, 1, 2, 3, 4, 5}},
		[2][]int{{0, 1, 2, 3, 4, 5, 6}, {0, 0, 0, 0, 0, 0, 0}},
		[2][]int{{0, 1, 0}, {5, 5, 5}},
		[2][]int{{1, 0, 0, 2}, {1, 2, 3, 4}},
		[2][]int{{-12, 1, 2, 3, -12}, {1, 2, 3, 4, 5}},
		[2][]int{{5, 1, 2, 3, 3}, {1, 2, 3, 4, 4}})
	eachCloud(func(xs, ys []int) {
		sorted := slices.Sorted(slices.Values(xs))
		if len(slices.Compact(sorted)) < len(xs) {
			pairs = append(pairs, [2][]int{xs, ys})
		}
	})
	return pairs
}
