package tests

import (
	"math/big"
	"slices"
	"testing"

	"loop.example/countedchances/impl"
)

func TestPieceMissOfFewNumbers(t *testing.T) {
	eight := []int{1, 2, 3, 4, 5, 6, 7, 8}
	ends := slices.Repeat([]int{impl.MaxHeight, -impl.MaxHeight}, impl.MaxRise/2)
	for _, c := range []struct {
		list []int
		i, k int
		want impl.Frac
	}{
		{[]int{5}, 0, 0, frac(0, 1)},
		{[]int{-30}, 0, 0, frac(0, 1)},
		{[]int{1, 2, 9, 10}, 0, 1, frac(1, 2)},
		{[]int{1, 2, 9, 10}, 0, 3, frac(65, 1)},
		{[]int{1, 2, 9, 10}, 1, 2, frac(49, 2)},
		{[]int{1, 2, 9, 10}, 0, 2, frac(38, 1)},
		{[]int{1, 2, 9, 10}, 1, 3, frac(38, 1)},
		{[]int{1, 2, 9, 10}, 3, 3, frac(0, 1)},
		{[]int{0, 0, 1}, 0, 2, frac(2, 3)},
		{[]int{0, -1, 0}, 0, 2, frac(2, 3)},
		{[]int{3, 3, 3}, 0, 2, frac(0, 1)},
		{[]int{30, -30}, 0, 1, frac(1800, 1)},
		{[]int{-30, 0, 30}, 0, 2, frac(1800, 1)},
		{[]int{-30, 0, 30}, 1, 2, frac(450, 1)},
		{eight, 0, 0, frac(0, 1)},
		{eight, 7, 7, frac(0, 1)},
		{eight, 3, 5, frac(2, 1)},
		{eight, 0, 7, frac(42, 1)},
		{reversed(eight), 0, 7, frac(42, 1)},
		{[]int{1, 0, 0, 0, 0, 0, 0, 0}, 0, 7, frac(7, 8)},
		{ends, 0, 7, frac(7200, 1)},
		{ends, 0, 6, frac(43200, 7)},
		{slices.Repeat([]int{30}, 8), 0, 7, frac(0, 1)},
	} {
		if got, ok := impl.PieceMiss(c.list, c.i, c.k); !ok || got != c.want {
			t.Errorf("PieceMiss(%v, %d, %d) = %v, %v, want %v", c.list, c.i, c.k, got, ok, c.want)
		}
	}
}

// Promise 59.
func TestPiecesOfOneNumberMissNothing(t *testing.T) {
	eachHeights(func(list []int) {
		for i := range list {
			last := frac(0, 1)
			for k := i; k < len(list); k++ {
				got, ok := impl.PieceMiss(list, i, k)
				if want := told(squaresBetween(list, i, k)); !ok || got != want {
					t.Fatalf("PieceMiss(%v, %d, %d) = %v, %v, want %v", list, i, k, got, ok, want)
				}
				if same := slices.Min(list[i:k+1]) == slices.Max(list[i:k+1]); same != (got == frac(0, 1)) || less(got, last) {
					t.Errorf("PieceMiss(%v, %d, %d) = %v, and with one number fewer %v", list, i, k, got, last)
				}
				if shorter, ok := impl.PieceMiss(list, i+1, k); ok && less(got, shorter) {
					t.Errorf("PieceMiss(%v, %d, %d) = %v, and without the first number %v", list, i, k, got, shorter)
				}
				last = got
			}
		}
	})
}

func TestPiecesOfFewNumbers(t *testing.T) {
	none := []impl.Frac{frac(0, 1)}
	for _, c := range []struct {
		list []int
		// For each number of pieces, and for more of them as for the last one.
		squares []impl.Frac
		middles []int
		rooms   []int
	}{
		{[]int{7}, none, []int{0}, []int{0}},
		{[]int{-30}, none, []int{0}, []int{0}},
		{[]int{30}, none, []int{0}, []int{0}},
		{[]int{-30, 30}, []impl.Frac{frac(1800, 1), frac(0, 1)}, []int{60, 0}, []int{60, 0}},
		{[]int{30, 0, -30}, []impl.Frac{frac(1800, 1), frac(450, 1), frac(0, 1)}, []int{60, 30, 0}, []int{60, 30, 0}},
		{[]int{1, 2, 9, 10}, []impl.Frac{frac(65, 1), frac(1, 1), frac(1, 2), frac(0, 1)}, []int{16, 2, 1, 0}, []int{9, 1, 1, 0}},
		// Numbers that are the same are as well one piece as several.
		{[]int{4, 4, 4}, none, []int{0}, []int{0}},
		{slices.Repeat([]int{0}, 8), none, []int{0}, []int{0}},
		{slices.Repeat([]int{-30}, 8), none, []int{0}, []int{0}},
		{[]int{1, 1, 2, 2, 2}, []impl.Frac{frac(6, 5), frac(0, 1)}, []int{2, 0}, []int{1, 0}},
		{[]int{0, 0, 7, 7, 1, 1, 1}, []impl.Frac{frac(418, 7), frac(216, 5), frac(0, 1)}, []int{14, 12, 0}, []int{7, 6, 0}},
		{[]int{-30, -30, -30, -30, 30, 30, 30, 30}, []impl.Frac{frac(7200, 1), frac(0, 1)}, []int{240, 0}, []int{60, 0}},
		{[]int{1, 0, 0, 0, 0, 0, 0, 0}, []impl.Frac{frac(7, 8), frac(0, 1)}, []int{1, 0}, []int{1, 0}},
		// One piece more is no better.
		{[]int{2, 9, 2}, []impl.Frac{frac(98, 3), frac(49, 2), frac(0, 1)}, []int{7, 7, 0}, []int{7, 7, 0}},
		{[]int{3, 1, 2}, []impl.Frac{frac(2, 1), frac(1, 2), frac(0, 1)}, []int{2, 1, 0}, []int{2, 1, 0}},
		{[]int{0, 5, 1, 4, 2}, []impl.Frac{frac(86, 5), frac(10, 1), frac(14, 3), frac(2, 1), frac(0, 1)}, []int{8, 6, 3, 2, 0}, []int{5, 4, 3, 2, 0}},
		{
			[]int{1, 2, 3, 4, 5, 6, 7, 8},
			[]impl.Frac{frac(42, 1), frac(10, 1), frac(9, 2), frac(2, 1), frac(3, 2), frac(1, 1), frac(1, 2), frac(0, 1)},
			[]int{16, 8, 5, 4, 3, 2, 1, 0}, []int{7, 3, 2, 1, 1, 1, 1, 0},
		},
		{
			[]int{8, 7, 6, 5, 4, 3, 2, 1},
			[]impl.Frac{frac(42, 1), frac(10, 1), frac(9, 2), frac(2, 1), frac(3, 2), frac(1, 1), frac(1, 2), frac(0, 1)},
			[]int{16, 8, 5, 4, 3, 2, 1, 0}, []int{7, 3, 2, 1, 1, 1, 1, 0},
		},
		{
			slices.Repeat([]int{30, -30}, 4),
			[]impl.Frac{frac(7200, 1), frac(43200, 7), frac(5400, 1), frac(4320, 1), frac(3600, 1), frac(2400, 1), frac(1800, 1), frac(0, 1)},
			[]int{240, 180, 180, 120, 120, 60, 60, 0}, []int{60, 60, 60, 60, 60, 60, 60, 0},
		},
	} {
		for pieces := 1; pieces <= impl.MaxRise; pieces++ {
			squares := c.squares[min(pieces, len(c.squares))-1]
			middle := c.middles[min(pieces, len(c.middles))-1]
			room := c.rooms[min(pieces, len(c.rooms))-1]
			checkPieces(t, c.list, pieces, squares, middle, room)
		}
	}
}

// checkPieces checks what is told of numbers that are cut into at most so many pieces.
func checkPieces(t *testing.T, list []int, pieces int, squares impl.Frac, middle, room int) {
	timesOver(func() {
		if got, ok := impl.PiecesMiss(list, pieces); !ok || got != squares {
			t.Errorf("PiecesMiss(%v, %d) = %v, %v, want %v", list, pieces, got, ok, squares)
		}
		if got := impl.MiddlePieces(list, pieces); got != middle {
			t.Errorf("MiddlePieces(%v, %d) = %d, want %d", list, pieces, got, middle)
		}
	})
	if got, ok := impl.PiecesTried(list, pieces); !ok || got != squares {
		t.Errorf("PiecesTried(%v, %d) = %v, %v, want %v", list, pieces, got, ok, squares)
	}
	if got := impl.LeastRoom(list, pieces); got != room {
		t.Errorf("LeastRoom(%v, %d) = %d, want %d", list, pieces, got, room)
	}
	if got := impl.RoomTried(list, pieces); got != room {
		t.Errorf("RoomTried(%v, %d) = %d, want %d", list, pieces, got, room)
	}
}

func TestPiecesOfManyNumbers(t *testing.T) {
	eachHeights(func(list []int) {
		squares, middles, rooms := squaresByPieces(list), distancesByPieces(list), roomsByPieces(list)
		for pieces := 1; pieces <= impl.MaxRise; pieces++ {
			if !middles[pieces].IsInt() {
				t.Fatalf("%v are %v from numbers with a half, by %d pieces", list, middles[pieces], pieces)
			}
			checkPieces(t, list, pieces, told(squares[pieces]), told(middles[pieces]).Up, told(rooms[pieces]).Up)
		}
	})
}

// Promise 60.
func TestPiecesByStepsArePiecesByTrying(t *testing.T) {
	eachHeights(func(list []int) {
		var fewer impl.Frac
		for pieces := 1; pieces <= impl.MaxRise; pieces++ {
			tried, okTried := impl.PiecesTried(list, pieces)
			timesOver(func() {
				if got, ok := impl.PiecesMiss(list, pieces); !ok || !okTried || !isTold(got) || got != tried {
					t.Errorf("PiecesMiss(%v, %d) = %v, %v, and by trying %v, %v", list, pieces, got, ok, tried, okTried)
				}
			})
			if pieces > 1 && less(fewer, tried) || pieces >= len(list) && tried != frac(0, 1) {
				t.Errorf("PiecesTried(%v, %d) = %v, and with one piece fewer %v", list, pieces, tried, fewer)
			}
			fewer = tried
		}
	})
}

// Promise 61.
func TestPiecesGoBothWays(t *testing.T) {
	eachHeights(func(list []int) {
		for pieces := 1; pieces <= impl.MaxRise; pieces++ {
			want, ok := impl.PiecesTried(list, pieces)
			for _, other := range [][]int{reversed(list), otherSigns(list), otherSigns(reversed(list))} {
				if got, okOther := impl.PiecesTried(other, pieces); !ok || !okOther || got != want {
					t.Errorf("PiecesTried(%v, %d) = %v, %v, and of %v %v, %v", list, pieces, want, ok, other, got, okOther)
				}
			}
		}
	})
}

func TestPricedPiecesOfFewNumbers(t *testing.T) {
	eight := []int{1, 2, 3, 4, 5, 6, 7, 8}
	for _, c := range []struct {
		list   []int
		price  int
		want   impl.Frac
		pieces int
	}{
		{[]int{7}, 0, frac(0, 1), 1},
		{[]int{7}, 500, frac(500, 1), 1},
		{[]int{-30, 30}, 0, frac(0, 1), 2},
		{[]int{-30, 30}, 500, frac(1000, 1), 2},
		{[]int{1, 2, 9, 10}, 0, frac(0, 1), 4},
		{[]int{1, 2, 9, 10}, 1, frac(3, 1), 2},
		{[]int{1, 2, 9, 10}, 63, frac(127, 1), 2},
		{[]int{1, 2, 9, 10}, 500, frac(565, 1), 1},
		// Two numbers of pieces are as good as each other.
		{[]int{1, 2, 9, 10}, 64, frac(129, 1), 1},
		{[]int{1, 3, 5}, 2, frac(6, 1), 2},
		{[]int{1, 3, 5}, 6, frac(14, 1), 1},
		{eight, 32, frac(74, 1), 1},
		// All numbers of pieces are as good as each other.
		{[]int{4, 4, 4}, 0, frac(0, 1), 1},
		{[]int{4, 4, 4}, 5, frac(5, 1), 1},
		{slices.Repeat([]int{-30}, 8), 0, frac(0, 1), 1},
		{slices.Repeat([]int{-30}, 8), 500, frac(500, 1), 1},
		{eight, 0, frac(0, 1), 8},
		{eight, 1, frac(6, 1), 4},
		{eight, 2, frac(10, 1), 4},
		{eight, 5, frac(39, 2), 3},
		{eight, 10, frac(30, 1), 2},
		{eight, 33, frac(75, 1), 1},
		{reversed(eight), 5, frac(39, 2), 3},
		// No price makes two pieces the best ones.
		{[]int{0, 0, 7, 7, 1, 1, 1}, 29, frac(87, 1), 3},
		{[]int{0, 0, 7, 7, 1, 1, 1}, 30, frac(628, 7), 1},
		{[]int{2, 9, 2}, 16, frac(48, 1), 3},
		{[]int{2, 9, 2}, 17, frac(149, 3), 1},
		{[]int{3, 1, 2}, 1, frac(5, 2), 2},
		{[]int{3, 1, 2}, 2, frac(4, 1), 1},
		{slices.Repeat([]int{30, -30}, 4), 500, frac(4000, 1), 8},
	} {
		timesOver(func() {
			if got, pieces, ok := impl.PricedPieces(c.list, c.price); !ok || got != c.want || pieces != c.pieces {
				t.Errorf("PricedPieces(%v, %d) = %v, %d, %v, want %v, %d", c.list, c.price, got, pieces, ok, c.want, c.pieces)
			}
		})
	}
}

func TestPricedPiecesOfManyNumbers(t *testing.T) {
	eachHeights(func(list []int) {
		missed := squaresByPieces(list)
		for _, price := range pricesFor(missed) {
			want, best := bestPriced(missed, price)
			timesOver(func() {
				if got, pieces, ok := impl.PricedPieces(list, price); !ok || got != told(want) || pieces != best {
					t.Errorf("PricedPieces(%v, %d) = %v, %d, %v, want %v, %d", list, price, got, pieces, ok, want, best)
				}
			})
		}
	})
}

// Promise 62.
func TestPricesArePaidForPieces(t *testing.T) {
	eachHeights(func(list []int) {
		timesOver(func() {
			// What so many pieces miss, at the number of pieces.
			missed := make([]*big.Rat, impl.MaxRise+1)
			for pieces := 1; pieces <= impl.MaxRise; pieces++ {
				miss, ok := impl.PiecesMiss(list, pieces)
				if !ok {
					t.Fatalf("PiecesMiss(%v, %d) = %v, %v", list, pieces, miss, ok)
				}
				missed[pieces] = rat(miss)
			}
			for _, price := range pricesFor(missed) {
				got, best, ok := impl.PricedPieces(list, price)
				if !ok || best < 1 || best > len(list) || got != told(plus(missed[best], ratOf(best*price))) {
					t.Fatalf("PricedPieces(%v, %d) = %v, %d, %v", list, price, got, best, ok)
				}
				for pieces := 1; pieces <= impl.MaxRise; pieces++ {
					if order := rat(got).Cmp(plus(missed[pieces], ratOf(pieces*price))); order > 0 || order == 0 && pieces < best {
						t.Errorf("PricedPieces(%v, %d) = %v, %d, and %d pieces miss %v", list, price, got, best, pieces, missed[pieces])
					}
				}
			}
		})
	})
}

// Promise 63.
func TestMiddlesOfPiecesGoBothWays(t *testing.T) {
	eachHeights(func(list []int) {
		timesOver(func() {
			fewer := impl.MaxRise * impl.MaxHeight
			for pieces := 1; pieces <= impl.MaxRise; pieces++ {
				got := impl.MiddlePieces(list, pieces)
				if other := impl.MiddlePieces(reversed(list), pieces); got < 0 || got > fewer || got != other {
					t.Errorf("MiddlePieces(%v, %d) = %d, the other way round %d, and with one piece fewer %d", list, pieces, got, other, fewer)
				}
				if pieces >= len(list) && got != 0 {
					t.Errorf("MiddlePieces(%v, %d) = %d", list, pieces, got)
				}
				fewer = got
			}
		})
	})
}

func TestFewestPiecesOfFewNumbers(t *testing.T) {
	eight := []int{1, 2, 3, 4, 5, 6, 7, 8}
	others := []int{3, 1, 4, 1, 5, 9, 2, 6}
	for _, c := range []struct {
		list []int
		room int
		want []int
	}{
		{[]int{7}, 0, []int{0}},
		{[]int{7}, 60, []int{0}},
		{[]int{-30}, 0, []int{0}},
		{[]int{5, 5, 5}, 0, []int{0}},
		{[]int{-30, 30}, 60, []int{0}},
		// The room is one too little.
		{[]int{-30, 30}, 59, []int{0, 1}},
		{[]int{30, -30}, 59, []int{0, 1}},
		{[]int{30, 0, -30}, 59, []int{0, 2}},
		{[]int{30, 0, -30}, 30, []int{0, 2}},
		{[]int{30, 0, -30}, 29, []int{0, 1, 2}},
		{[]int{1, 2, 9, 10}, 0, []int{0, 1, 2, 3}},
		{[]int{1, 2, 9, 10}, 1, []int{0, 2}},
		{[]int{1, 2, 9, 10}, 7, []int{0, 2}},
		{[]int{1, 2, 9, 10}, 8, []int{0, 3}},
		{[]int{1, 2, 9, 10}, 9, []int{0}},
		{[]int{1, 2, 9, 10}, 60, []int{0}},
		// The first number of a piece is neither its least one nor its greatest one.
		{[]int{2, 0, 4}, 3, []int{0, 2}},
		{[]int{2, 4, 0}, 3, []int{0, 2}},
		{[]int{2, 0, 4}, 4, []int{0}},
		{eight, 0, []int{0, 1, 2, 3, 4, 5, 6, 7}},
		{eight, 1, []int{0, 2, 4, 6}},
		{eight, 2, []int{0, 3, 6}},
		{eight, 3, []int{0, 4}},
		{eight, 6, []int{0, 7}},
		{eight, 7, []int{0}},
		{reversed(eight), 2, []int{0, 3, 6}},
		{others, 2, []int{0, 2, 3, 4, 5, 6, 7}},
		{others, 3, []int{0, 4, 5, 6, 7}},
		{others, 4, []int{0, 5, 6}},
		{others, 7, []int{0, 5}},
		{others, 8, []int{0}},
		{slices.Repeat([]int{30, -30}, 4), 59, []int{0, 1, 2, 3, 4, 5, 6, 7}},
		{slices.Repeat([]int{30, -30}, 4), 60, []int{0}},
		{[]int{0, 0, 1, 1, 0, 0, 0, 1}, 0, []int{0, 2, 4, 7}},
	} {
		if got := impl.FewestPieces(c.list, c.room); !slices.Equal(got, c.want) {
			t.Errorf("FewestPieces(%v, %d) = %v, want %v", c.list, c.room, got, c.want)
		}
	}
}

func TestFewestPiecesOfManyNumbers(t *testing.T) {
	eachHeights(func(list []int) {
		for room := 0; room <= 2*impl.MaxHeight; room++ {
			if got, want := impl.FewestPieces(list, room), longestPieces(list, 0, room); !slices.Equal(got, want) {
				t.Errorf("FewestPieces(%v, %d) = %v, want %v", list, room, got, want)
			}
		}
	})
}

// Promise 64.
func TestTheGreedyWayNeedsTheFewestPieces(t *testing.T) {
	eachHeights(func(list []int) {
		rooms := roomsByPieces(list)
		for room := 0; room <= 2*impl.MaxHeight; room++ {
			got := impl.FewestPieces(list, room)
			if len(got) == 0 || got[0] != 0 || len(got) != len(impl.FewestPieces(reversed(list), room)) {
				t.Fatalf("FewestPieces(%v, %d) = %v, and the other way round %v", list, room, got, impl.FewestPieces(reversed(list), room))
			}
			for at, first := range got {
				end := len(list)
				if at+1 < len(got) {
					end = got[at+1]
				}
				if end <= first || roomBetween(list, first, end-1).Cmp(ratOf(room)) > 0 {
					t.Errorf("FewestPieces(%v, %d) = %v", list, room, got)
				}
			}
			if least := impl.LeastRoom(list, len(got)); least < 0 || least > room {
				t.Errorf("LeastRoom(%v, %d) = %d, and FewestPieces by the room %d are %v", list, len(got), least, room, got)
			}
			if fewer := len(got) - 1; fewer > 0 && rooms[fewer].Cmp(ratOf(room)) <= 0 {
				t.Errorf("FewestPieces(%v, %d) = %v, and %d pieces have the room %v", list, room, got, fewer, rooms[fewer])
			}
		}
	})
}

// Promise 65.
func TestRoomsByTheGreedyWayAreRoomsByTrying(t *testing.T) {
	eachHeights(func(list []int) {
		for pieces := 1; pieces <= impl.MaxRise; pieces++ {
			if got, want := impl.LeastRoom(list, pieces), impl.RoomTried(list, pieces); got != want {
				t.Errorf("LeastRoom(%v, %d) = %d, and by trying %d", list, pieces, got, want)
			}
		}
		if got, want := impl.LeastRoom(list, 1), slices.Max(list)-slices.Min(list); got != want {
			t.Errorf("LeastRoom(%v, 1) = %d, want %d", list, got, want)
		}
	})
}

// Promise 66.
func TestRoomsGoBothWays(t *testing.T) {
	eachHeights(func(list []int) {
		fewer := 2 * impl.MaxHeight
		for pieces := 1; pieces <= impl.MaxRise; pieces++ {
			got := impl.RoomTried(list, pieces)
			if other := impl.RoomTried(reversed(list), pieces); got < 0 || got > fewer || got != other {
				t.Errorf("RoomTried(%v, %d) = %d, the other way round %d, and with one piece fewer %d", list, pieces, got, other, fewer)
			}
			fewer = got
		}
	})
}

func TestOtherHeightsHaveFixedResults(t *testing.T) {
	for _, list := range badHeights() {
		for _, span := range append(badSpans(len(list)), [2]int{0, 0}, [2]int{0, len(list) - 1}) {
			checkNoPiece(t, list, span[0], span[1])
		}
		for _, pieces := range append(badPieces(), 1, 2, len(list), impl.MaxRise) {
			timesOver(func() { checkNoPieces(t, list, pieces) })
		}
		for _, price := range append(badPrices(), 0, 1, impl.MaxPrice) {
			timesOver(func() { checkNoPrice(t, list, price) })
		}
		for _, room := range append(badRooms(), 0, 1, 2*impl.MaxHeight) {
			checkNoRoom(t, list, room)
		}
	}
}

func TestOtherPiecesHaveFixedResults(t *testing.T) {
	eachHeights(func(list []int) {
		for _, span := range badSpans(len(list)) {
			checkNoPiece(t, list, span[0], span[1])
		}
		for _, pieces := range badPieces() {
			timesOver(func() { checkNoPieces(t, list, pieces) })
		}
		for _, price := range badPrices() {
			timesOver(func() { checkNoPrice(t, list, price) })
		}
		for _, room := range badRooms() {
			checkNoRoom(t, list, room)
		}
	})
}

// checkNoPiece checks what is told of indices, or of numbers, without a piece.
func checkNoPiece(t *testing.T, list []int, i, k int) {
	if got, ok := impl.PieceMiss(list, i, k); ok || got != (impl.Frac{}) {
		t.Errorf("PieceMiss(%v, %d, %d) = %v, %v", list, i, k, got, ok)
	}
}

// checkNoPieces checks what is told of numbers of pieces, or of numbers, that are not valid.
func checkNoPieces(t *testing.T, list []int, pieces int) {
	if got, ok := impl.PiecesMiss(list, pieces); ok || got != (impl.Frac{}) {
		t.Errorf("PiecesMiss(%v, %d) = %v, %v", list, pieces, got, ok)
	}
	if got, ok := impl.PiecesTried(list, pieces); ok || got != (impl.Frac{}) {
		t.Errorf("PiecesTried(%v, %d) = %v, %v", list, pieces, got, ok)
	}
	if got := impl.MiddlePieces(list, pieces); got != -1 {
		t.Errorf("MiddlePieces(%v, %d) = %d", list, pieces, got)
	}
	if got := impl.LeastRoom(list, pieces); got != -1 {
		t.Errorf("LeastRoom(%v, %d) = %d", list, pieces, got)
	}
	if got := impl.RoomTried(list, pieces); got != -1 {
		t.Errorf("RoomTried(%v, %d) = %d", list, pieces, got)
	}
}

// checkNoPrice checks what is told of prices, or of numbers, that are not valid.
func checkNoPrice(t *testing.T, list []int, price int) {
	if got, pieces, ok := impl.PricedPieces(list, price); ok || got != (impl.Frac{}) || pieces != 0 {
		t.Errorf("PricedPieces(%v, %d) = %v, %d, %v", list, price, got, pieces, ok)
	}
}

// checkNoRoom checks what is told of rooms, or of numbers, that are not valid.
func checkNoRoom(t *testing.T, list []int, room int) {
	if got := impl.FewestPieces(list, room); len(got) != 0 {
		t.Errorf("FewestPieces(%v, %d) = %v", list, room, got)
	}
}

func TestStepsLeaveArgumentsAlone(t *testing.T) {
	check := func(list []int) {
		// Numbers behind the end show whether spare memory of an argument is used.
		long := append(slices.Clone(list), 27, 28, 29)
		want := slices.Clone(long)
		list = long[:len(list)]
		timesOver(func() {
			impl.PieceMiss(list, 0, len(list)-1)
			impl.PiecesMiss(list, 3)
			impl.PiecesTried(list, 3)
			impl.PricedPieces(list, 2)
			impl.MiddlePieces(list, 3)
			impl.FewestPieces(list, 2)
			impl.LeastRoom(list, 3)
			impl.RoomTried(list, 3)
		})
		if !slices.Equal(long, want) {
			t.Errorf("%v became %v", want, long)
		}
	}
	eachHeights(check)
	for _, list := range badHeights() {
		check(list)
	}
}

func TestStepsGiveNewMemory(t *testing.T) {
	eachHeights(func(list []int) {
		for _, room := range []int{0, 1, 7, 2 * impl.MaxHeight} {
			checkNewRow(t, "FewestPieces", list, nil, func(list, _ []int) []int { return impl.FewestPieces(list, room) }, -9999)
		}
	})
}
