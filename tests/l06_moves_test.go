package tests

import (
	"math"
	"testing"

	"loop.example/g01256/impl"
)

func TestNearestPlaces(t *testing.T) {
	far := num(farOff)
	for _, c := range []struct {
		farm     impl.Farm
		i, k     int64
		distance uint32
	}{
		{pair(), 0, 1, 0x40000000}, {park(), 1, 2, 0x41867c57}, {crowd(), 2, 6, 0x4101a3b6},
		{farmAt([]float32{0, 3}, []float32{0, 4}), 0, 1, 0x40a00000}, {farmAt([]float32{0, -3}, []float32{0, -4}), 0, 1, 0x40a00000}, {farmAt([]float32{5, 5}, []float32{7, 7}), 0, 1, plusZero},
		{farmAt([]float32{far, -far}, []float32{-far, far}), 0, 1, 0x488a1b57}, {farmAt([]float32{0, num(leastSub)}, []float32{0, 0}), 0, 1, plusZero}, {farmAt([]float32{0, 1e-15}, []float32{0, 1e-15}), 0, 1, 0x26cbcf45},
		// Each pair of four can be the nearest one.
		{farmAt([]float32{0, 1, 8, 16}, make([]float32, 4)), 0, 1, 0x3f800000}, {farmAt([]float32{0, 8, 1, 16}, make([]float32, 4)), 0, 2, 0x3f800000}, {farmAt([]float32{0, 16, 8, 1}, make([]float32, 4)), 0, 3, 0x3f800000},
		{farmAt([]float32{16, 0, 1, 8}, make([]float32, 4)), 1, 2, 0x3f800000}, {farmAt(make([]float32, 4), []float32{16, 0, 8, 1}), 1, 3, 0x3f800000}, {farmAt(make([]float32, 4), []float32{16, 8, 0, 1}), 2, 3, 0x3f800000},
		// The first ones of several that are equally near.
		{farmAt([]float32{0, 1, 2, 3}, make([]float32, 4)), 0, 1, 0x3f800000}, {farmAt([]float32{0, 8, 1, 9}, make([]float32, 4)), 0, 2, 0x3f800000}, {farmAt([]float32{8, 0, 20, 9, 1}, make([]float32, 5)), 0, 3, 0x3f800000},
		{farmAt([]float32{20, 0, 8, 9, 1}, make([]float32, 5)), 1, 4, 0x3f800000}, {farmAt([]float32{20, 0, 9, -1, 1}, make([]float32, 5)), 1, 3, 0x3f800000}, {farmAt(make([]float32, 12), make([]float32, 12)), 0, 1, plusZero},
		// Distances are equal where they have been rounded, even if the squares are not.
		{farmAt([]float32{0, 1, 100, 101}, []float32{0, 0.0003, 0, 0}), 0, 1, 0x3f800000}, {farmAt([]float32{100, 101, 0, 1}, []float32{0, 0, 0, 0.0003}), 0, 1, 0x3f800000},
		{farmAt([]float32{0, 1, 100, 101}, []float32{0, 0.0007, 0, 0}), 2, 3, 0x3f800000},
		{farmAt([]float32{0, 1e-30, 9, 9}, []float32{0, 0, 3, 3}), 0, 1, plusZero},
	} {
		i, k, distance, ok := impl.NearestPlaces(c.farm)
		if i != c.i || k != c.k {
			t.Errorf("%v: got %v and %v, want %v and %v", c.farm, i, k, c.i, c.k)
		}
		wantNumber(t, "distance", distance, ok, c.distance)
	}
}

func TestNearestPlacesOfOneRotor(t *testing.T) {
	for _, f := range append(wrongFarms(), farmAt([]float32{0}, []float32{0}), farmAt([]float32{7}, []float32{-8})) {
		i, k, distance, ok := impl.NearestPlaces(f)
		if ok || i != 0 || k != 0 || bitsOf(distance) != plusZero {
			t.Errorf("%v: got %v %v %v %v, want none", f, i, k, distance, ok)
		}
	}
}

type moveCase struct {
	farm             impl.Farm
	rose             impl.Rose
	i                int64
	step, side, near float32
	x, y             uint32
	move             int64
}

func moveCases() []moveCase {
	return []moveCase{
		{park(), fullRose(), 0, 7.1, 80, 0, 0x40eccccd, 0x3f333333, 1},
		{park(), fiveSectors(), 1, 3.3, 100, 5, 0x41fd999a, 0x40466666, 0},
		{park(), otherSectors(), 1, 1.7, 37, 9.5, 0x4205999a, 0x40466666, 1},
		{park(), fullRose(), 1, 7.1, 80, 0, 0x41c4cccd, 0x40466666, 2},
		{park(), fiveSectors(), 2, 3.3, 100, 5, 0x418f3333, 0x41800000, 3},
		{park(), otherSectors(), 2, 1.7, 37, 9.5, 0x418f3333, 0x41666666, 3},
		{park(), fiveSectors(), 3, 3.3, 100, 5, 0x428e999a, 0x40266667, 4},
		{park(), otherSectors(), 3, 1.7, 37, 9.5, 0x428e999a, 0x40bccccd, 0},
		{park(), fullRose(), 4, 7.1, 80, 0, 0x42306666, 0xc164cccd, 0},
		{crowd(), fiveSectors(), 0, 3.3, 100, 5, 0x3f666666, 0x3fa66666, 0},
		{crowd(), fiveSectors(), 1, 3.3, 100, 5, 0x40fccccc, 0x3ecccccd, 2},
		{crowd(), otherSectors(), 1, 1.7, 37, 9.5, 0x41333333, 0x3ecccccd, 0},
		{crowd(), fullRose(), 2, 7.1, 80, 0, 0x416ccccc, 0x4039999a, 2},
		{crowd(), fullRose(), 3, 7.1, 80, 0, 0x4220cccc, 0x3fd9999a, 1},
		{crowd(), fiveSectors(), 4, 3.3, 100, 5, 0x40266666, 0x41099999, 4},
		{crowd(), fiveSectors(), 5, 3.3, 100, 5, 0x4144cccd, 0x41833333, 3},
		{crowd(), fullRose(), 6, 7.1, 80, 0, 0x41f66667, 0x412ccccd, 1},
		{crowd(), fiveSectors(), 7, 3.3, 100, 5, 0x420b999a, 0x410e6666, 4},
		{crowd(), fullRose(), 8, 7.1, 80, 0, 0x3f8ccccd, 0x41ee6667, 3},
		{crowd(), fiveSectors(), 9, 3.3, 100, 5, 0x415ccccd, 0x41c59999, 3},
		{crowd(), fiveSectors(), 10, 3.3, 100, 5, 0x41cc0000, 0x41c0cccd, 1},
		{crowd(), fullRose(), 11, 7.1, 80, 0, 0x42299999, 0x41ba6666, 1},
	}
}

func wantMove(t *testing.T, what string, got impl.Farm, move int64, ok bool, wanted impl.Farm, number int64) {
	t.Helper()
	if move != number {
		t.Errorf("%s: got the move %v, want %v", what, move, number)
	}
	wantFarm(t, what, got, ok, wanted)
}

func wantNoMove(t *testing.T, what string, got impl.Farm, move int64, ok bool) {
	t.Helper()
	want(t, what+", move", move, 0)
	wantNoFarm(t, what, got, ok)
}

func TestBestMove(t *testing.T) {
	for _, c := range moveCases() {
		got, move, ok := impl.BestMove(c.farm, c.rose, c.i, c.step, c.side, c.near)
		wantMove(t, "best move", got, move, ok, changedFarm(c.farm, func(f *impl.Farm) { f.X[c.i], f.Y[c.i] = num(c.x), num(c.y) }), c.move)
	}
}

// to returns the rose of a wind that goes to some quarters of a turn alone.
func to(quarters int) impl.Rose { return oneWay(quarters, 4, 1, 4) }

// ruleCase has where the second rotor of two goes, if the first one is at a place, in a wind.
type ruleCase struct {
	first, second    [2]float32
	quarters         int
	step, side, near float32
	move             int64
}

// rulesOfMoves has a wake of the rotor at 10 and 10 that touches the other one: without any rule, it goes out of it.
func rulesOfMoves() []ruleCase {
	at, inf := [2]float32{10, 10}, num(plusInf)
	nan := num(aNaN)
	return []ruleCase{
		// To both sides, the wake is left in the same way: the first one of both moves counts.
		{at, [2]float32{12, 10}, 0, 4, 20, 0, 3}, {at, [2]float32{8, 10}, 2, 4, 20, 0, 3}, {at, [2]float32{10, 12}, 1, 4, 20, 0, 1}, {at, [2]float32{10, 8}, 3, 4, 20, 0, 1},
		// The nearer edge of the wake is left.
		{at, [2]float32{12, 9}, 0, 1.5, 20, 0, 4}, {at, [2]float32{12, 11}, 0, 1.5, 20, 0, 3}, {at, [2]float32{11, 12}, 1, 1.5, 20, 0, 1}, {at, [2]float32{9, 12}, 1, 1.5, 20, 0, 2},
		// Where both edges are too far, the wake becomes less behind.
		{at, [2]float32{12, 10}, 0, 1, 20, 0, 1}, {at, [2]float32{8, 10}, 2, 1, 20, 0, 2}, {at, [2]float32{10, 12}, 1, 1, 20, 0, 3}, {at, [2]float32{10, 8}, 3, 1, 20, 0, 4},
		// At the edge, it is as before, but at the same place there is no wake at all.
		{at, [2]float32{12, 10}, 0, 2, 20, 0, 2}, {at, [2]float32{8, 10}, 2, 2, 20, 0, 1}, {at, [2]float32{10, 12}, 1, 2, 20, 0, 4}, {at, [2]float32{10, 8}, 3, 2, 20, 0, 3}, {at, [2]float32{12, 10}, 0, 2.001, 20, 0, 3},
		// Out of any wake, nothing is greater than without a move.
		{at, [2]float32{7, 10}, 1, 1, 20, 0, 0}, {at, [2]float32{13, 10}, 1, 1, 20, 0, 0}, {at, [2]float32{12, 13}, 0, 4, 20, 0, 0},
		// At the edges of a side, and just beyond.
		{at, [2]float32{12, 10}, 0, 4, 14, 0, 3}, {at, [2]float32{12, 10}, 0, 4, below(14), 0, 4}, {at, [2]float32{12, 10}, 0, 10, 20, 0, 3}, {at, [2]float32{12, 10}, 0, 10.001, 20, 0, 2}, {[2]float32{3, 10}, [2]float32{5, 10}, 0, 6, 16, 0, 3}, {[2]float32{3, 10}, [2]float32{5, 10}, 0, 10, 10, 0, 4},
		{[2]float32{3, 10}, [2]float32{5, 10}, 0, 10.001, 10, 0, 0}, {[2]float32{3, 10}, [2]float32{5, 10}, 0, 10, 20, 0, 3}, {[2]float32{3, 10}, [2]float32{5, 10}, 0, 10, below(20), 0, 4},
		{[2]float32{10, 3}, [2]float32{10, 5}, 1, 10, 20, 0, 1}, {[2]float32{10, 3}, [2]float32{10, 5}, 1, 10, below(20), 0, 2}, {[2]float32{10, 3}, [2]float32{10, 5}, 1, 10.001, 10, 0, 0}, {[2]float32{10, 3}, [2]float32{10, 5}, 1, 10, 10, 0, 2},
		{[2]float32{10, 15}, [2]float32{10, 13}, 3, 7, 10, 0, 4}, {[2]float32{15, 10}, [2]float32{13, 10}, 2, 7, 13, 0, 4}, {[2]float32{15, 10}, [2]float32{13, 10}, 2, 7, below(13), 0, 2},
		{at, [2]float32{12, 10}, 0, 4, inf, 0, 3}, {at, [2]float32{12, 10}, 0, 4, num(greatest), 0, 3}, {at, [2]float32{12, 10}, 0, 4, nan, 0, 0}, {at, [2]float32{12, 10}, 0, 4, -inf, 0, 0}, {at, [2]float32{12, 10}, 0, 4, -1, 0, 0}, {at, [2]float32{12, 10}, 0, 4, 0, 0, 0},
		// Only the coordinates of the rotor that moves must be within the side.
		{[2]float32{-2, 5}, [2]float32{0, 5}, 0, 4, 9, 0, 3}, {[2]float32{100, 5}, [2]float32{98, 5}, 2, 4, 99, 0, 3}, {[2]float32{-3, 5}, [2]float32{-1, 5}, 0, 1, 9, 0, 1}, {[2]float32{-3, 5}, [2]float32{-1, 5}, 0, 4, 9, 0, 1}, {[2]float32{5, -3}, [2]float32{5, -1}, 1, 4, 9, 0, 3}, {[2]float32{5, 99}, [2]float32{5, 12}, 3, 4, 9, 0, 4},
		// Nearer than near, as near, and any numbers.
		{at, [2]float32{12, 10}, 0, 1, 20, 3, 1}, {at, [2]float32{12, 10}, 0, 1, 20, above(3), 0}, {at, [2]float32{12, 10}, 0, 2, 20, num(leastSub), 1}, {at, [2]float32{12, 10}, 0, 2, 20, 4, 1}, {at, [2]float32{12, 10}, 0, 2, 20, above(4), 0}, {at, [2]float32{12, 10}, 0, 4, 20, 4.472136, 3}, {at, [2]float32{12, 10}, 0, 4, 20, above(4.472136), 1}, {at, [2]float32{12, 10}, 0, 4, 20, above(6), 0},
		{at, [2]float32{12, 10}, 0, 4, 20, nan, 0}, {at, [2]float32{12, 10}, 0, 4, 20, inf, 0}, {at, [2]float32{12, 10}, 0, 4, 20, -inf, 3}, {at, [2]float32{12, 10}, 0, 4, 20, -1, 3}, {at, [2]float32{12, 10}, 0, 4, inf, inf, 0}, {at, [2]float32{12, 10}, 0, 4, nan, nan, 0},
		// Farther than a farm goes, and a step that is lost in rounding.
		{[2]float32{99990, 10}, [2]float32{99999, 10}, 0, 3, inf, 0, 0}, {[2]float32{99990, 10}, [2]float32{99999, 10}, 0, 1, inf, 0, 1}, {[2]float32{10, 99990}, [2]float32{10, 99999}, 1, 1.0625, inf, 20, 0}, {at, [2]float32{12, 10}, 0, 1e-9, 20, 0, 0}, {at, [2]float32{12, 10}, 0, num(leastSub), 20, 0, 0}, {at, [2]float32{12, 10}, 0, num(greatest), inf, 0, 0},
	}
}

func TestBestMoveKeepsToItsRules(t *testing.T) {
	for k, c := range rulesOfMoves() {
		f := farmAt([]float32{c.first[0], c.second[0]}, []float32{c.first[1], c.second[1]})
		wanted := changedFarm(f, func(f *impl.Farm) {
			ways := [5][2]float32{{}, {c.step, 0}, {-c.step, 0}, {0, c.step}, {0, -c.step}}
			f.X[1], f.Y[1] = f.X[1]+ways[c.move][0], f.Y[1]+ways[c.move][1]
		})
		got, move, ok := impl.BestMove(f, to(c.quarters), 1, c.step, c.side, c.near)
		if !ok || move != c.move || !sameFarms(got, wanted) {
			t.Errorf("rule %v, %v: got the move %v to %v %v", k, c, move, got, ok)
		}
	}
}

func TestBestMoveOfZerosWithSigns(t *testing.T) {
	zero := num(minusZero)
	// A coordinate that is not moved keeps its sign.
	f := farmAt([]float32{-2, zero}, []float32{0, zero})
	got, move, ok := impl.BestMove(f, to(0), 1, 4, 9, 0)
	wantMove(t, "to greater Y", got, move, ok, farmAt([]float32{-2, zero}, []float32{0, 4}), 3)
	f = farmAt([]float32{0, zero}, []float32{-2, zero})
	got, move, ok = impl.BestMove(f, to(1), 1, 4, 9, 0)
	wantMove(t, "to greater X", got, move, ok, farmAt([]float32{0, 4}, []float32{-2, zero}), 1)
	f = farmAt([]float32{2, zero}, []float32{0, zero})
	got, move, ok = impl.BestMove(f, to(3), 1, 4, 9, 0)
	wantMove(t, "no move", got, move, ok, f, 0)
	got, move, ok = impl.BestMove(farmAt([]float32{3, 4}, []float32{zero, zero}), to(0), 1, 4, 0, 0)
	wantMove(t, "a side of nothing", got, move, ok, farmAt([]float32{3, 0}, []float32{zero, zero}), 2)
	got, move, ok = impl.BestMove(farmAt([]float32{3, 4}, []float32{zero, zero}), to(0), 1, 4, zero, 0)
	wantMove(t, "a side of nothing with a sign", got, move, ok, farmAt([]float32{3, 0}, []float32{zero, zero}), 2)
}

func TestBestMoveOfNearOthers(t *testing.T) {
	// Two rotors that are nearer than near let no other one move.
	f := farmAt([]float32{0, 10, 12}, []float32{0, 10, 10})
	near := func(x float32) impl.Farm { return changedFarm(f, func(f *impl.Farm) { f.X[0], f.Y[0] = 10, 10-x }) }
	got, move, ok := impl.BestMove(near(3), to(0), 2, 4, 20, 3)
	wantMove(t, "others that are as near", got, move, ok, changedFarm(near(3), func(f *impl.Farm) { f.Y[2] = 14 }), 3)
	got, move, ok = impl.BestMove(near(3), to(0), 2, 4, 20, above(3))
	wantMove(t, "others that are nearer", got, move, ok, near(3), 0)
	one := farmAt([]float32{5}, []float32{5})
	for _, x := range []float32{0, 3, num(plusInf), num(aNaN)} {
		got, move, ok := impl.BestMove(one, fullRose(), 0, 1, 20, x)
		wantMove(t, "one rotor, which has no wake to leave", got, move, ok, one, 0)
	}
}

func TestBestMoveOfWrongArguments(t *testing.T) {
	for _, c := range moveCases()[:6] {
		for _, i := range wrongRotorsOf(c.farm) {
			got, move, ok := impl.BestMove(c.farm, c.rose, i, c.step, c.side, c.near)
			wantNoMove(t, "a move of no rotor", got, move, ok)
		}
		for _, step := range notPositive() {
			got, move, ok := impl.BestMove(c.farm, c.rose, c.i, step, c.side, c.near)
			wantNoMove(t, "a wrong step", got, move, ok)
			for rounds := range int64(3) {
				got, moves, ok := impl.ImproveFarm(c.farm, c.rose, step, c.side, c.near, rounds)
				wantNoMove(t, "rounds of a wrong step", got, moves, ok)
			}
		}
		for _, r := range wrongRoses() {
			got, move, ok := impl.BestMove(c.farm, r, c.i, c.step, c.side, c.near)
			wantNoMove(t, "a wrong rose", got, move, ok)
			for rounds := range int64(3) {
				got, moves, ok := impl.ImproveFarm(c.farm, r, c.step, c.side, c.near, rounds)
				wantNoMove(t, "rounds of a wrong rose", got, moves, ok)
			}
		}
		for _, rounds := range []int64{-1, 11, 12, 100, 1 << 32, 1<<32 + 3, math.MaxInt64, math.MinInt64} {
			got, moves, ok := impl.ImproveFarm(c.farm, c.rose, c.step, c.side, c.near, rounds)
			wantNoMove(t, "wrong rounds", got, moves, ok)
		}
	}
	for _, f := range wrongFarms() {
		for rounds := range int64(3) {
			got, moves, ok := impl.ImproveFarm(f, fullRose(), 1, 100, 0, rounds)
			wantNoMove(t, "rounds of a wrong farm", got, moves, ok)
		}
	}
}

func TestBestMoveWithoutPower(t *testing.T) {
	strong := oneWay(0, 4, 1, 1e13)
	got, move, ok := impl.BestMove(park(), strong, 1, 3, 100, 0)
	wantNoMove(t, "no power without a move", got, move, ok)
	got, moves, ok := impl.ImproveFarm(park(), strong, 3, 100, 0, 1)
	wantNoMove(t, "a round without power", got, moves, ok)
	got, moves, ok = impl.ImproveFarm(park(), strong, 3, 100, 0, 0)
	wantMove(t, "no round", got, moves, ok, park(), 0)
	// Out of the wake, there is more power than the greatest number.
	f := changedFarm(drawn(1.0/3), func(f *impl.Farm) { f.Y[0], f.Y[1] = 10, 10 })
	full := oneWay(0, 4, 1.02e38, 1.2599211)
	power, ok := impl.FarmPower(f, full, 1)
	want(t, "power in the wake", ok && power > 2.9e38, true)
	got, move, ok = impl.BestMove(f, full, 1, 4, 20, 0)
	wantNoMove(t, "no power behind a move", got, move, ok)
	got, moves, ok = impl.ImproveFarm(f, full, 4, 20, 0, 1)
	wantNoMove(t, "a round without power behind a move", got, moves, ok)
	got, move, ok = impl.BestMove(f, full, 1, 4, 20, 10)
	wantMove(t, "a move that does not count needs no power", got, move, ok, f, 0)
}

type roundsCase struct {
	farm             impl.Farm
	rose             impl.Rose
	step, side, near float32
	rounds           int64
	x, y             []float32
	moves            int64
}

func roundsCases() []roundsCase {
	return []roundsCase{
		{park(), fiveSectors(), 3.3, 100, 5, 1, nums(0x3e99999a, 0x41fd999a, 0x418f3333, 0x42953334, 0x42306666), nums(0x3f333333, 0x40466666, 0x41800000, 0x40bccccd, 0xc164cccd), 2},
		{park(), fiveSectors(), 3.3, 100, 5, 2, nums(0x3e99999a, 0x41fd999a, 0x41699999, 0x429bccce, 0x42306666), nums(0x3f333333, 0x40466666, 0x41800000, 0x40bccccd, 0xc164cccd), 4},
		{park(), fiveSectors(), 3.3, 100, 5, 10, nums(0x3e99999a, 0x41fd999a, 0x418f3333, 0x42c3666a, 0x42306666), nums(0x3f333333, 0x40466666, 0x41b4cccc, 0x40bccccd, 0xc164cccd), 13},
		{park(), otherSectors(), 1.7, 60, 7.5, 10, nums(0x3e999998, 0x42353335, 0x41319999, 0x428e999a, 0x42306666), nums(0x3f333333, 0x40466666, 0x419c0001, 0x40bccccd, 0xc164cccd), 18},
		// Behind a round in which nothing has moved, nothing moves any more.
		{park(), fullRose(), 7.1, 80, 0, 3, nums(0x3e9999a0, 0x41c4cccd, 0x418f3333, 0x429ccccd, 0x42306666), nums(0x3f333333, 0x40466666, 0x41d73333, 0x41500000, 0xc164cccd), 7},
		{park(), fullRose(), 7.1, 80, 0, 10, nums(0x3e9999a0, 0x41c4cccd, 0x418f3333, 0x429ccccd, 0x42306666), nums(0x3f333333, 0x40466666, 0x41d73333, 0x41500000, 0xc164cccd), 7},
		{
			crowd(), fiveSectors(), 3.3, 100, 5, 10,
			nums(0x3f666666, 0x40fccccc, 0x41af3333, 0x421ecccc, 0x40266666, 0x4144cccd, 0x41bd999a, 0x42333333, 0x408ccccd, 0x415ccccd, 0x41e66666, 0x424f3332),
			nums(0x3fa66666, 0x3ecccccd, 0x40c66666, 0x3fd9999a, 0x413e6666, 0x419d9999, 0x41bfffff, 0x410e6666, 0x41ea6666, 0x41c59999, 0x41f59999, 0x41ba6666), 29,
		},
		{
			crowd(), otherSectors(), 1.7, 60, 7.5, 10,
			nums(0x3f666666, 0x41180000, 0x41ca6667, 0x4241999b, 0x3f666668, 0x41600000, 0x41b00000, 0x424f999c, 0x3f8ccccd, 0x415ccccd, 0x41ccccce, 0x4243999b),
			nums(0x3fa66666, 0x3ecccccd, 0x3f99999a, 0x4059999a, 0x41880000, 0x41840000, 0x418ccccd, 0x41433333, 0x42180002, 0x4212ccce, 0x42093334, 0x41d5999a), 78,
		},
		{
			crowd(), fullRose(), 7.1, 80, 0, 1,
			nums(0x3f666666, 0x41926666, 0x41af3333, 0x4220cccc, 0x40266666, 0x4144cccd, 0x41f66667, 0x42280000, 0x3f8ccccd, 0x40d66667, 0x41b1999a, 0x42299999),
			nums(0x3fa66666, 0x3ecccccd, 0x4039999a, 0x3fd9999a, 0x413e6666, 0x4151999a, 0x412ccccd, 0x41433333, 0x41ee6667, 0x41ab3333, 0x41f9999a, 0x41ba6666), 8,
		},
		{pair(), fiveSectors(), 3.3, 100, 5, 1, nums(plusZero, 0x40a9999a), []float32{0, 0}, 1}, {pair(), fiveSectors(), 3.3, 100, 5, 10, nums(plusZero, 0x420bffff), []float32{0, 0}, 12},
		{pair(), otherSectors(), 1.7, 60, 7.5, 10, []float32{0, 2}, []float32{0, 0}, 0}, {pair(), fullRose(), 7.1, 80, 0, 10, nums(plusZero, 0x4181999a), nums(0x428dffff, plusZero), 12},
	}
}

func TestImproveFarm(t *testing.T) {
	for _, c := range roundsCases() {
		got, moves, ok := impl.ImproveFarm(c.farm, c.rose, c.step, c.side, c.near, c.rounds)
		wanted := changedFarm(c.farm, func(f *impl.Farm) { f.X, f.Y = c.x, c.y })
		wantMove(t, "an improved farm", got, moves, ok, wanted, c.moves)
	}
}

func TestImproveFarmRoundByRound(t *testing.T) {
	for _, c := range roundsCases() {
		f, moves := c.farm, int64(0)
		for rounds := int64(0); rounds <= 10; rounds++ {
			got, count, ok := impl.ImproveFarm(c.farm, c.rose, c.step, c.side, c.near, rounds)
			wantMove(t, "rounds", got, count, ok, f, moves)
			for i := range f.X {
				next, move, ok := impl.BestMove(f, c.rose, int64(i), c.step, c.side, c.near)
				want(t, "success", ok, true)
				if f = next; move > 0 {
					moves++
				}
			}
		}
	}
}

func TestImproveFarmWithOddSides(t *testing.T) {
	nan, inf := num(aNaN), num(plusInf)
	for _, c := range [][2]float32{{nan, 0}, {-inf, 0}, {-1, 0}, {100, nan}, {100, inf}, {100, 1000}, {nan, nan}} {
		for _, rounds := range []int64{0, 1, 10} {
			for _, f := range []impl.Farm{pair(), park(), crowd()} {
				got, moves, ok := impl.ImproveFarm(f, fullRose(), 2, c[0], c[1], rounds)
				wantMove(t, "rounds in which nothing moves", got, moves, ok, f, 0)
			}
		}
	}
	for _, side := range []float32{1000, num(greatest), inf} {
		for _, near := range []float32{0, num(minusZero), -1, -inf} {
			first, moves, ok := impl.ImproveFarm(crowd(), fullRose(), 2, 1000, 0, 3)
			got, again, two := impl.ImproveFarm(crowd(), fullRose(), 2, side, near, 3)
			want(t, "moves", ok && moves > 0, true)
			wantMove(t, "a side and a near that are met by all", got, again, two, first, moves)
		}
	}
}
