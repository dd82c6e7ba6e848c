package tests

import (
	"testing"

	"loop.example/g01256/impl"
)

type wakeCase struct {
	farm       impl.Farm
	i          int64
	x, y, turn float32
	wake, loss uint32
}

func wakeCases() []wakeCase {
	return []wakeCase{
		{park(), 0, 17.9, 2.1, 0, 0x3ea32aa2, 0x3ea32aa2},
		{park(), 0, 40, -3.3, 0.99, 0x3e30e669, 0x3e30e669},
		{park(), 2, 60, 1.1, -0.0625, 0x3e233e41, 0x3e233e41},
		{park(), 4, -100, 17.7, 0.4575, 0x3d08e05f, 0x3d890109},
		{park(), 1, 33.3, 300, 0.25, 0x3c2d1d3b, 0x3c946d99},
		{park(), 3, 0.5, 0.25, 0.4877, 0x00000000, 0x3e5d8975},
		{park(), 3, -250, 5, 7.51, 0x3c174591, 0x3cc5b637},
		{park(), 2, -40, -85, -1000.3333, 0x3d49cce4, 0x3da51d29},
		{crowd(), 0, 30, 14, 0.07, 0x3d3d78da, 0x3e9e762c},
		{crowd(), 11, -5, 9, 0.55, 0x3ceafa16, 0x3e9ccd0a},
		{crowd(), 5, 12.3, 70, 12.25, 0x3c90f0a2, 0x3d65a2e1},
		{crowd(), 7, 33, -20, -0.2625, 0x3d38cdb8, 0x3dc794d3},
		{crowd(), 10, 15, 36, 0.36, 0x3e177e19, 0x3e232f21},
		{crowd(), 3, 34.5, 1.6, 0.01, 0x3f34c80a, 0x3f3af673},
		{crowd(), 6, 2000, 1900, 0.1214, 0x372b9245, 0x38143b9f},
		// So near to the edge that a product that is not rounded on its own is at the other side of it.
		{park(), 2, 9.759459, 5.12568, 0.6862443, 0x3ed29e8a, 0x3ed29e8a}, {park(), 2, 60.33587, -18.156586, 0.9243122, 0x3e07ac1b, 0x3ed0c9ec}, {park(), 2, -6.1560764, -3.8308878, 0.62916183, 0x3e6beb51, 0x3f017c2a},
		{park(), 2, 40.26977, -2.8584566, 0.9380635, 0x00000000, 0x3ed24ec0}, {park(), 2, -9.395109, 60.04118, 0.35716614, 0x00000000, 0x3deb410e}, {park(), 2, 20.133768, -25.22528, 0.73071206, 0x00000000, 0x00000000},
	}
}

func TestWakeAtAndLossAt(t *testing.T) {
	for _, c := range wakeCases() {
		wake, ok := impl.WakeAt(c.farm, c.i, c.x, c.y, c.turn)
		wantNumber(t, "wake", wake, ok, c.wake)
		loss, ok := impl.LossAt(c.farm, c.x, c.y, c.turn)
		wantNumber(t, "loss", loss, ok, c.loss)
	}
}

// turnedPlace returns where a place is behind some quarters of a turn around 0.
func turnedPlace(x, y float32, quarters int) (float32, float32) {
	for range quarters {
		x, y = -y, x
	}
	return x, y
}

// turnsOf returns turns that are all the same quarters, with whole turns more and less.
func turnsOf(quarters int) []float32 {
	turn := float32(quarters) / 4
	return []float32{turn, turn - 1, turn + 1, turn - 5, turn + 12, turn - 1000, turn + 100000, turn + 2097152, turn - 2097152}
}

// edgeCases has places around the first rotor of pair, in a wind that goes to greater X.
func edgeCases() [][3]float32 {
	tiny := num(leastSub)
	return [][3]float32{
		// Just before, at and just behind the rotor.
		{-1, 0, 0}, {-tiny, 0, 0}, {0, 0, 0}, {num(minusZero), num(minusZero), 0}, {tiny, 0, 1}, {num(leastNorm), 0, 1}, {num(0x33000000), 0, 1},
		{-tiny, 0.5, 0}, {0, 0.5, 0}, {0, -1, 0}, {tiny, 0.5, 1}, {tiny, -0.5, 1}, {tiny, 1, 1}, {tiny, -1, 1}, {tiny, above(1), 0}, {tiny, below(-1), 0},
		// At the edge, and just inside and outside.
		{2, 0, 0.25}, {2, 1.5, 0.25}, {2, below(2), 0.25}, {2, 2, 0.25}, {2, above(2), 0}, {2, above(-2), 0.25}, {2, -2, 0.25}, {2, below(-2), 0}, {2, 1e30, 0},
		{6, 4, 0.0625}, {6, -4, 0.0625}, {6, above(4), 0}, {6, below(-4), 0}, {14, 7.5, 0.015625}, {14, 8, 0.015625}, {14, -8.5, 0},
		{-2, 0, 0}, {-2, 2, 0}, {-6, -4, 0}, {-2, 1e-30, 0}, {-num(greatest), 1, 0},
	}
}

func TestWakeAtEdges(t *testing.T) {
	for quarters := range 4 {
		for _, turn := range turnsOf(quarters) {
			for _, c := range edgeCases() {
				x, y := turnedPlace(c[0], c[1], quarters)
				wake, ok := impl.WakeAt(pair(), 0, x, y, turn)
				if !ok || bitsOf(wake) != bitsOf(c[2]) {
					t.Errorf("at %v and %v, to %v: got %v %v, want %v", x, y, turn, wake, ok, c[2])
				}
				loss, ok := impl.LossAt(farmAt([]float32{0}, []float32{0}), x, y, turn)
				if !ok || bitsOf(loss) != bitsOf(c[2]) {
					t.Errorf("at %v and %v, to %v: got the loss %v %v, want %v", x, y, turn, loss, ok, c[2])
				}
			}
		}
	}
}

func TestWakeAtEdgesOfOtherRotors(t *testing.T) {
	// All of these places and ways are told without rounding.
	for _, from := range [][2]float32{{3, -5}, {-64, 0.5}, {0, 100}} {
		f := farmAt([]float32{9, from[0]}, []float32{9, from[1]})
		for quarters := range 4 {
			for _, c := range [][3]float32{{-2, 0, 0}, {0, 0, 0}, {0, 1, 0}, {2, 0, 0.25}, {2, 2, 0.25}, {2, -2, 0.25}, {2, 2.0625, 0}, {2, -2.0625, 0}, {6, 4, 0.0625}, {6, 4.0625, 0}} {
				x, y := turnedPlace(c[0], c[1], quarters)
				wake, ok := impl.WakeAt(f, 1, from[0]+x, from[1]+y, float32(quarters)/4)
				wantNumber(t, "a wake", wake, ok, bitsOf(c[2]))
			}
		}
	}
}

func TestWakeOfOwnPlaceIsNothing(t *testing.T) {
	for _, f := range someFarms() {
		for i := range f.X {
			for _, turn := range []float32{0, num(minusZero), 0.125, 0.25, 0.3, 0.5, 0.75, -0.1, 1, 7.7, 1e9, num(0x59800000), num(greatest), -num(greatest), num(leastSub)} {
				wake, ok := impl.WakeAt(f, int64(i), f.X[i], f.Y[i], turn)
				wantNumber(t, "a wake at the rotor's own place", wake, ok, plusZero)
			}
		}
	}
}

func TestWakeAtExample(t *testing.T) {
	wake, ok := impl.WakeAt(pair(), 0, 2, 0, 0)
	wantNumber(t, "behind a rotor", wake, ok, bitsOf(0.25))
	wake, ok = impl.WakeAt(pair(), 0, 0, 0, 0)
	wantNumber(t, "at its own place", wake, ok, plusZero)
}

func TestWakeAtOddNumbers(t *testing.T) {
	with := func(radius, draw, spread float32) impl.Farm {
		return changedFarm(pair(), func(f *impl.Farm) { f.Radius, f.Draw, f.Spread = radius, draw, spread })
	}
	most, tiny := num(greatest), num(leastSub)
	for _, c := range []struct {
		farm       impl.Farm
		x, y, turn float32
		wanted     uint32
	}{
		{with(1, 0, 0.5), 2, 0, 0, plusZero}, {with(1, num(minusZero), 0.5), 2, 0, 0, minusZero}, {with(1, num(minusZero), 0.5), -2, 0, 0, plusZero}, {with(1, num(minusZero), 0.5), 2, 3, 0, plusZero},
		{with(1, tiny, 0.5), tiny, 0, 0, 2}, {with(1, tiny, 0.5), 2, 0, 0, plusZero}, {with(1, 3*tiny, 0.5), 0.5, 0, 0, 4}, {with(1, num(0x3effffff), 0.5), tiny, 1, 0, 0x3f7fffff},
		// Ways and edges beyond all numbers.
		{pair(), most, 0, 0, plusZero}, {pair(), most, most, 0.125, plusZero}, {with(1, num(minusZero), 0.5), most, most, 0.125, minusZero}, {with(1, num(minusZero), 0.5), -most, -most, 0.125, plusZero},
		{with(1, num(minusZero), most), 4, most, 0, minusZero}, {with(1, num(minusZero), most), tiny, 1, 0, minusZero}, {with(1, num(minusZero), most), tiny, 2, 0, plusZero}, {with(1, 0.5, most), 4, 0, 0, plusZero},
		{with(1, num(minusZero), 0.5), most, -most, 0.125, plusZero}, {with(1, num(minusZero), 0.5), most, -most, 0.875, minusZero},
		// Without any sine, there is no way at all.
		{with(1, num(minusZero), most), 5, 5, num(0x59800000), plusZero}, {with(1, num(minusZero), most), 5, 5, -most, plusZero}, {pair(), 2, 0, num(0x59800000), plusZero},
		// The edge is told by rounded numbers.
		{with(num(wide), 0.5, 1), 1000, 2000, 0, 0x3e800000}, {with(num(wide), 0.5, 1), 1000, above(2000), 0, plusZero}, {with(tiny, 0.5, tiny), tiny, tiny, 0, 0x3f800000}, {with(tiny, 0.5, tiny), tiny, 2 * tiny, 0, plusZero},
		{with(tiny, 0.5, 1), tiny, 2 * tiny, 0, 0x3e800000}, {with(tiny, 0.5, 1), tiny, 3 * tiny, 0, plusZero}, {with(tiny, 0.5, 0.75), 4 * tiny, 4 * tiny, 0, 0x3d800000},
	} {
		wake, ok := impl.WakeAt(c.farm, 0, c.x, c.y, c.turn)
		if !ok || bitsOf(wake) != c.wanted {
			t.Errorf("%v at %v and %v, to %v: got %08x %v, want %08x", c.farm, c.x, c.y, c.turn, bitsOf(wake), ok, c.wanted)
		}
	}
}

func TestLossAtManyWakes(t *testing.T) {
	for _, c := range []struct {
		draw   float32
		losses []uint32
	}{
		{0.5, []uint32{0x3f800000, 0x3f800000, 0x3f800000, 0x3f800000, 0x3f800000, 0x3f800000, 0x3f800000, 0x3f800000, 0x3f800000, 0x3f800000, 0x3f800000, 0x3f800000}},
		{0.25, []uint32{0x3f000000, 0x3f3504f3, 0x3f5db3d7, 0x3f800000, 0x3f800000, 0x3f800000, 0x3f800000, 0x3f800000, 0x3f800000, 0x3f800000, 0x3f800000, 0x3f800000}},
		{0.125, []uint32{0x3e800000, 0x3eb504f3, 0x3eddb3d7, 0x3f000000, 0x3f0f1bbd, 0x3f1cc471, 0x3f2953fd, 0x3f3504f3, 0x3f400000, 0x3f4a62c2, 0x3f544395, 0x3f5db3d7}},
		{0, make([]uint32, impl.MaxRotors)}, {num(minusZero), make([]uint32, impl.MaxRotors)},
	} {
		for i, wanted := range c.losses {
			// Rotors at the same place, all of which take as much.
			f := changedFarm(farmAt(ones(i+1), ones(i+1)), func(f *impl.Farm) { f.Draw = c.draw })
			loss, ok := impl.LossAt(f, above(1), 1, 0)
			wantNumber(t, "the loss behind rotors at the same place", loss, ok, wanted)
			loss, ok = impl.LossAt(f, 1, 1, 0)
			wantNumber(t, "the loss at them", loss, ok, plusZero)
			loss, ok = impl.LossAt(f, above(1), 1, 0.5)
			wantNumber(t, "the loss before them", loss, ok, plusZero)
		}
	}
}

func TestWakesOfWrongArguments(t *testing.T) {
	for _, f := range someFarms() {
		for _, i := range wrongRotorsOf(f) {
			x, ok := impl.WakeAt(f, i, 2, 0, 0)
			wantNoSum(t, "wake of no rotor", x, ok)
		}
		for _, odd := range notFinite() {
			for _, c := range [][3]float32{{odd, 0, 0}, {2, odd, 0}, {2, 0, odd}, {odd, odd, odd}} {
				x, ok := impl.WakeAt(f, 0, c[0], c[1], c[2])
				wantNoSum(t, "wake", x, ok)
				x, ok = impl.LossAt(f, c[0], c[1], c[2])
				wantNoSum(t, "loss", x, ok)
			}
			list, ok := impl.SpeedsInFarm(f, odd, 3)
			wantNoLists(t, "speeds", list, nil, ok)
		}
		for _, speed := range notAmounts() {
			list, ok := impl.SpeedsInFarm(f, 0, speed)
			wantNoLists(t, "speeds of a wrong wind", list, nil, ok)
		}
	}
}

func TestSpeedsInFarm(t *testing.T) {
	for _, c := range []struct {
		farm        impl.Farm
		turn, speed float32
		wanted      []float32
	}{
		{park(), 0.0, 7.7, nums(0x40f66666, 0x40c1cf72, 0x40f66666, 0x40bc80b6, 0x40f66666)},
		{park(), 0.0625, 11.3, nums(0x4134cccd, 0x4134cccd, 0x4100c488, 0x4134cccd, 0x4134cccd)},
		{park(), -0.3, 8.1, nums(0x4101999a, 0x4101999a, 0x4101999a, 0x4101999a, 0x4101999a)},
		{park(), 0.5, 3.3, nums(0x4022181f, 0x402e7a3c, 0x403817f2, 0x40533333, 0x40533333)},
		{crowd(), 0, 9.9, nums(0x411e6666, 0x40fbad9c, 0x40f8b535, 0x40fa8d69, 0x411e6666, 0x40f77173, 0x40fc9f7b, 0x40fafcb8, 0x411e6666, 0x4104a112, 0x40e859b2, 0x410194d4)},
		{crowd(), 0.25, 9.9, nums(0x411e6666, 0x411e6666, 0x411e6666, 0x411e6666, 0x40fda6d4, 0x4104a112, 0x40e7ed93, 0x40fd0102, 0x40f9901c, 0x40e76a61, 0x4102985e, 0x40fb6102)},
		{crowd(), 0.1, 6.1, nums(0x40c33333, 0x40c33333, 0x40c33333, 0x40c33333, 0x40c33333, 0x40ab8f33, 0x40a7f876, 0x40a852cf, 0x40c33333, 0x40a8712e, 0x40882a21, 0x40a6fd21)},
		{crowd(), -0.41, 13.7, nums(0x41388680, 0x41249336, 0x41403a65, 0x415b3333, 0x41379093, 0x4138da2c, 0x4141575f, 0x415b3333, 0x415b3333, 0x4124aa7a, 0x415b3333, 0x415b3333)},
		{crowd(), 1000.6, 25.3, nums(0x41abba67, 0x41ad91c2, 0x41b18b1d, 0x41ca6666, 0x41aacb3b, 0x41ab1239, 0x41b2f6ea, 0x41ca6666, 0x41ca6666, 0x41972409, 0x41ca6666, 0x41ca6666)},
		{pair(), 0, 4, []float32{4, 3}}, {pair(), 0.5, 4, []float32{3, 4}}, {pair(), 0.25, 4, []float32{4, 4}}, {pair(), 0.75, 4, []float32{4, 4}}, {farmAt([]float32{7}, []float32{8}), 0.3, 4, []float32{4}},
		// Nothing is left just behind a rotor, and nothing is taken at the same place.
		{farmAt([]float32{0, num(leastSub)}, []float32{0, 1}), 0, 4, []float32{4, 0}}, {farmAt([]float32{0, num(leastSub)}, []float32{0, 1}), 0.5, 4, []float32{0, 4}}, {farmAt(ones(5), ones(5)), 0, 4, []float32{4, 4, 4, 4, 4}},
		{farmAt([]float32{0, 1, 2, 3}, make([]float32, 4)), 0, 0.5, nums(0x3f000000, 0x3e8e38e3, 0x3e7aea2a, 0x3e6e5d4c)},
		{pair(), 0, 0, []float32{0, 0}}, {pair(), 0, num(minusZero), nums(minusZero, minusZero)}, {pair(), 0, num(greatest), nums(greatest, 0x7f3fffff)}, {pair(), 0, num(leastSub), nums(leastSub, leastSub)},
		{park(), num(greatest), 3, []float32{3, 3, 3, 3, 3}}, {pair(), num(minusZero), 4, []float32{4, 3}}, {pair(), -1, 4, []float32{4, 3}},
	} {
		got, ok := impl.SpeedsInFarm(c.farm, c.turn, c.speed)
		wantLists(t, "speeds", got, nil, ok, c.wanted, nil)
	}
}
