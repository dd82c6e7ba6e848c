package tests

import (
	"slices"
	"testing"

	"loop.example/g01256/impl"
)

func TestExamplesOfYaw(t *testing.T) {
	got, ok := impl.YawStep(0, 0.25, 0.125, 0)
	wantNumber(t, "yaw of the example", got, ok, bitsOf(0.125))
	got, ok = impl.YawStep(0, 0.25, 0.125, 0.25)
	wantNumber(t, "yaw that stays", got, ok, plusZero)
}

func TestYawStep(t *testing.T) {
	for _, c := range [][5]uint32{
		{0x3dcccccd, 0x3e99999a, 0x3d8f5c29, 0x3c23d70a, 0x3e2e147b}, {0x3dcccccd, 0x3e99999a, 0x3d8f5c29, 0x3e570a3d, 0x3dcccccd},
		{0x3dcccccd, 0x3e99999a, 0x3e6b851f, 0x3c23d70a, 0x3e99999a}, {0x3e99999a, 0x3dcccccd, 0x3d8f5c29, 0x3c23d70a, 0x3e6b8520},
		{0x3e99999a, 0x3dcccccd, 0x3e6b851f, 0x3c23d70a, 0x3dcccccc}, {0x3e99999a, 0x3dcccccd, 0x3d8f5c29, 0x3e8a3d71, 0x3e99999a},
		{0x3ee66666, 0xbebd70a4, 0x3de147ae, 0x3cf5c28f, 0xbee147ae}, {0x3ee66666, 0xbebd70a4, 0x3e9eb852, 0x3cf5c28f, 0xbebd70a4},
		{0xbed1eb85, 0x3ea8f5c3, 0x3e2e147b, 0x3b449ba6, 0x3ed70a3e}, {0x40f8a3d7, 0xc04d70a4, 0x3c54fdf4, 0x3a83126f, 0xbe5e3540},
		{0xc2053333, 0x42cb6666, 0x3db851ec, 0x3ca3d70a, 0xbe999980}, {0x449a5225, 0xc476e99a, 0x3e99999a, 0x3dcccccd, 0x3eb33000},
		{0xbf666666, 0x3f666666, 0x3d4ccccd, plusZero, 0x3d4cccd0}, {0x3f333333, 0xbf333333, 0x3edc28f6, 0x3d8f5c29, 0x3e99999a},
		{0x3dfbe76d, 0x3f1f7cee, 0x3de147ae, 0x3c23d70a, 0x3c54fdf8}, {0x47c35000, 0x3ebd70a4, 0x3dcccccd, 0x3e4ccccd, 0x3dd00000},
	} {
		got, ok := impl.YawStep(num(c[0]), num(c[1]), num(c[2]), num(c[3]))
		wantNumber(t, "yaw", got, ok, c[4])
	}
}

func TestYawStepAtNearAndAtRate(t *testing.T) {
	for _, c := range []struct {
		yaw, wind, rate, near float32
		want                  uint32
	}{
		// At near, just inside it, and just outside.
		{0, 0.25, 0.125, 0.25, plusZero}, {0, 0.25, 0.125, above(0.25), plusZero}, {0, 0.25, 0.125, below(0.25), bitsOf(0.125)}, {0, -0.25, 0.125, 0.25, plusZero}, {0, -0.25, 0.125, below(0.25), bitsOf(-0.125)},
		{0.375, 0.25, 1, 0.125, bitsOf(0.375)}, {0.375, 0.25, 1, below(0.125), bitsOf(0.25)}, {num(minusZero), 0.25, 0.125, 0.25, minusZero}, {1, 1.25, 0.125, 0.25, plusZero}, {-3.25, 1, 1, 0.25, bitsOf(-0.25)},
		// At rate, just inside it, and just outside.
		{0, 0.25, 0.25, 0, bitsOf(0.25)}, {0, 0.25, above(0.25), 0, bitsOf(0.25)}, {0, 0.25, below(0.25), 0, 0x3e7fffff}, {0, -0.25, 0.25, 0, bitsOf(-0.25)}, {0, -0.25, above(0.25), 0, bitsOf(-0.25)}, {0, -0.25, below(0.25), 0, 0xbe7fffff},
		{0.125, 0.25, 0.125, 0, bitsOf(0.25)}, {0.125, 0.25, below(0.125), 0, 0x3e800000}, {0.25, 0.125, 0.125, 0, bitsOf(0.125)}, {1.125, 0.25, 0.0625, 0, bitsOf(0.1875)}, {0.125, 5.25, 0.0625, 0, bitsOf(0.1875)},
		// Near and rate are the same, and near is greater.
		{0, 0.25, 0.25, 0.25, plusZero}, {0, 0.25, 0.125, 0.5, plusZero}, {0, above(0.25), 0.25, 0.25, bitsOf(0.25)}, {0, -above(0.25), 0.25, 0.25, bitsOf(-0.25)},
		// In the wind, of any rate and near.
		{0.25, 0.25, 0, 0, bitsOf(0.25)}, {0.25, 0.25, num(greatest), num(greatest), bitsOf(0.25)}, {0.25, 1.25, 0.125, num(minusZero), bitsOf(0.25)}, {-0.75, 0.25, num(minusZero), num(minusZero), bitsOf(0.25)}, {0, num(minusZero), 0, 0, plusZero}, {num(minusZero), 0, 0, 0, minusZero}, {num(minusZero), num(minusZero), 0, 0, minusZero},
		// No rate turns nothing, but its whole turns are lost.
		{0.25, 0.375, 0, 0, bitsOf(0.25)}, {7.25, 0.375, 0, 0, bitsOf(0.25)}, {0.25, 0.125, num(minusZero), 0, bitsOf(0.25)}, {num(minusZero), 0.25, 0, 0, plusZero}, {num(minusZero), 0.25, num(minusZero), 0, minusZero}, {num(minusZero), -0.25, 0, 0, minusZero}, {num(minusZero), -0.25, num(minusZero), 0, plusZero},
		// A rate of more than a turn turns into the wind at once.
		{0.25, -0.125, 3, 0, bitsOf(-0.125)}, {0.25, -0.125, num(greatest), 0, bitsOf(-0.125)}, {0.125, num(leastSub), 1, 0, plusZero}, {0, num(leastSub), 1, 0, leastSub}, {0, num(leastSub), num(leastSub), 0, leastSub}, {0, num(leastSub), 0, num(leastSub), plusZero}, {0, num(2), num(leastSub), num(leastSub), leastSub}, {0, -num(2), num(leastSub), num(leastSub), leastSub | minusZero},
	} {
		got, ok := impl.YawStep(c.yaw, c.wind, c.rate, c.near)
		wantNumber(t, "yaw", got, ok, c.want)
	}
}

func TestYawStepAtHalfATurn(t *testing.T) {
	for _, c := range []struct {
		yaw, wind, rate, near float32
		want                  uint32
	}{
		// Half a turn to either side is half a turn backward.
		{0, 0.5, 0.125, 0, bitsOf(-0.125)}, {0, -0.5, 0.125, 0, bitsOf(-0.125)}, {0, 1.5, 0.125, 0, bitsOf(-0.125)}, {0.25, 0.75, 0.125, 0, bitsOf(0.125)}, {0.25, -0.25, 0.125, 0, bitsOf(0.125)}, {-0.25, 0.25, 0.125, 0, bitsOf(-0.375)}, {-0.25, 0.25, 0.375, 0, bitsOf(0.375)},
		{0.5, 0, 0.125, 0, bitsOf(0.375)}, {-0.5, 0, 0.125, 0, bitsOf(0.375)}, {-0.5, 0, 0, 0, bitsOf(-0.5)}, {0.5, 0, 0, 0, bitsOf(-0.5)},
		// Just less than half a turn goes where it is.
		{0, below(0.5), 0.125, 0, bitsOf(0.125)}, {0, -below(0.5), 0.125, 0, bitsOf(-0.125)}, {0, above(0.5), 0.125, 0, bitsOf(-0.125)}, {0, -above(0.5), 0.125, 0, bitsOf(0.125)},
		// At rates and nears of half a turn, just less, and more.
		{0, 0.5, 0.5, 0, bitsOf(-0.5)}, {0, -0.5, 0.5, 0, bitsOf(-0.5)}, {0.25, 0.75, 0.5, 0, bitsOf(-0.25)}, {0, 0.5, below(0.5), 0, 0xbeffffff}, {0, 0.5, above(0.5), 0, bitsOf(-0.5)}, {0.25, -0.25, 2, 0, bitsOf(-0.25)},
		{0.125, 0.625, 0.25, 0.5, bitsOf(0.125)}, {0.125, -0.375, 0.25, 0.5, bitsOf(0.125)}, {0.125, 0.625, 0.25, below(0.5), bitsOf(-0.125)}, {0.125, 0.625, 0.25, 7, bitsOf(0.125)},
		// A yaw that goes around behind half a turn.
		{0.4375, -0.4375, 0.125, 0, bitsOf(-0.4375)}, {0.4375, -0.25, 0.125, 0, bitsOf(-0.4375)}, {-0.4375, 0.25, 0.125, 0, bitsOf(0.4375)}, {0.375, -0.25, 0.125, 0, bitsOf(-0.5)}, {-0.375, 0.25, 0.125, 0, bitsOf(-0.5)}, {3.4375, -0.25, 0.125, 0, bitsOf(-0.4375)},
	} {
		got, ok := impl.YawStep(c.yaw, c.wind, c.rate, c.near)
		wantNumber(t, "yaw", got, ok, c.want)
	}
}

func TestYawStepOfGreatNumbers(t *testing.T) {
	most := num(greatest)
	for _, c := range []struct {
		yaw, wind, rate, near float32
		want                  uint32
	}{
		// A great number has no parts of a turn left.
		{most, most, 0.125, 0, plusZero}, {most, 0, 0.125, 0, plusZero}, {0, most, 0.125, 0, plusZero}, {-most, 0.25, 0.125, 0, plusZero}, {0.25, -most, 0.125, 0, bitsOf(0.25)}, {0.25, 0x1p24, 0.125, 0, bitsOf(0.25)}, {0.25, 0x1p20, 0.125, 0, bitsOf(0.125)}, {0x1p22 + 0.5, 0.25, 0.125, 0, bitsOf(-0.5)},
		{0, 0.25, most, 0, bitsOf(0.25)}, {most, 0.25, most, most, plusZero},
	} {
		got, ok := impl.YawStep(c.yaw, c.wind, c.rate, c.near)
		wantNumber(t, "yaw", got, ok, c.want)
	}
	for _, c := range [][4]float32{
		{-most, most, 0.125, 0}, {most, -most, 0.125, 0}, {most, -most, 0, most}, {0x1p127, -0x1p127, 1, 1}, {-0x1p127, 0x1p127, 1, 1},
	} {
		got, ok := impl.YawStep(c[0], c[1], c[2], c[3])
		wantNoSum(t, "yaw whose way is not finite", got, ok)
	}
}

// wrongYaws has arguments of YawStep that are wrong in one place each.
func wrongYaws() [][4]float32 {
	var list [][4]float32
	for _, x := range notFinite() {
		list = append(list, [4]float32{x, 0.25, 0.125, 0}, [4]float32{0, x, 0.125, 0}, [4]float32{x, x, 0.125, 0}, [4]float32{x, 0.25, 0.125, num(greatest)}, [4]float32{0.25, x, num(greatest), num(greatest)})
	}
	for _, x := range notAmounts() {
		// One is near, one is not, and one is in the wind.
		list = append(list, [4]float32{0, 0.25, x, 0.5}, [4]float32{0, 0.25, x, 0}, [4]float32{0, 0, x, 0})
		list = append(list, [4]float32{0, 0.25, 0.125, x}, [4]float32{0, 0.25, 0.25, x}, [4]float32{0, 0, 0.125, x})
	}
	return list
}

func TestWrongYaws(t *testing.T) {
	for _, c := range wrongYaws() {
		got, ok := impl.YawStep(c[0], c[1], c[2], c[3])
		wantNoSum(t, "wrong yaw", got, ok)
		list, ok := impl.RunYaw(c[0], []float32{c[1]}, c[2], c[3])
		wantNoLists(t, "run of a wrong yaw", list, nil, ok)
		list, ok = impl.RunYaw(c[0], []float32{0.125, c[1], 0.25}, c[2], c[3])
		wantNoLists(t, "longer run of a wrong yaw", list, nil, ok)
	}
	// Without any wind, all other arguments count.
	for _, x := range notFinite() {
		list, ok := impl.RunYaw(x, nil, 0.125, 0)
		wantNoLists(t, "run of a wrong yaw in no wind", list, nil, ok)
	}
	for _, x := range notAmounts() {
		list, ok := impl.RunYaw(0, nil, x, 0)
		wantNoLists(t, "run of a wrong rate in no wind", list, nil, ok)
		list, ok = impl.RunYaw(0, nil, 0.125, x)
		wantNoLists(t, "run of a wrong near in no wind", list, nil, ok)
	}
}

func TestRunYaw(t *testing.T) {
	for _, c := range []struct {
		yaw, rate, near float32
		winds, want     []float32
	}{
		{0, 0.125, 0, []float32{0.25, 0.25, -0.25}, []float32{0.125, 0.25, 0.125}},
		{0, 0.125, 0.125, []float32{0.25, 0.25, -0.25, -0.25}, []float32{0.125, 0.125, 0, -0.125}},
		{5.25, 0.0625, 0, []float32{0.25, 0.75, 0.75, 0.125, 7}, []float32{0.25, 0.1875, 0.125, 0.125, 0.0625}},
		{0.4375, 0.125, 0, []float32{-0.25, -0.25, -0.25}, []float32{-0.4375, -0.3125, -0.25}},
		{num(minusZero), 0, 0, []float32{0, num(minusZero), 0.25, -0.25}, []float32{num(minusZero), num(minusZero), 0, 0}},
		{0.25, 0.125, 0, nil, nil}, {num(greatest), 0, 0, []float32{}, nil}, {num(minusZero), num(minusZero), num(minusZero), nil, nil},
		{0.37, 0.11, 0.03, []float32{0.1, 0.3, -0.41, 0.77, 0.9, -1.3}, nums(0x3e851eb8, 0x3e99999a, 0x3ed1eb86, 0xbef5c28e, 0xbebd70a2, 0xbe999998)},
		{-8.8, 0.033, 0.002, []float32{0.1, 0.15, 0.2, 0.05, -0.1, -0.2}, nums(0x3e2b0200, 0x3e19999a, 0x3e3b645a, 0x3e19999a, 0x3def9db3, 0x3dac0832)},
		{100.1, 0.07, 0.2, []float32{0.5, 0.9, 1.3, 1.7, 2.1}, nums(0x3e2e1400, 0x3dcccbd7, 0x3e2e1400, 0x3dcccbd7, 0x3dcccbd7)},
	} {
		got, ok := impl.RunYaw(c.yaw, c.winds, c.rate, c.near)
		want(t, "success", ok, true)
		if !sameNumbers(got, c.want) {
			t.Errorf("%v in %v: got %v, want %v", c.yaw, c.winds, got, c.want)
		}
	}
}

func TestRunYawIsManySteps(t *testing.T) {
	n := noise(46)
	for _, count := range []int{1, 2, 20, 127, impl.MaxRun} {
		winds := anyTurns(&n, count)
		yaw, rate, near := 3*n.between(), 0.1*abs(n.between()), 0.05*abs(n.between())
		var wanted []float32
		at := yaw
		for _, wind := range winds {
			next, ok := impl.YawStep(at, wind, rate, near)
			want(t, "success of a step", ok, true)
			at = next
			wanted = append(wanted, next)
		}
		got, ok := impl.RunYaw(yaw, winds, rate, near)
		want(t, "yaws of a run", ok && sameNumbers(got, wanted), true)
	}
	for _, count := range []int{impl.MaxRun + 1, 1000} {
		got, ok := impl.RunYaw(0, make([]float32, count), 0.125, 0)
		wantNoLists(t, "yaws of too many winds", got, nil, ok)
	}
	got, ok := impl.RunYaw(-num(greatest), []float32{num(greatest), 0}, 0.125, 0)
	wantNoLists(t, "yaws whose first way is not finite", got, nil, ok)
	got, ok = impl.RunYaw(-num(greatest), []float32{0, num(greatest)}, 0.125, 0)
	want(t, "yaws whose whole turns are lost before", ok && sameNumbers(got, []float32{0, 0}), true)
}

// anyTurns returns turns without a rule, some of which have whole turns.
func anyTurns(n *noise, count int) []float32 {
	list := make([]float32, count)
	for i := range list {
		list[i] = []float32{0.5, 1, 7}[n.next()%3] * n.between()
	}
	return list
}

func TestTurnedBy(t *testing.T) {
	most := num(greatest)
	for _, c := range []struct {
		turns []float32
		want  uint32
	}{
		{nil, plusZero}, {[]float32{}, plusZero}, {[]float32{0.25}, plusZero}, {[]float32{num(minusZero)}, plusZero}, {[]float32{most}, plusZero}, {[]float32{0, 0.25}, bitsOf(0.25)}, {[]float32{0.25, 0}, bitsOf(0.25)}, {[]float32{0, 0.25, -0.25}, bitsOf(0.75)},
		{[]float32{0, 0.5}, bitsOf(0.5)}, {[]float32{0, -0.5}, bitsOf(0.5)}, {[]float32{0.5, -0.5}, plusZero}, {[]float32{0, 0.75}, bitsOf(0.25)}, {[]float32{0, -0.75}, bitsOf(0.25)}, {[]float32{0, 1, 2, 3.25}, bitsOf(0.25)}, {[]float32{0, below(0.5)}, 0x3effffff}, {[]float32{0, above(0.5)}, 0x3efffffe},
		{[]float32{0, num(minusZero), 0}, plusZero}, {[]float32{num(minusZero), num(minusZero)}, plusZero}, {[]float32{most, most}, plusZero}, {[]float32{most, 0}, plusZero}, {[]float32{0, -most, 0.25}, plusZero}, {[]float32{0, num(leastSub), 0}, 0x00000002},
		{slices.Repeat([]float32{0, 0.5}, impl.MaxRun/2), bitsOf(63.5)}, {slices.Repeat([]float32{0.25, -0.125}, impl.MaxRun/2), bitsOf(0.375 * 127)}, {make([]float32, impl.MaxRun), plusZero},
		// From left to right: what is too little to count in the end counts where it is first.
		{[]float32{0, 0x1p-25, 0, 0.5}, 0x3f000001}, {[]float32{0.5, 0, 0x1p-25, 0}, bitsOf(0.5)},
		{[]float32{0.1, 0.3, -0.41, 0.77, 0.9, -1.3}, 0x3f7ffffc},
		{[]float32{0.37, 0.11, 0.03, 0.033, 0.002, 100.1, 33.3}, 0x3f2c07f6},
		{[]float32{0.9, 0.1, 0.9, 0.2, 0.9, 0.3, 0.9, 0.4, 0.9}, 0x40333334},
	} {
		got, ok := impl.TurnedBy(c.turns)
		wantNumber(t, "turned by", got, ok, c.want)
	}
}

func TestTurnedByOfWrongTurns(t *testing.T) {
	for _, x := range notFinite() {
		for _, list := range [][]float32{{x}, {x, 0}, {0, x}, {x, x}, {0, 0.25, x, 0.5}} {
			got, ok := impl.TurnedBy(list)
			wantNoSum(t, "wrong turns", got, ok)
		}
	}
	most := num(greatest)
	for _, list := range [][]float32{make([]float32, impl.MaxRun+1), make([]float32, 1000), {most, -most}, {0, -most, most, 0}, {0x1p127, -0x1p127}} {
		got, ok := impl.TurnedBy(list)
		wantNoSum(t, "too many turns, or too great ones", got, ok)
	}
}
