package tests

import (
	"math"
	"slices"
	"testing"

	"loop.example/g01256/impl"
)

func TestPowerInFarm(t *testing.T) {
	for _, c := range []struct {
		farm                 impl.Farm
		turn, speed, density float32
		wanted               uint32
	}{
		{park(), 0.0, 7.7, 1.21, 0x46d78f4f},
		{park(), 0.3, 11.3, 0.97, 0x47ad8535},
		{park(), -0.5, 3.3, 1.3, 0x45085862},
		{park(), 17.77, 0.13, 0.001, 0x39123b76},
		{crowd(), 0, 9.9, 1.21, 0x46cdb9c9},
		{crowd(), 0.25, 9.9, 1.21, 0x46da1c62},
		{crowd(), 0.1, 6.1, 1, 0x45cb2d87},
		{crowd(), -0.41, 13.7, 2.2, 0x4814beef},
		{crowd(), 1000.6, 25.3, 0.31, 0x48077d44},
		{pair(), 0, 4, 1, 0x428ef146},
		{pair(), 0.5, 4, 2, 0x430ef146},
		{pair(), 0.25, 4, 1, 0x42c90fdb},
		// Nothing at all.
		{pair(), 0, 0, 1, plusZero}, {pair(), 0, num(minusZero), 1, plusZero}, {pair(), 0, 4, 0, plusZero}, {pair(), 0, 4, num(minusZero), plusZero}, {pair(), 0, num(leastSub), 1, plusZero}, {pair(), 0, 1, num(leastSub), plusZero},
		{drawn(0), 0, 4, 1, plusZero}, {drawn(num(minusZero)), 0, 4, 1, plusZero}, {oddFarms()[5], 0, 4, 1, plusZero},
	} {
		got, ok := impl.PowerInFarm(c.farm, c.turn, c.speed, c.density)
		wantNumber(t, "power", got, ok, c.wanted)
	}
}

func TestPowerInFarmByItsFactors(t *testing.T) {
	for _, c := range []struct {
		radius, draw, spread float32
		wanted               uint32
	}{
		{2.3, 0.13, 0.1, 0x4551b515}, {7.7, 0.37, 0.3, 0x471d2d96}, {5.3, 0.22, 0.2, 0x469c97ba}, {0.61, 0.41, 0.07, 0x43b32394}, {113.7, 0.07, 0.4, 0x4a70fc6c}, {31.3, 0.49, 0.6, 0x489a5cb1}, {17.9, 0.33, 0.05, 0x47df7289},
	} {
		f := impl.Farm{X: []float32{0.3, 31.7, 17.9}, Y: []float32{0.7, 3.1, 12.7}, Radius: c.radius, Draw: c.draw, Spread: c.spread}
		got, ok := impl.PowerInFarm(f, 0.03, 6.7, 1.19)
		wantNumber(t, "power", got, ok, c.wanted)
	}
}

// drawn returns pair with another Draw.
func drawn(draw float32) impl.Farm {
	return changedFarm(pair(), func(f *impl.Farm) { f.Draw = draw })
}

func TestPowerInFarmThatIsNone(t *testing.T) {
	for _, f := range []impl.Farm{pair(), park(), crowd()} {
		for _, c := range [][3]float32{
			// AirPower fails, or a product or the sum is beyond all numbers.
			{0, 1e13, 1}, {0, num(greatest), 1}, {0, 1, num(greatest)}, {0, 4e12, 10}, {0.25, 8e12, 1},
		} {
			x, ok := impl.PowerInFarm(f, c[0], c[1], c[2])
			wantNoSum(t, "power", x, ok)
		}
		for _, odd := range notFinite() {
			x, ok := impl.PowerInFarm(f, odd, 4, 1)
			wantNoSum(t, "power of a wind to nowhere", x, ok)
		}
		for _, odd := range notAmounts() {
			x, ok := impl.PowerInFarm(f, 0, odd, 1)
			wantNoSum(t, "power of a wrong wind", x, ok)
			x, ok = impl.PowerInFarm(f, 0, 4, odd)
			wantNoSum(t, "power of a wrong density", x, ok)
			x, ok = impl.PowerInFarm(f, 0, 0, odd)
			wantNoSum(t, "power of a wrong density, without wind", x, ok)
		}
	}
	// Behind the first factor, AirPower is beyond all numbers, from which the second one does not bring it back.
	for _, draw := range []float32{0.01, 0.5, num(leastSub), 0, num(minusZero)} {
		x, ok := impl.PowerInFarm(drawn(draw), 0, 1, 3e38)
		wantNoSum(t, "power beyond all numbers", x, ok)
	}
	// Each rotor has a power that is a number, but both of them together have one only with a wake.
	x, ok := impl.PowerInFarm(drawn(1.0/3), 0, 1, 2.04e38)
	want(t, "a power with a wake", ok && x > 2.9e38, true)
	x, ok = impl.PowerInFarm(drawn(1.0/3), 0.25, 1, 2.04e38)
	wantNoSum(t, "two powers without wakes", x, ok)
}

type roseCase struct {
	farm         impl.Farm
	rose         impl.Rose
	density      float32
	power, share uint32
}

func roseCases() []roseCase {
	return []roseCase{
		{pair(), fiveSectors(), 1, 0x43e5d856, 0x3f4aa126},
		{pair(), fiveSectors(), 1.21, 0x440b0e67, 0x3f4aa126},
		{pair(), otherSectors(), 1, 0x4330f1b9, 0x3f2af6d8},
		{pair(), otherSectors(), 1.21, 0x43561a3e, 0x3f2af6d8},
		{pair(), fullRose(), 1, 0x43f7d548, 0x3f398e2b},
		{pair(), fullRose(), 1.21, 0x4415f066, 0x3f398e2b},
		{park(), fiveSectors(), 1, 0x46a3f0be, 0x3f64e5a2},
		{park(), fiveSectors(), 1.21, 0x46c65e2e, 0x3f64e5a2},
		{park(), otherSectors(), 1, 0x46085f2b, 0x3f50adf9},
		{park(), otherSectors(), 1.21, 0x46250284, 0x3f50adf9},
		{park(), fullRose(), 1, 0x46add287, 0x3f4e1d0e},
		{park(), fullRose(), 1.21, 0x46d25338, 0x3f4e1d0e},
		{crowd(), fiveSectors(), 1, 0x462200c6, 0x3f47c693},
		{crowd(), fiveSectors(), 1.21, 0x46440610, 0x3f47c693},
		{crowd(), otherSectors(), 1, 0x4594a39c, 0x3f48e352},
		{crowd(), otherSectors(), 1.21, 0x45b3da74, 0x3f48e352},
		{crowd(), fullRose(), 1, 0x4637c3e8, 0x3f407484},
		{crowd(), fullRose(), 1.21, 0x465e5b22, 0x3f407484},
	}
}

func TestFarmPowerAndFarmShare(t *testing.T) {
	for _, c := range roseCases() {
		power, ok := impl.FarmPower(c.farm, c.rose, c.density)
		wantNumber(t, "power", power, ok, c.power)
		share, ok := impl.FarmShare(c.farm, c.rose)
		wantNumber(t, "share", share, ok, c.share)
		for workers := int64(1); workers <= impl.MaxWorkers; workers++ {
			power, ok := impl.FarmShared(c.farm, c.rose, c.density, workers)
			wantNumber(t, "power of workers", power, ok, c.power)
		}
	}
}

// oneWay returns the rose of which only the sector k of count ones has a share.
func oneWay(k, count int, share, speed float32) impl.Rose {
	r := roseOf(make([]float32, count), ones(count))
	r.Shares[k], r.Speeds[k] = share, speed
	return r
}

func TestFarmPowerOfEachSector(t *testing.T) {
	for _, f := range []impl.Farm{pair(), park(), crowd()} {
		for count := 1; count <= impl.MaxSectors; count++ {
			for k := range count {
				turn := float32(k) / float32(count)
				power, ok := impl.PowerInFarm(f, turn, 7.7, 1.1)
				want(t, "success", ok, true)
				got, ok := impl.FarmPower(f, oneWay(k, count, 1, 7.7), 1.1)
				wantNumber(t, "one sector", got, ok, bitsOf(power))
				got, ok = impl.FarmPower(f, oneWay(k, count, 0.3, 7.7), 1.1)
				wantNumber(t, "a share of one sector", got, ok, bitsOf(float32(0.3*power)))
			}
		}
	}
}

func TestFarmPowerOfSharesOfNothing(t *testing.T) {
	for _, f := range []impl.Farm{pair(), park(), crowd()} {
		for _, shares := range [][]float32{{0}, nums(minusZero), {0, 0, 0}, nums(minusZero, plusZero), make([]float32, impl.MaxSectors)} {
			r := roseOf(shares, ones(len(shares)))
			x, ok := impl.FarmPower(f, r, 1)
			wantNumber(t, "power of no share", x, ok, plusZero)
			x, ok = impl.FarmShared(f, r, 1, 3)
			wantNumber(t, "power of no share, of workers", x, ok, plusZero)
			// Nothing divided by nothing is no number.
			x, ok = impl.FarmShare(f, r)
			wantNoSum(t, "share of nothing", x, ok)
		}
		// A sector whose power is no number has no product either.
		x, ok := impl.FarmPower(f, roseOf([]float32{1, 0}, []float32{3, 1e13}), 1)
		wantNoSum(t, "no share of no number", x, ok)
		x, ok = impl.FarmShared(f, roseOf([]float32{1, 0}, []float32{3, 1e13}), 1, 2)
		wantNoSum(t, "no share of no number, of workers", x, ok)
	}
}

// wrongWorkers returns numbers of workers that there cannot be.
func wrongWorkers() []int64 {
	return []int64{0, -1, impl.MaxWorkers + 1, 100, 1 << 32, 1<<32 + 1, math.MaxInt64, math.MinInt64}
}

func TestFarmSharedOfWrongWorkers(t *testing.T) {
	for _, c := range roseCases() {
		for _, workers := range wrongWorkers() {
			x, ok := impl.FarmShared(c.farm, c.rose, c.density, workers)
			wantNoSum(t, "power of wrong workers", x, ok)
		}
	}
}

// wantNoPower wants no power of a rose, however many workers make it.
func wantNoPower(t *testing.T, f impl.Farm, r impl.Rose, density float32) {
	t.Helper()
	x, ok := impl.FarmPower(f, r, density)
	wantNoSum(t, "power", x, ok)
	for workers := int64(1); workers <= impl.MaxWorkers; workers++ {
		x, ok := impl.FarmShared(f, r, density, workers)
		wantNoSum(t, "power of workers", x, ok)
	}
}

func TestFarmPowerThatIsNone(t *testing.T) {
	for _, f := range []impl.Farm{pair(), park(), crowd()} {
		for _, r := range wrongRoses() {
			wantNoPower(t, f, r, 1)
			x, ok := impl.FarmShare(f, r)
			wantNoSum(t, "share of a wrong rose", x, ok)
		}
		for _, density := range notAmounts() {
			wantNoPower(t, f, fiveSectors(), density)
		}
		for count := 1; count <= impl.MaxSectors; count++ {
			for k := range count {
				// One sector without a power, whichever worker takes it, and one whose product is none.
				wantNoPower(t, f, oneWay(k, count, 1, 1e13), 1)
				wantNoPower(t, f, oneWay(k, count, num(greatest), 3), 1)
			}
		}
		x, ok := impl.FarmShare(f, oneWay(1, 3, 1, 1e13))
		wantNoSum(t, "share of no power", x, ok)
	}
	// Each product is a number, and their sum is not.
	_, ok := impl.FarmPower(pair(), roseOf([]float32{7e37, 0}, []float32{1.6, 1.6}), 1)
	want(t, "one product", ok, true)
	wantNoPower(t, pair(), roseOf([]float32{7e37, 7e37}, []float32{1.6, 1.6}), 1)
	for _, f := range wrongFarms() {
		wantNoPower(t, f, fiveSectors(), 1)
	}
}

func TestFarmPowerAtZeros(t *testing.T) {
	for _, f := range []impl.Farm{pair(), drawn(0), drawn(num(minusZero))} {
		for _, density := range nums(plusZero, minusZero) {
			x, ok := impl.FarmPower(f, fiveSectors(), density)
			wantNumber(t, "power of no density", x, ok, plusZero)
			x, ok = impl.FarmShared(f, fiveSectors(), density, 2)
			wantNumber(t, "power of no density, of workers", x, ok, plusZero)
		}
	}
	for _, draw := range nums(plusZero, minusZero) {
		x, ok := impl.FarmShare(drawn(draw), fiveSectors())
		wantNoSum(t, "share of no power", x, ok)
	}
	x, ok := impl.FarmShare(pair(), roseOf([]float32{1, 1}, []float32{0, num(minusZero)}))
	wantNoSum(t, "share of no wind", x, ok)
}

func TestFarmShareWithoutWakes(t *testing.T) {
	for _, r := range []impl.Rose{fiveSectors(), otherSectors(), fullRose(), roseOf([]float32{1}, []float32{3})} {
		for _, f := range someFarms() {
			if f.Draw < 0.01 || f.Radius < 0.1 {
				continue
			}
			f.X, f.Y = f.X[:1], f.Y[:1]
			x, ok := impl.FarmShare(f, r)
			wantNumber(t, "share of one rotor", x, ok, bitsOf(1))
			f.X, f.Y = slices.Repeat(f.X, 4), slices.Repeat(f.Y, 4)
			x, ok = impl.FarmShare(f, r)
			wantNumber(t, "share of rotors at the same place", x, ok, bitsOf(1))
		}
	}
	// To the sides of a row, no wake touches another rotor.
	row, _ := impl.RowFarm(impl.MaxRotors, 3, 1, 0.4, 0.1)
	x, ok := impl.FarmShare(row, roseOf([]float32{0, 0.5, 0, 0.25}, []float32{4, 7, 2, 5}))
	want(t, "share across a row", ok && math.Abs(float64(x)-1) < 1e-6, true)
	x, ok = impl.FarmShare(row, roseOf([]float32{0.5, 0, 0.25, 0}, []float32{4, 7, 2, 5}))
	want(t, "share along a row", ok && x < 0.5, true)
}

func TestFarmShareIsThatOfTheFirstRotor(t *testing.T) {
	for _, c := range roseCases() {
		all, one := impl.FarmPower(c.farm, c.rose, 1)
		f := c.farm
		f.X, f.Y = f.X[:1], f.Y[:1]
		alone, two := impl.FarmPower(f, c.rose, 1)
		share, three := impl.FarmShare(c.farm, c.rose)
		want(t, "success", one && two && three, true)
		wantBits(t, "share", share, bitsOf(all/float32(float32(len(c.farm.X))*alone)))
	}
	// What both rotors have without wakes is beyond all numbers, and what they have is not.
	x, ok := impl.FarmShare(pair(), roseOf([]float32{2.5464790e38}, []float32{1}))
	wantNumber(t, "share of a product beyond all numbers", x, ok, plusZero)
}
