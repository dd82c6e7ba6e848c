package tests

import (
	"math"
	"testing"

	"loop.example/g01256/impl"
)

// The expected bits in the tables of this chapter were computed from the document by a second implementation, in another language.

// breeze and gale are air without any simple number.
func breeze() impl.Air { return impl.Air{Density: 1.21, Height: 11.3, Speed: 7.7, Shear: 0.31} }

func gale() impl.Air { return impl.Air{Density: 0.97, Height: 43.1, Speed: 19.3, Shear: 0.93} }

// plain returns air with the density 1 and the height 10.
func plain(speed, shear float32) impl.Air {
	return impl.Air{Density: 1, Height: 10, Speed: speed, Shear: shear}
}

// notAmounts has numbers that are not finite or less than 0.
func notAmounts() []float32 {
	return nums(leastSub|minusZero, 0xbf800000, greatest|minusZero, plusInf, minusInf, aNaN, 0x7f800001)
}

// notShares has numbers that are not from 0 to 1.
func notShares() []float32 {
	return append(notAmounts(), nums(0x3f800001, 0x40000000, greatest)...)
}

func placesOfAir(a *impl.Air) []*float32 {
	return []*float32{&a.Density, &a.Height, &a.Speed, &a.Shear}
}

// withNumber returns air with another number in one place.
func withNumber(a impl.Air, place int, x float32) impl.Air {
	*placesOfAir(&a)[place] = x
	return a
}

// wrongAir returns air each of which has one thing that valid one has not.
func wrongAir() []impl.Air {
	list := []impl.Air{{}}
	for _, x := range notPositive() {
		list = append(list, withNumber(breeze(), 0, x), withNumber(gale(), 1, x))
	}
	for _, x := range notAmounts() {
		list = append(list, withNumber(breeze(), 2, x))
	}
	for _, x := range notShares() {
		list = append(list, withNumber(breeze(), 3, x))
	}
	return list
}

// oddAir returns valid air with numbers at their bounds.
func oddAir() []impl.Air {
	return []impl.Air{
		plain(0, 0), plain(0, 1), plain(num(minusZero), num(minusZero)), plain(num(greatest), num(0x3f7fffff)), plain(num(leastSub), num(leastSub)),
		{Density: num(leastSub), Height: num(leastSub), Speed: 1, Shear: 1}, {Density: num(greatest), Height: num(greatest), Speed: 1, Shear: 0.5},
	}
}

func TestLimitsOfWind(t *testing.T) {
	want(t, "MaxWinds", int64(impl.MaxWinds), 256)
	want(t, "MaxSectors", int64(impl.MaxSectors), 16)
}

func TestValidAir(t *testing.T) {
	for _, a := range append(oddAir(), breeze(), gale()) {
		if !impl.ValidAir(a) {
			t.Errorf("%v is valid", a)
		}
	}
	for _, a := range wrongAir() {
		if impl.ValidAir(a) {
			t.Errorf("%v is not valid", a)
		}
	}
}

func TestWrongAirIsRefused(t *testing.T) {
	for _, a := range wrongAir() {
		speed, ok := impl.SpeedAtHeight(a, 20)
		wantNoSum(t, "speed in wrong air", speed, ok)
		density, ok := impl.DensityAtHeight(a, 20)
		wantNoSum(t, "density of wrong air", density, ok)
		power, ok := impl.DiscPower(a, 20, 5, 3)
		wantNoSum(t, "power of wrong air", power, ok)
		winds, seed, ok := impl.GustsOf(a, 20, 3, 0.1, 0.5, 1)
		wantNoGusts(t, "gusts of wrong air", winds, seed, ok)
	}
}

func TestSameAir(t *testing.T) {
	odd := nums(plusZero, minusZero, leastSub, 0x3f800000, 0x3f800001, greatest, plusInf, minusInf, aNaN)
	for _, a := range append(wrongAir(), breeze(), gale(), plain(0, 1)) {
		want(t, "same as itself", impl.SameAir(a, a), true)
		for i := range 4 {
			for _, x := range odd {
				b := withNumber(a, i, x)
				wanted := bitsOf(*placesOfAir(&a)[i]) == bitsOf(x)
				want(t, "same with another number", impl.SameAir(a, b), wanted)
				want(t, "same with another number, the other way", impl.SameAir(b, a), wanted)
			}
		}
	}
	// All not-a-numbers are one value.
	for i := range 4 {
		want(t, "same with not-a-numbers", impl.SameAir(withNumber(breeze(), i, num(0xff800001)), withNumber(breeze(), i, num(0x7fffffff))), true)
	}
	want(t, "the same numbers in other places", impl.SameAir(impl.Air{Density: 1, Height: 2, Speed: 3, Shear: 4}, impl.Air{Density: 2, Height: 1, Speed: 3, Shear: 4}), false)
	want(t, "other ones in other places", impl.SameAir(impl.Air{Density: 1, Height: 2, Speed: 3, Shear: 4}, impl.Air{Density: 1, Height: 2, Speed: 4, Shear: 3}), false)
}

func TestExamplesOfAir(t *testing.T) {
	speed, ok := impl.SpeedAtHeight(plain(8, 1), 30)
	wantNumber(t, "speed of the example", speed, ok, bitsOf(12))
	power, ok := impl.AirPower(1, 2)
	wantNumber(t, "power of the example", power, ok, bitsOf(4))
}

func TestNumbersAtHeights(t *testing.T) {
	for _, c := range []struct{ height, breeze, gale, thin, thinner uint32 }{
		{plusZero, 0x40aa0418, 0x3faced90, 0x3f9ae148, 0x3f7851ec},
		{0x3f333333, 0x40b2ed6d, 0x3ff65d01, 0x3f9ade04, 0x3f784cb0},
		{0x4134cccd, 0x40f66666, 0x410cec8e, 0x3f9aaca4, 0x3f77fd86},
		{0x41f00000, 0x410c7e25, 0x4180aad9, 0x3f9a55d6, 0x3f777258},
		{0x422c6666, 0x41118685, 0x419a6666, 0x3f9a1940, 0x3f771136},
		{0x42f6cccd, 0x411afbf0, 0x41dfa6e1, 0x3f98a9e7, 0x3f74c43e},
		{0x4604d000, 0x41214a64, 0x42144586, 0x3f1ae148, 0x3ef851ec},
		{0x7149f2ca, 0x41216459, 0x4214fefa, 0x144bb725, 0x14234f1e},
		{greatest, 0x41216459, 0x4214fefa, 0x0620b401, 0x0600d401},
	} {
		got, ok := impl.SpeedAtHeight(breeze(), num(c.height))
		wantNumber(t, "speed of a breeze", got, ok, c.breeze)
		got, ok = impl.SpeedAtHeight(gale(), num(c.height))
		wantNumber(t, "speed of a gale", got, ok, c.gale)
		got, ok = impl.DensityAtHeight(breeze(), num(c.height))
		wantNumber(t, "density of a breeze", got, ok, c.thin)
		got, ok = impl.DensityAtHeight(gale(), num(c.height))
		wantNumber(t, "density of a gale", got, ok, c.thinner)
	}
}

func TestSpeedAtTheGroundAndAtTheHeight(t *testing.T) {
	for _, c := range []struct {
		speed, shear, height float32
		want                 uint32
	}{
		// At the ground, a shear of 1 leaves nothing, and one of 0 all.
		{8, 1, 0, plusZero}, {8, 1, num(minusZero), plusZero}, {num(minusZero), 1, 0, minusZero}, {8, 0, 0, bitsOf(8)}, {8, num(minusZero), 0, bitsOf(8)}, {8, 0.25, 0, bitsOf(6)}, {8, 0.5, num(minusZero), bitsOf(4)},
		{num(greatest), 1, 0, plusZero}, {num(leastSub), 0.25, 0, leastSub}, {num(leastSub), 0.5, 0, plusZero}, {num(leastSub), 0.75, 0, plusZero}, {8, num(0x3f7fffff), 0, 0x35000000},
		{8, 1, num(leastSub), plusZero}, {8, 1, 10 * 0x1p-25, plusZero}, {8, 1, 10 * 0x1p-24, 0x35c00000}, {8, 1, 10 * 0x1p-23, 0x35c00000},
		// At the Height, no shear counts.
		{8, 1, 10, bitsOf(8)}, {7.7, 0.31, 10, bitsOf(7.7)}, {num(minusZero), 0.5, 10, minusZero}, {num(greatest), 1, 10, greatest}, {num(leastSub), 1, 10, leastSub},
		// Without any shear, no height counts.
		{7.7, 0, 3, bitsOf(7.7)}, {7.7, 0, 1e9, bitsOf(7.7)}, {num(greatest), 0, num(greatest), greatest},
		// As high as there can be, the speed is less than twice as great.
		{8, 1, num(greatest), bitsOf(16)}, {0x1p127, 1, 9.5, 0x7ef96f97}, {num(greatest), 1, 9.99, 0x7f7fdf36}, {0, 1, num(greatest), plusZero},
	} {
		got, ok := impl.SpeedAtHeight(plain(c.speed, c.shear), c.height)
		wantNumber(t, "speed", got, ok, c.want)
	}
	// The sum of both heights is beyond all numbers, so that the quotient is nothing.
	got, ok := impl.SpeedAtHeight(impl.Air{Density: 1, Height: num(greatest), Speed: 8, Shear: 1}, num(greatest))
	wantNumber(t, "speed at the greatest Height", got, ok, bitsOf(8))
	got, ok = impl.SpeedAtHeight(impl.Air{Density: 1, Height: num(greatest), Speed: 8, Shear: 1}, num(greatest)/2)
	wantNumber(t, "speed below the greatest Height", got, ok, bitsOf(8))
	got, ok = impl.SpeedAtHeight(impl.Air{Density: 1, Height: num(leastSub), Speed: 8, Shear: 1}, num(3))
	wantNumber(t, "speed at a height of nearly nothing", got, ok, bitsOf(12))
}

func TestNumbersAtWrongHeights(t *testing.T) {
	for _, height := range notAmounts() {
		got, ok := impl.SpeedAtHeight(breeze(), height)
		wantNoSum(t, "speed", got, ok)
		got, ok = impl.DensityAtHeight(breeze(), height)
		wantNoSum(t, "density", got, ok)
	}
	// Speeds that are not finite.
	got, ok := impl.SpeedAtHeight(plain(num(greatest), 1), 10.001)
	wantNoSum(t, "speed that is just not finite", got, ok)
	got, ok = impl.SpeedAtHeight(plain(num(greatest)*0.7, 1), 1000)
	wantNoSum(t, "speed that is not finite", got, ok)
	got, ok = impl.SpeedAtHeight(plain(0x1p127, 1), num(greatest))
	wantNoSum(t, "speed that is not finite, as high as there can be", got, ok)
}

func TestDensityAtHeight(t *testing.T) {
	with := func(density float32) impl.Air {
		return impl.Air{Density: density, Height: 10, Speed: 1, Shear: 0.5}
	}
	for _, c := range []struct {
		density, height float32
		want            uint32
	}{
		{1, 8500, 0x3f000000}, {1, 0, 0x3f800000}, {1, num(minusZero), 0x3f800000}, {num(greatest), 0, greatest}, {num(leastSub), 0, leastSub}, {num(leastSub), 8500, plusZero},
		{3, 25500, bitsOf(0.75)}, {1.3, 1e-5, bitsOf(1.3)}, {num(leastNorm), num(greatest), plusZero},
	} {
		got, ok := impl.DensityAtHeight(with(c.density), c.height)
		wantNumber(t, "density", got, ok, c.want)
	}
	// Neither speed nor shear counts.
	one, _ := impl.DensityAtHeight(plain(num(greatest), 1), 100)
	two, _ := impl.DensityAtHeight(impl.Air{Density: 1, Height: 700}, 100)
	wantBits(t, "density of other wind", one, bitsOf(two))
}

func TestAirPower(t *testing.T) {
	for _, c := range [][3]uint32{
		{0x3f9ae148, 0x40f66666, 0x438a19ea}, {0x3f7851ec, 0x419a6666, 0x4559eb15}, {0x3fa66666, 0x3dcccccd, 0x3a2a64c3}, {0x7149f2ca, 0x1e3ce508, 0x0d22425f}, {0x0da24260, 0x60ad78ec, 0x70c9f2ca},
		// From left to right, the half first.
		{greatest, 0x3f800000, 0x7effffff}, {greatest, 0x3f99999a, 0x7f5d2f1b}, {leastSub, 0x3f800000, plusZero}, {leastSub, 0x42c80000, plusZero}, {0x00000003, 0x3f800000, 0x00000002}, {0x00000003, 0x40000000, 0x00000010}, {0x7f61b1e6, leastSub, plusZero},
		{plusZero, 0x40a00000, plusZero}, {minusZero, 0x40a00000, minusZero}, {0x40a00000, minusZero, minusZero}, {0x40a00000, plusZero, plusZero}, {minusZero, minusZero, plusZero}, {plusZero, greatest, plusZero},
	} {
		got, ok := impl.AirPower(num(c[0]), num(c[1]))
		wantNumber(t, "power", got, ok, c[2])
	}
	for _, x := range notAmounts() {
		got, ok := impl.AirPower(x, 1)
		wantNoSum(t, "power of a wrong density", got, ok)
		got, ok = impl.AirPower(1, x)
		wantNoSum(t, "power of a wrong speed", got, ok)
	}
	for _, c := range [][2]float32{{1, num(greatest)}, {num(greatest), 1.5}, {num(greatest), num(greatest)}, {1, 1e13}, {1e-38, 1e30}} {
		got, ok := impl.AirPower(c[0], c[1])
		wantNoSum(t, "power that is not finite", got, ok)
	}
}

func TestDiscPower(t *testing.T) {
	for _, c := range []struct {
		height, radius uint32
		parts          int64
		breeze, gale   uint32
	}{
		{0x4134cccd, 0x40a00000, 1, 0x438a19ea, 0x43a5b1b0},
		{0x4134cccd, 0x40a00000, 2, 0x43890380, 0x43ad3ceb},
		{0x4134cccd, 0x4134cccd, 3, 0x438414cf, 0x43ce01aa},
		{0x42700000, 0x42053333, 7, 0x43f24763, 0x45a41ba0},
		{0x42700000, 0x42053333, 8, 0x43f24be3, 0x45a41f33},
		{0x42a10000, 0x42a10000, 63, 0x43f5741e, 0x45d6f4aa},
		{0x42a10000, 0x42a10000, 64, 0x43f5745c, 0x45d6f4b2},
		{0x42a10000, 0x3727c5ac, 64, 0x4401a6be, 0x45e54239},
	} {
		got, ok := impl.DiscPower(breeze(), num(c.height), num(c.radius), c.parts)
		wantNumber(t, "power of a breeze", got, ok, c.breeze)
		got, ok = impl.DiscPower(gale(), num(c.height), num(c.radius), c.parts)
		wantNumber(t, "power of a gale", got, ok, c.gale)
	}
	// In a wind that is the same all over, each disc has its power, nearly.
	for parts := int64(1); parts <= 64; parts++ {
		got, ok := impl.DiscPower(plain(2, 0), 7, 7, parts)
		want(t, "power in an even wind", ok && math.Abs(float64(got-4)) < 1e-5, true)
		got, ok = impl.DiscPower(plain(0, 1), 7, 7, parts)
		wantNumber(t, "power without any wind", got, ok, plusZero)
	}
	// A single part is in the middle, whatever the radius.
	middle, _ := impl.SpeedAtHeight(gale(), 50)
	power, _ := impl.AirPower(0.97, middle)
	got, ok := impl.DiscPower(gale(), 50, num(leastSub), 1)
	wantNumber(t, "power in the middle", got, ok, bitsOf(power))
}

func TestDiscPowerByHand(t *testing.T) {
	for _, parts := range []int64{1, 2, 3, 10, 31, 64} {
		for _, height := range []float32{6.3, 6.4, 100} {
			var sum, whole float32
			for k := range parts {
				x := float32(2*k+1-parts) / float32(parts)
				w := float32(math.Sqrt(float64(1 - float32(x*x))))
				speed, _ := impl.SpeedAtHeight(breeze(), height+float32(6.3*x))
				power, _ := impl.AirPower(1.21, speed)
				sum += float32(w * power)
				whole += w
			}
			got, ok := impl.DiscPower(breeze(), height, 6.3, parts)
			wantNumber(t, "power", got, ok, bitsOf(sum/whole))
		}
	}
}

func TestDiscPowerOfWrongArguments(t *testing.T) {
	none := func(what string, a impl.Air, height, radius float32, parts int64) {
		t.Helper()
		got, ok := impl.DiscPower(a, height, radius, parts)
		wantNoSum(t, what, got, ok)
	}
	for _, parts := range []int64{0, -1, 65, 1 << 32, 1<<32 + 1, math.MaxInt64, math.MinInt64} {
		none("a wrong number of parts", breeze(), 20, 5, parts)
	}
	for _, x := range notPositive() {
		none("a wrong radius", breeze(), 20, x, 3)
		none("a wrong radius of one part", breeze(), 20, x, 1)
	}
	for _, x := range notAmounts() {
		none("a wrong height", breeze(), x, 5, 3)
	}
	none("a height that is less than the radius", breeze(), math.Nextafter32(5, 0), 5, 1)
	none("a height of nothing", breeze(), 0, num(leastSub), 1)
	none("a height of nothing and a radius", breeze(), 0, 5, 64)
	none("a radius that reaches beyond all heights", breeze(), num(greatest), num(greatest), 2)
	// Powers, speeds and sums that are not finite.
	none("a power that is not finite", plain(1e13, 0), 10, 5, 1)
	none("one speed of two that is not finite", plain(0x1p127, 1), 12, 6, 2)
	none("a sum that is not finite", impl.Air{Density: num(greatest), Height: 10, Speed: 1.2, Shear: 0}, 10, 5, 3)
	got, ok := impl.DiscPower(impl.Air{Density: num(greatest), Height: 10, Speed: 1.2, Shear: 0}, 10, 5, 1)
	wantNumber(t, "a sum that is finite", got, ok, 0x7f5d2f1b)
	got, ok = impl.DiscPower(breeze(), num(greatest), num(greatest), 1)
	want(t, "the middle of the greatest disc", ok && got > 0, true)
}
