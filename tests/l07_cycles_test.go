package tests

import (
	"math"
	"slices"
	"testing"

	"loop.example/g01256/impl"
)

// wrongBins returns numbers of bins that there cannot be.
func wrongBins() []int64 {
	return []int64{0, -1, impl.MaxBins + 1, 1 << 32, 1<<32 + 1, math.MaxInt64, math.MinInt64}
}

type countCase struct {
	list   []impl.Cycle
	width  float32
	counts []int64
}

func countCases() []countCase {
	return []countCase{
		{gustyCycles(), 0.7, []int64{0, 2, 0, 1, 0, 0, 0, 0, 0, 0, 2, 0}}, {gustyCycles(), 1.3, []int64{2, 1, 0, 0, 0, 2, 1, 0, 0, 0, 3, 1}}, {gustyCycles(), 100.1, []int64{11, 0, 0}}, {gustyCycles(), 1e-7, []int64{0, 0}}, {gustyCycles(), 1.3, []int64{2}},
		{wildCycles(), 0.7, []int64{0, 0, 2, 0, 0, 0, 0, 0, 0, 0, 1, 0}}, {wildCycles(), 1.3, []int64{0, 2, 0, 0, 0, 1}}, {wildCycles(), 100.1, []int64{9, 0, 0, 0, 0, 0, 0, 0, 2, 0, 0, 0}}, {wildCycles(), 1e5, []int64{17}},
		{fineCycles(), 1e-7, []int64{0, 1, 1, 1, 1, 0, 0, 1, 0, 0, 1, 0}}, {fineCycles(), 2.4e-7, []int64{2, 2, 1, 0, 1, 1, 0}},
		// Quotients that are rounded up to an integer, and ranges that are rounded products with one but have lesser quotients.
		{[]impl.Cycle{half(0, num(0x42342941))}, num(0x40a024ac), []int64{0, 0, 0, 0, 0, 0, 0, 0, 0, 1}}, {[]impl.Cycle{whole(0, num(0x426ba161))}, num(0x411d1641), []int64{0, 0, 0, 0, 0, 0, 2, 0}},
		{[]impl.Cycle{half(0, 18.416298)}, 6.1387663, []int64{0, 0, 1, 0}}, {[]impl.Cycle{whole(0, 66.1883)}, 9.455472, []int64{0, 0, 0, 0, 0, 0, 2, 0}},
		// No cycles, and no ranges, whatever their signs are.
		{nil, 1, []int64{0}}, {nil, 1, make([]int64, impl.MaxBins)}, {[]impl.Cycle{half(0, 0), whole(3, 3), half(0, num(minusZero)), half(num(minusZero), 0)}, num(leastSub), []int64{5}}, {[]impl.Cycle{whole(-2, -2), half(0, num(minusZero))}, num(greatest), []int64{3, 0}},
		// At the bounds of numbers.
		{[]impl.Cycle{half(0, num(leastSub)), whole(-num(leastSub), num(leastSub))}, num(leastSub), []int64{0, 1, 2}}, {[]impl.Cycle{half(0, num(greatest)), whole(0, below(num(greatest)))}, num(greatest), []int64{2, 1}},
		{[]impl.Cycle{whole(-num(greatest), num(greatest)), half(0, 1)}, 1, append(make([]int64, 1), 1, 0)}, {[]impl.Cycle{whole(-num(greatest), num(greatest))}, num(greatest), make([]int64, impl.MaxBins)}, {[]impl.Cycle{whole(0, num(greatest))}, num(leastSub), make([]int64, impl.MaxBins)},
		// Quotients beyond the integers of 32 and of 64 bits.
		{[]impl.Cycle{whole(0, 0x1p31), half(0, 0x1p32), whole(0, 0x1p33), half(0, 0x1p63), whole(0, 0x1p64), half(0, 0x1p65), half(1, 3)}, 1, []int64{0, 0, 1, 0}},
	}
}

func TestCountCycles(t *testing.T) {
	for _, c := range countCases() {
		got, ok := impl.CountCycles(c.list, c.width, int64(len(c.counts)))
		wantCounts(t, "counts", got, ok, c.counts...)
	}
}

func TestCountCyclesAtMultiples(t *testing.T) {
	for _, width := range []float32{1, 0.125, 7, 3e30, num(leastNorm)} {
		for k := 1; k <= impl.MaxBins; k++ {
			at := float32(k) * width
			for _, bins := range []int{1, 2, 5, 31, impl.MaxBins} {
				for _, c := range []struct {
					reach float32
					bin   int
				}{{at, k}, {below(at), k - 1}, {above(at), k}} {
					wanted := make([]int64, bins)
					if c.bin < bins {
						wanted[c.bin] = 3
					}
					got, ok := impl.CountCycles([]impl.Cycle{whole(0, c.reach), half(-c.reach, 0)}, width, int64(bins))
					wantCounts(t, "a range near a multiple", got, ok, wanted...)
				}
			}
		}
	}
}

func TestCountCyclesOfWrongArguments(t *testing.T) {
	for _, list := range wrongCycles() {
		got, ok := impl.CountCycles(list, 1, 3)
		wantNoCounts(t, "wrong cycles", got, ok)
	}
	for _, list := range [][]impl.Cycle{nil, gustyCycles()} {
		for _, width := range notPositive() {
			got, ok := impl.CountCycles(list, width, 3)
			wantNoCounts(t, "a wrong width", got, ok)
		}
		for _, bins := range wrongBins() {
			got, ok := impl.CountCycles(list, 1, bins)
			wantNoCounts(t, "a wrong number of bins", got, ok)
		}
	}
}

func TestCountCyclesOfAnyBins(t *testing.T) {
	for bins := int64(1); bins <= impl.MaxBins; bins++ {
		got, ok := impl.CountCycles(gustyCycles(), 20, bins)
		wantCounts(t, "bins", got, ok, append([]int64{11}, make([]int64, bins-1)...)...)
		got, ok = impl.CountCycles(slices.Repeat([]impl.Cycle{whole(1, 1+float32(bins))}, impl.MaxCycles), 1, bins)
		wantCounts(t, "just beyond all bins", got, ok, make([]int64, bins)...)
	}
}

func TestLongestCycle(t *testing.T) {
	for _, c := range []struct {
		list  []impl.Cycle
		i     int64
		reach uint32
	}{
		{gustyCycles(), 6, 0x41960000}, {wildCycles(), 7, 0x474803b3}, {fineCycles(), 6, 0x35b00000}, {[]impl.Cycle{whole(1, 2), half(0, 3)}, 1, 0x40400000}, {[]impl.Cycle{whole(-7, -3)}, 0, 0x40800000},
		// The first one of several, whether it is whole or not, and even where their ranges are only rounded to the same.
		{[]impl.Cycle{half(0, 1), half(3, 5), whole(0, 2), half(-2, 0), whole(1, 2)}, 1, 0x40000000}, {[]impl.Cycle{whole(0, 1), half(0, 1)}, 0, 0x3f800000}, {[]impl.Cycle{half(0, 0x1p25), whole(-1, 0x1p25)}, 0, 0x4c000000}, {[]impl.Cycle{half(2, 2), half(1, 1)}, 0, plusZero},
		{slices.Repeat([]impl.Cycle{whole(0, 2)}, impl.MaxCycles), 0, 0x40000000}, {append(slices.Repeat([]impl.Cycle{whole(0, 2)}, impl.MaxCycles-1), half(0, above(2))), impl.MaxCycles - 1, 0x40000001},
		// A High of -0 at a Low of +0 has a range of -0, which is as great as +0.
		{[]impl.Cycle{half(0, num(minusZero))}, 0, minusZero}, {[]impl.Cycle{half(0, num(minusZero)), half(0, 0)}, 0, minusZero}, {[]impl.Cycle{half(0, 0), half(0, num(minusZero))}, 0, plusZero}, {[]impl.Cycle{half(num(minusZero), 0)}, 0, plusZero}, {[]impl.Cycle{half(0, num(minusZero)), half(0, num(leastSub))}, 1, leastSub},
		// At the bounds of numbers.
		{[]impl.Cycle{half(0, 1), whole(0, num(greatest))}, 1, greatest}, {[]impl.Cycle{half(-1, num(greatest)), whole(0, num(greatest))}, 0, greatest}, {[]impl.Cycle{half(num(mostSub), num(leastNorm))}, 0, leastSub},
	} {
		i, reach, ok := impl.LongestCycle(c.list)
		wantKnot(t, "longest", i, reach, ok, c.i, c.reach)
	}
}

func TestLongestCycleThatIsNone(t *testing.T) {
	most := num(greatest)
	for _, list := range append(wrongCycles(), nil, []impl.Cycle{}, []impl.Cycle{whole(-most, most)}, []impl.Cycle{half(0, 1), half(-most, most), half(0, 1)}, []impl.Cycle{half(-1e38, 3e38)}, []impl.Cycle{half(-num(0x73800000), most)}) {
		i, reach, ok := impl.LongestCycle(list)
		wantNoKnot(t, "no longest cycle", i, reach, ok)
	}
}

type damageCase struct {
	list     []impl.Cycle
	strength float32
	power    int64
	wanted   uint32
}

func damageCases() []damageCase {
	huge, tiny := []impl.Cycle{half(0, 2e19)}, []impl.Cycle{half(0, num(0x00000003))}
	return []damageCase{
		{gustyCycles(), 1, 1, 0x424a999a}, {gustyCycles(), 10, 1, 0x40a2147b}, {gustyCycles(), 7.3, 2, 0x41435622}, {gustyCycles(), 7.3, 3, 0x41be93a2}, {gustyCycles(), 0.37, 5, 0x4d98aa2d}, {gustyCycles(), 900.1, 7, 0x2bb3fccc}, {gustyCycles(), 33.3, 12, 0x3a16c600},
		{wildCycles(), 1, 1, 0x4756fc3c}, {wildCycles(), 10, 1, 0x45abfcfd}, {wildCycles(), 7.3, 2, 0x4c37ce1c}, {wildCycles(), 7.3, 3, 0x529b2cf4}, {wildCycles(), 0.37, 5, 0x6a1e8666}, {wildCycles(), 900.1, 7, 0x53cf37e6}, {wildCycles(), 33.3, 12, 0x7ee6377c},
		{fineCycles(), 1, 1, 0x36100000}, {fineCycles(), 10, 1, 0x34666666}, {fineCycles(), 7.3, 2, 0x2920ee46}, {fineCycles(), 7.3, 3, 0x1dc3724b}, {fineCycles(), 0.37, 5, 0x11fc2525}, {fineCycles(), 33.3, 12, plusZero},
		// No cycles, and no ranges; the sum begins with +0.
		{nil, 1, 1, plusZero}, {[]impl.Cycle{}, 3, 12, plusZero}, {[]impl.Cycle{half(0, num(minusZero))}, 1, 1, plusZero}, {[]impl.Cycle{half(0, num(minusZero)), whole(0, num(minusZero))}, 1, 3, plusZero}, {[]impl.Cycle{whole(4, 4)}, num(leastSub), 12, plusZero},
		// Whole cycles and others, by hand.
		{[]impl.Cycle{whole(1, 2), half(0, 3)}, 1, 2, 0x40b00000}, {[]impl.Cycle{whole(0, 2)}, 1, 12, 0x45800000}, {[]impl.Cycle{half(0, 2)}, 1, 12, 0x45000000}, {[]impl.Cycle{half(0, 3)}, 2, 3, 0x3fd80000}, {[]impl.Cycle{whole(-5, -2)}, 1.5, 4, 0x41800000}, {slices.Repeat([]impl.Cycle{whole(0, 1), half(0, 1)}, impl.MaxCycles/2), 1, 7, 0x42400000},
		// The half is taken before the factors: so it keeps a product within the numbers, and loses the last bit of the least ones.
		{huge, 1, 2, 0x7f167699}, {tiny, 1, 1, 2}, {tiny, 0.25, 1, 6},
		// The quotient is made first, and the sum goes in order.
		{[]impl.Cycle{whole(0, num(greatest))}, num(greatest), 12, 0x3f800000}, {[]impl.Cycle{whole(0, 1), whole(0, 0x1p-24), whole(0, 0x1p-24)}, 1, 1, 0x3f800000}, {[]impl.Cycle{whole(0, 0x1p-24), whole(0, 0x1p-24), whole(0, 1)}, 1, 1, 0x3f800001}, {[]impl.Cycle{whole(0, 1e-30)}, 1e-30, 12, 0x3f800000},
		{[]impl.Cycle{whole(0, num(leastSub))}, num(greatest), 1, plusZero}, {[]impl.Cycle{whole(0, num(greatest))}, 1, 1, greatest},
	}
}

func TestDamageOf(t *testing.T) {
	for _, c := range damageCases() {
		got, ok := impl.DamageOf(c.list, c.strength, c.power)
		if !ok || bitsOf(got) != c.wanted {
			t.Errorf("%v: got %08x %v", c, bitsOf(got), ok)
		}
	}
}

func TestDamageOfAnyPower(t *testing.T) {
	for power := int64(1); power <= 12; power++ {
		got, ok := impl.DamageOf([]impl.Cycle{half(-1, 2), whole(0, 3)}, 1.5, power)
		wantNumber(t, "a power of 2", got, ok, bitsOf(1.5*float32(int64(1)<<power)))
	}
	for _, power := range []int64{0, -1, 13, 14, 1<<32 + 1, math.MaxInt64, math.MinInt64} {
		for _, list := range [][]impl.Cycle{nil, gustyCycles()} {
			got, ok := impl.DamageOf(list, 1, power)
			wantNoSum(t, "a wrong power", got, ok)
		}
	}
}

func TestDamageThatIsNone(t *testing.T) {
	most := num(greatest)
	for _, list := range wrongCycles() {
		got, ok := impl.DamageOf(list, 1, 2)
		wantNoSum(t, "the damage of wrong cycles", got, ok)
		got, ok = impl.EqualRange(list, 1, 1)
		wantNoSum(t, "the range of wrong cycles", got, ok)
	}
	for _, list := range [][]impl.Cycle{nil, gustyCycles()} {
		for _, x := range notPositive() {
			got, ok := impl.DamageOf(list, x, 2)
			wantNoSum(t, "a wrong strength", got, ok)
			got, ok = impl.EqualRange(list, x, 1)
			wantNoSum(t, "a wrong count", got, ok)
		}
	}
	for _, c := range []damageCase{
		// Beyond all numbers are a range, a quotient, a product and a sum.
		{[]impl.Cycle{half(-most, most)}, most, 1, 0}, {[]impl.Cycle{half(0, 2), whole(-most, most)}, 1, 3, 0}, {[]impl.Cycle{half(0, most)}, 0.99, 1, 0}, {[]impl.Cycle{whole(0, 1)}, num(leastSub), 1, 0},
		{[]impl.Cycle{whole(0, 2e19)}, 1, 2, 0}, {[]impl.Cycle{half(0, 2e19)}, 1, 3, 0}, {[]impl.Cycle{half(0, 2e4)}, 1, 12, 0}, {[]impl.Cycle{whole(0, most), whole(0, most)}, 1, 1, 0}, {[]impl.Cycle{half(0, most), half(0, most), half(0, 1e32)}, 1, 1, 0},
	} {
		got, ok := impl.DamageOf(c.list, c.strength, c.power)
		wantNoSum(t, "a damage beyond all numbers", got, ok)
	}
}

type equalCase struct {
	list   []impl.Cycle
	count  float32
	halves int64
	wanted uint32
}

func equalCases() []equalCase {
	return []equalCase{
		{gustyCycles(), 1, 0, 0x424a999a}, {gustyCycles(), 3.7, 0, 0x415b06eb}, {gustyCycles(), 1, 1, 0x41cc0dc1}, {gustyCycles(), 7.3, 1, 0x41170c1e}, {gustyCycles(), 1000, 2, 0x405c423b}, {gustyCycles(), 0.37, 2, 0x41c683c4}, {gustyCycles(), 12.9, 3, 0x41500781}, {gustyCycles(), 1e-5, 3, 0x4296f570},
		{wildCycles(), 1, 0, 0x4756fc3c}, {wildCycles(), 3.7, 0, 0x46686aa2}, {wildCycles(), 1, 1, 0x4745f06b}, {wildCycles(), 7.3, 1, 0x46928568}, {wildCycles(), 1000, 2, 0x460ca15b}, {wildCycles(), 0.37, 2, 0x477d7e94}, {wildCycles(), 12.9, 3, 0x470fa766},
		{fineCycles(), 1, 0, 0x36100000}, {fineCycles(), 3.7, 0, 0x351bacf9}, {fineCycles(), 1, 1, 0x35b936a1}, {fineCycles(), 7.3, 1, 0x350919e2}, {fineCycles(), 1000, 2, 0x346b5558}, {fineCycles(), 0.37, 2, 0x35d419e7}, {fineCycles(), 12.9, 3, plusZero},
		// By hand.
		{[]impl.Cycle{whole(0, 2)}, 4, 1, 0x3f800000}, {[]impl.Cycle{whole(1, 2), half(0, 3)}, 1, 0, 0x40200000}, {[]impl.Cycle{whole(0, 2)}, 16, 2, 0x3f800000}, {[]impl.Cycle{whole(0, 2)}, 256, 3, 0x3f800000}, {[]impl.Cycle{half(0, 2)}, 128, 3, 0x3f800000}, {[]impl.Cycle{half(-1, 2), half(4, 7)}, 1, 3, 0x40400000}, {[]impl.Cycle{whole(0, 6)}, 2, 0, 0x40400000},
		// No cycles, and no ranges.
		{nil, 1, 0, plusZero}, {nil, 3, 3, plusZero}, {[]impl.Cycle{half(0, num(minusZero))}, 1, 0, plusZero}, {[]impl.Cycle{half(0, num(minusZero)), whole(7, 7)}, 1, 1, plusZero}, {[]impl.Cycle{half(3, 3)}, num(leastSub), 2, plusZero},
		// The half is taken behind the squares, and the sum is divided in the end.
		{[]impl.Cycle{half(0, num(3))}, 1, 0, 2}, {[]impl.Cycle{half(0, 1), half(0, num(3))}, num(leastNorm), 0, 0x7e000000}, {[]impl.Cycle{whole(0, 1), whole(0, 1), whole(0, 1)}, 3, 0, 0x3f800000}, {[]impl.Cycle{whole(0, 1e-25)}, 1, 1, plusZero}, {[]impl.Cycle{whole(0, 1e-20)}, 1e-30, 1, 0x3727c58f},
		{[]impl.Cycle{whole(0, num(greatest))}, 1, 0, greatest}, {[]impl.Cycle{whole(0, num(greatest))}, num(greatest), 0, 0x3f800000}, {[]impl.Cycle{whole(0, 1.8e19)}, 1, 1, 0x5f79ccd9}, {[]impl.Cycle{half(0, 2)}, num(greatest), 0, 0x00200000},
	}
}

func TestEqualRange(t *testing.T) {
	for _, c := range equalCases() {
		got, ok := impl.EqualRange(c.list, c.count, c.halves)
		if !ok || bitsOf(got) != c.wanted {
			t.Errorf("%v: got %08x %v", c, bitsOf(got), ok)
		}
	}
}

func TestEqualRangeThatIsNone(t *testing.T) {
	for _, halves := range []int64{-1, 4, 5, 1 << 32, 1<<32 + 1, math.MaxInt64, math.MinInt64} {
		for _, list := range [][]impl.Cycle{nil, gustyCycles()} {
			got, ok := impl.EqualRange(list, 1, halves)
			wantNoSum(t, "wrong halves", got, ok)
		}
	}
	most := num(greatest)
	for _, c := range []equalCase{
		// Beyond all numbers are a range, a square (even before it is halved), a sum and a quotient.
		{[]impl.Cycle{half(-most, most)}, most, 0, 0}, {[]impl.Cycle{half(-most, most)}, 1, 3, 0}, {[]impl.Cycle{half(0, 2e19)}, 1, 1, 0}, {[]impl.Cycle{half(0, 2e19)}, 1e30, 1, 0}, {[]impl.Cycle{half(0, 5e9)}, 1, 2, 0}, {[]impl.Cycle{half(0, 7e4)}, 1, 3, 0},
		{[]impl.Cycle{whole(0, most), whole(0, most)}, 4, 0, 0}, {[]impl.Cycle{whole(0, most)}, 0.5, 0, 0}, {[]impl.Cycle{whole(0, 1)}, num(leastSub), 0, 0}, {[]impl.Cycle{whole(0, 1)}, num(leastSub), 3, 0},
	} {
		got, ok := impl.EqualRange(c.list, c.count, c.halves)
		wantNoSum(t, "a range beyond all numbers", got, ok)
	}
}
