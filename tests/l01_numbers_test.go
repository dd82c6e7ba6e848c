package tests

import (
	"math"
	"testing"

	"loop.example/g01256/impl"
)

func TestLimits(t *testing.T) {
	want(t, "MaxNumbers", int64(impl.MaxNumbers), 256)
	want(t, "MaxValue", int64(impl.MaxValue), 1000000000000000)
	want(t, "MaxItems", int64(impl.MaxItems), 64)
	want(t, "CheckSize", int64(impl.CheckSize), 65003)
}

func TestSameNumber(t *testing.T) {
	list := specialBits()
	for _, a := range list {
		for _, b := range list {
			same := bitsOf(num(a)) == bitsOf(num(b))
			if got := impl.SameNumber(num(a), num(b)); got != same {
				t.Errorf("%08x and %08x: got %v", a, b, got)
			}
		}
	}
	want(t, "zeros with opposite signs", impl.SameNumber(0, num(minusZero)), false)
	want(t, "-0 and -0", impl.SameNumber(num(minusZero), num(minusZero)), true)
	want(t, "two not-a-numbers", impl.SameNumber(num(0x7f800001), num(0xffc12345)), true)
	want(t, "1 and 1", impl.SameNumber(1, 1), true)
	want(t, "1 and 2", impl.SameNumber(1, 2), false)
	want(t, "1 and -1", impl.SameNumber(1, -1), false)
}

func TestIsFinite(t *testing.T) {
	for _, c := range []struct {
		bits uint32
		want bool
	}{
		{plusZero, true}, {minusZero, true}, {leastSub, true}, {0x3f800000, true}, {greatest, true}, {0xff7fffff, true},
		{plusInf, false}, {minusInf, false}, {aNaN, false}, {0xffffffff, false}, {0x7f800001, false},
	} {
		if got := impl.IsFinite(num(c.bits)); got != c.want {
			t.Errorf("%08x: got %v", c.bits, got)
		}
	}
}

func TestIsFiniteComplex(t *testing.T) {
	list := specialBits()
	for _, a := range list {
		for _, b := range list {
			finite := a&plusInf != plusInf && b&plusInf != plusInf
			if got := impl.IsFiniteComplex(comp(a, b)); got != finite {
				t.Errorf("%08x %08x: got %v", a, b, got)
			}
		}
	}
}

func TestBitsOf(t *testing.T) {
	for _, c := range []struct {
		x    float32
		want int64
	}{
		{0, 0}, {num(minusZero), 2147483648}, {1, 1065353216}, {-1, 3212836864}, {num(leastSub), 1}, {num(0x80000001), 2147483649},
		{num(mostSub), 8388607}, {num(leastNorm), 8388608}, {num(greatest), 2139095039}, {num(plusInf), 2139095040}, {num(minusInf), 4286578688},
	} {
		want(t, "bits", impl.BitsOf(c.x), c.want)
	}
	for _, n := range []uint32{aNaN, 0x7f800001, 0x7fffffff, 0xff800001, 0xffc00000, 0xffffffff} {
		want(t, "bits of a not-a-number", impl.BitsOf(num(n)), 2143289344)
	}
}

func TestFromBits(t *testing.T) {
	for _, n := range specialBits() {
		x, ok := impl.FromBits(int64(n))
		want(t, "success", ok, true)
		wantBits(t, "number", x, bitsOf(num(n)))
	}
	for _, n := range []int64{-1, 4294967296, 4294967296 + 1065353216, -1065353216, math.MinInt64, math.MaxInt64} {
		x, ok := impl.FromBits(n)
		want(t, "success of wrong bits", ok, false)
		wantBits(t, "number of wrong bits", x, plusZero)
	}
	_, ok := impl.FromBits(4294967295)
	want(t, "success of the greatest bits", ok, true)
}

// narrowCases has the 64-bit numbers that lie on, and next to, what is between two 32-bit ones.
func narrowCases() []struct {
	x    float64
	want uint32
} {
	return []struct {
		x    float64
		want uint32
	}{
		{0, plusZero}, {minusZero64(), minusZero}, {1, 0x3f800000}, {0.5, 0x3f000000}, {0.1, 0x3dcccccd}, {-0.1, 0xbdcccccd},
		{16777217, 0x4b800000}, {16777219, 0x4b800002}, {-16777219, 0xcb800002}, {math.Nextafter(16777217, 2e7), 0x4b800001},
		{0x1.ffffffp127, plusInf}, {math.Nextafter(0x1.ffffffp127, 0), greatest}, {-0x1.ffffffp127, minusInf}, {1e300, plusInf},
		{0x1p-150, plusZero}, {-0x1p-150, minusZero}, {math.Nextafter(0x1p-150, 1), leastSub}, {0x1.8p-149, 2}, {0x1p-149, leastSub},
		{0x1p-126, leastNorm}, {0x1.fffffep-127, leastNorm}, {math.Nextafter(0x1.fffffep-127, 0), mostSub}, {0x1.fffffcp-127, mostSub}, {5e-324, plusZero}, {-5e-324, minusZero},
		{math.Inf(1), plusInf}, {math.Inf(-1), minusInf}, {math.NaN(), aNaN},
	}
}

func TestNarrowNumber(t *testing.T) {
	for _, c := range narrowCases() {
		wantBits(t, "narrowed", impl.NarrowNumber(c.x), c.want)
	}
}

func TestNarrowComplex(t *testing.T) {
	list := narrowCases()
	for i, a := range list {
		b := list[len(list)-1-i]
		wantParts(t, "narrowed", impl.NarrowComplex(complex(a.x, b.x)), a.want, b.want)
	}
}

func TestSubnormals(t *testing.T) {
	for _, c := range []struct {
		bits, flushed uint32
		subnormal     bool
	}{
		{plusZero, plusZero, false}, {minusZero, minusZero, false},
		{leastSub, plusZero, true}, {0x80000001, minusZero, true}, {0x00400000, plusZero, true},
		{mostSub, plusZero, true}, {0x807fffff, minusZero, true},
		{leastNorm, leastNorm, false}, {0x80800000, 0x80800000, false}, {0x3f800000, 0x3f800000, false}, {0xbf800000, 0xbf800000, false},
		{greatest, greatest, false}, {plusInf, plusInf, false}, {minusInf, minusInf, false}, {aNaN, aNaN, false}, {0xff800001, aNaN, false},
	} {
		if got := impl.IsSubnormal(num(c.bits)); got != c.subnormal {
			t.Errorf("%08x is subnormal: got %v", c.bits, got)
		}
		wantBits(t, "flushed", impl.FlushNumber(num(c.bits)), c.flushed)
	}
}

func TestSameComplex(t *testing.T) {
	nan := num(aNaN)
	for _, c := range []struct {
		a, b complex64
		want bool
	}{
		{1, 1, true}, {complex(1, 2), complex(1, 2), true}, {complex(1, 2), complex(2, 1), false}, {complex(1, 2), complex(1, 3), false},
		{complex(1, 2), complex(3, 2), false}, {0, comp(minusZero, plusZero), false}, {0, comp(plusZero, minusZero), false},
		{comp(minusZero, minusZero), comp(minusZero, minusZero), true}, {complex(nan, 1), complex(nan, 1), true},
		{complex(1, nan), comp(0x3f800000, 0xffffffff), true}, {complex(1, nan), complex(2, nan), false}, {complex(nan, 1), complex(1, nan), false},
		{comp(plusInf, minusInf), comp(plusInf, minusInf), true}, {comp(plusInf, minusInf), comp(plusInf, plusInf), false},
	} {
		if got := impl.SameComplex(c.a, c.b); got != c.want {
			t.Errorf("%v and %v: got %v", c.a, c.b, got)
		}
	}
}

func TestMulComplex(t *testing.T) {
	want(t, "the example", impl.MulComplex(complex(1, 2), complex(3, -1)), complex64(complex(5, 5)))
	for _, c := range [][6]uint32{
		{0x3f800000, 0x40000000, 0x40400000, 0xbf800000, 0x40a00000, 0x40a00000},
		{0x3f800000, 0x00000000, 0x00000000, 0x3f800000, 0x00000000, 0x3f800000},
		{0x00000000, 0x3f800000, 0x00000000, 0x3f800000, 0xbf800000, 0x00000000},
		// Both parts need products that are not rounded to 32 bits, or not beyond the greatest one, on the way.
		{0x45800800, 0x45800000, 0x45800800, 0x45801000, 0x3f800000, 0x4c001000},
		{0x7149f2ca, 0x7149f2ca, 0x7149f2ca, 0x7149f2ca, 0x00000000, 0x7f800000},
		{0x3dcccccd, 0x3f333333, 0x3fa66666, 0xc039999a, 0x400a3d71, 0x3f1eb851},
		{greatest, 0x00000000, 0x40000000, 0x00000000, plusInf, 0x00000000},
		{greatest, greatest, 0x40000000, 0x40000000, 0x00000000, plusInf},
		// Zeros with signs.
		{0x00000000, 0x00000000, 0xbf800000, 0x00000000, minusZero, 0x00000000},
		{minusZero, minusZero, 0x3f800000, 0x00000000, 0x00000000, minusZero},
		{0x00000000, 0x00000000, 0x00000000, 0x00000000, 0x00000000, 0x00000000},
		{minusZero, 0x00000000, 0x00000000, 0x00000000, minusZero, 0x00000000},
		// Subnormal products, some of them just between two numbers.
		{0x1a000000, 0x00000000, 0x1a000000, 0x00000000, 0x00000000, 0x00000000},
		{0x1a000000, 0x00000000, 0x1a400000, 0x00000000, leastSub, 0x00000000},
		{leastSub, leastSub, 0x3f000000, 0x3f000000, 0x00000000, leastSub},
		{leastSub, 0x00000000, 0x3f800000, 0x00000000, leastSub, 0x00000000},
		// Infinities and not-a-numbers.
		{plusInf, 0x00000000, 0x3f800000, 0x00000000, plusInf, aNaN},
		{plusInf, plusInf, 0x3f800000, 0x3f800000, aNaN, plusInf},
		{aNaN, 0x00000000, 0x3f800000, 0x00000000, aNaN, aNaN},
		{0x3f800000, 0x00000000, 0x3f800000, aNaN, aNaN, aNaN},
	} {
		wantParts(t, "product", impl.MulComplex(comp(c[0], c[1]), comp(c[2], c[3])), c[4], c[5])
	}
}

func TestScaleComplex(t *testing.T) {
	for _, c := range [][5]uint32{
		{0x3f800000, 0x40000000, 0x3f000000, 0x3f000000, 0x3f800000},
		{0x3dcccccd, 0x3f333333, 0x3fa66666, 0x3e051eb8, 0x3f68f5c2},
		{plusZero, minusZero, 0xbf800000, minusZero, plusZero},
		{0x3f800000, 0xbf800000, minusZero, minusZero, plusZero},
		{leastSub, mostSub, 0x3f000000, plusZero, 0x00400000},
		{greatest, 0x3f800000, 0x40000000, plusInf, 0x40000000},
		// Other parts are left alone, while a product with 2 + 0 i has a not-a-number here.
		{plusInf, 0x3f800000, 0x40000000, plusInf, 0x40000000},
		{plusInf, 0x3f800000, plusZero, aNaN, plusZero},
		{aNaN, 0x3f800000, 0x40000000, aNaN, 0x40000000},
		{0x3f800000, 0x40000000, aNaN, aNaN, aNaN},
	} {
		wantParts(t, "scaled", impl.ScaleComplex(comp(c[0], c[1]), num(c[2])), c[3], c[4])
	}
}

func TestConjugateOf(t *testing.T) {
	list := specialBits()
	for i, a := range list {
		b := list[(i*7+3)%len(list)]
		wantParts(t, "conjugate", impl.ConjugateOf(comp(a, b)), bitsOf(num(a)), bitsOf(num(b^minusZero)))
	}
	wantParts(t, "conjugate of 1 + 0 i", impl.ConjugateOf(1), 0x3f800000, minusZero)
	want(t, "conjugate of 1 + 2 i", impl.ConjugateOf(complex(1, 2)), complex64(complex(1, -2)))
}

func TestPowerAndLong(t *testing.T) {
	for _, c := range []struct {
		x           complex64
		power, long uint32
	}{
		{complex(3, 4), 0x41c80000, 0x40a00000}, {complex(-3, 4), 0x41c80000, 0x40a00000}, {0, 0, 0},
		{comp(minusZero, minusZero), plusZero, plusZero}, {complex(1, 1), 0x40000000, 0x3fb504f3},
		// The sum of 16785409 and 1, which is not rounded before.
		{complex(4097, 1), 0x4b801001, 0x45800800},
		// The root is taken before the power is narrowed to an infinity or to a zero.
		{complex(3e30, 4e30), plusInf, bitsOf(5e30)}, {complex(3e-30, 4e-30), plusZero, bitsOf(5e-30)},
		{comp(greatest, greatest), plusInf, plusInf}, {comp(greatest, plusZero), plusInf, greatest},
		{comp(leastSub, plusZero), plusZero, leastSub}, {comp(mostSub, plusZero), plusZero, mostSub},
		{complex(1.1e-20, 0), 0x0001514c, bitsOf(1.1e-20)},
		{comp(plusInf, 0), plusInf, plusInf}, {comp(0, minusInf), plusInf, plusInf},
		{comp(aNaN, 0), aNaN, aNaN}, {comp(plusInf, aNaN), aNaN, aNaN},
	} {
		wantBits(t, "power", impl.PowerOf(c.x), c.power)
		wantBits(t, "long", impl.LongOf(c.x), c.long)
	}
}

func TestQuotientOf(t *testing.T) {
	want(t, "the example", impl.QuotientOf(complex(0, 4), 2), complex64(complex(0, 2)))
	for _, c := range [][6]uint32{
		{0x00000000, 0x40800000, 0x40000000, 0x00000000, 0x00000000, 0x40000000},
		{0x40a00000, 0x40a00000, 0x40400000, 0xbf800000, 0x3f800000, 0x40000000},
		{0x40a00000, 0x40a00000, 0x3f800000, 0x40000000, 0x40400000, 0xbf800000},
		{0x3f800000, 0x00000000, 0x00000000, 0x3f800000, 0x00000000, 0xbf800000},
		{0x3f800000, 0x40000000, 0x40400000, 0x40800000, 0x3ee147ae, 0x3da3d70a},
		{0x3f800000, 0x00000000, 0x40400000, 0x00000000, 0x3eaaaaab, 0x00000000},
		{0x3f800000, 0x3f800000, 0x3dcccccd, 0x3f333333, 0x3fcccccd, 0xbf99999a},
		// Zeros with signs.
		{0xc0800000, 0x00000000, 0x40000000, 0x00000000, 0xc0000000, 0x00000000},
		{0x40800000, minusZero, 0x40000000, 0x00000000, 0x40000000, minusZero},
		{0x00000000, 0x00000000, 0x3f800000, 0x00000000, 0x00000000, 0x00000000},
		{minusZero, 0x00000000, 0x3f800000, 0x00000000, 0x00000000, 0x00000000},
		{minusZero, minusZero, 0x3f800000, 0x00000000, minusZero, 0x00000000},
		{0x00000000, 0x00000000, 0xbf800000, 0x00000000, 0x00000000, minusZero},
		// Powers beyond all 32-bit numbers, on both sides.
		{leastSub, 0x00000000, leastSub, 0x00000000, 0x3f800000, 0x00000000},
		{greatest, 0x00000000, greatest, 0x00000000, 0x3f800000, 0x00000000},
		{greatest, 0x00000000, leastSub, 0x00000000, plusInf, 0x00000000},
		{0x3f800000, 0x00000000, greatest, 0x00000000, 0x00200000, 0x00000000},
		// Infinities, not-a-numbers, and zeros to divide by.
		{0x3f800000, 0x00000000, plusInf, 0x00000000, aNaN, aNaN},
		{0x3f800000, 0x3f800000, plusInf, plusInf, aNaN, aNaN},
		{plusInf, 0x00000000, 0x3f800000, 0x00000000, plusInf, aNaN},
		{aNaN, 0x00000000, 0x3f800000, 0x00000000, aNaN, aNaN},
		{0x3f800000, 0x00000000, aNaN, 0x00000000, aNaN, aNaN},
		{0x00000000, 0x00000000, 0x00000000, 0x00000000, aNaN, aNaN},
		{0x3f800000, 0x00000000, 0x00000000, 0x00000000, aNaN, aNaN},
		{0x3f800000, 0x3f800000, minusZero, 0x00000000, aNaN, aNaN},
		{plusInf, 0x00000000, 0x00000000, 0x00000000, aNaN, aNaN},
	} {
		wantParts(t, "quotient", impl.QuotientOf(comp(c[0], c[1]), comp(c[2], c[3])), c[4], c[5])
	}
}

func TestRootNumber(t *testing.T) {
	for _, c := range [][2]uint32{
		{0x41100000, 0x40400000}, {0x40000000, 0x3fb504f3}, {0x3f800000, 0x3f800000}, {0x3e800000, 0x3f000000},
		{plusZero, plusZero}, {minusZero, minusZero}, {leastSub, 0x1a3504f3}, {mostSub, 0x1fffffff}, {leastNorm, 0x20000000},
		{greatest, 0x5f7fffff}, {plusInf, plusInf}, {minusInf, aNaN}, {0xbf800000, aNaN}, {0x80000001, aNaN}, {aNaN, aNaN},
	} {
		wantBits(t, "root", impl.RootNumber(num(c[0])), c[1])
	}
}
