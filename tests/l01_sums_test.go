package tests

import (
	"testing"

	"loop.example/g01256/impl"
)

func ones(n int) []float32 {
	list := make([]float32, n)
	for i := range list {
		list[i] = 1
	}
	return list
}

func complexOnes(n int) []complex64 {
	list := make([]complex64, n)
	for i := range list {
		list[i] = complex(1, 2)
	}
	return list
}

func wantSum(t *testing.T, what string, got float32, ok bool, wanted uint32) {
	t.Helper()
	want(t, what+", success", ok, true)
	wantBits(t, what, got, wanted)
}

func wantComplexSum(t *testing.T, what string, got complex64, ok bool, re, im uint32) {
	t.Helper()
	want(t, what+", success", ok, true)
	wantParts(t, what, got, re, im)
}

func wantNoSum[T comparable](t *testing.T, what string, got T, ok bool) {
	t.Helper()
	var zero T
	if ok || got != zero {
		t.Errorf("%s: got %v %v, want none", what, got, ok)
	}
}

func TestSumNumbers(t *testing.T) {
	for _, c := range []struct {
		list []float32
		want uint32
	}{
		{nil, plusZero}, {[]float32{}, plusZero}, {[]float32{1, 2, 3.5}, 0x40d00000},
		// The sum begins with +0, so that -0 is lost.
		{[]float32{num(minusZero)}, plusZero}, {[]float32{num(minusZero), num(minusZero)}, plusZero},
		// From left to right, each sum rounded to 32 bits.
		{[]float32{16777216, 1, 1}, 0x4b800000}, {[]float32{1, 1, 16777216}, 0x4b800001}, {[]float32{16777216, 1, -16777216}, plusZero},
		{[]float32{num(greatest), num(greatest), num(0xff7fffff)}, plusInf}, {[]float32{num(leastSub), num(leastSub)}, 2},
		{[]float32{num(mostSub), num(leastSub)}, leastNorm}, {[]float32{num(plusInf), num(minusInf)}, aNaN}, {[]float32{num(aNaN), 1}, aNaN},
		{ones(impl.MaxNumbers), 0x43800000},
	} {
		got, ok := impl.SumNumbers(c.list)
		wantSum(t, "sum", got, ok, c.want)
	}
	got, ok := impl.SumNumbers(ones(impl.MaxNumbers + 1))
	wantNoSum(t, "sum of too many", got, ok)
}

func TestDotNumbers(t *testing.T) {
	for _, c := range []struct {
		a, b []float32
		want uint32
	}{
		{nil, nil, plusZero}, {nil, []float32{}, plusZero}, {[]float32{1, 2}, []float32{3, 4}, 0x41300000},
		{[]float32{num(minusZero)}, []float32{1}, plusZero}, {[]float32{0}, []float32{-1}, plusZero},
		// The product 16785409 is rounded on its own, before it is added.
		{[]float32{-16785408, 4097}, []float32{1, 4097}, plusZero},
		{[]float32{16777216, 1, 1}, []float32{1, 1, 1}, 0x4b800000}, {[]float32{1, 1, 16777216}, []float32{1, 1, 1}, 0x4b800001},
		{[]float32{num(greatest), num(greatest)}, []float32{2, -2}, aNaN}, {[]float32{num(leastSub)}, []float32{0.5}, plusZero},
		{[]float32{num(plusInf)}, []float32{0}, aNaN}, {[]float32{num(plusInf)}, []float32{-2}, minusInf},
		{ones(impl.MaxNumbers), ones(impl.MaxNumbers), 0x43800000},
	} {
		got, ok := impl.DotNumbers(c.a, c.b)
		wantSum(t, "sum of products", got, ok, c.want)
	}
	most := impl.MaxNumbers
	for _, c := range [][2]int{{1, 0}, {0, 1}, {3, 2}, {2, 3}, {most + 1, most + 1}, {most, most + 1}, {most + 1, most}} {
		got, ok := impl.DotNumbers(ones(c[0]), ones(c[1]))
		wantNoSum(t, "sum of products of wrong lists", got, ok)
	}
}

func TestSumComplex(t *testing.T) {
	for _, c := range []struct {
		list   []complex64
		re, im uint32
	}{
		{nil, plusZero, plusZero}, {[]complex64{}, plusZero, plusZero}, {[]complex64{1, complex(2, 3)}, 0x40400000, 0x40400000},
		{[]complex64{comp(minusZero, minusZero)}, plusZero, plusZero},
		{[]complex64{complex(16777216, 1), complex(1, 1), complex(1, 16777216)}, 0x4b800000, 0x4b800001},
		{[]complex64{comp(plusInf, leastSub), comp(minusInf, mostSub)}, aNaN, leastNorm}, {[]complex64{comp(0x3f800000, aNaN), 1}, 0x40000000, aNaN},
		{complexOnes(impl.MaxNumbers), 0x43800000, 0x44000000},
	} {
		got, ok := impl.SumComplex(c.list)
		wantComplexSum(t, "sum", got, ok, c.re, c.im)
	}
	got, ok := impl.SumComplex(complexOnes(impl.MaxNumbers + 1))
	wantNoSum(t, "sum of too many", got, ok)
}

// dotCase has the parts of the sum of products, and those of the sum of products with conjugates.
type dotCase struct {
	a, b                 []complex64
	re, im, conRe, conIm uint32
}

func dotCases() []dotCase {
	i := complex64(complex(0, 1))
	return []dotCase{
		{nil, nil, 0, 0, 0, 0}, {[]complex64{}, nil, 0, 0, 0, 0},
		{[]complex64{i}, []complex64{i}, 0xbf800000, 0, 0x3f800000, 0},
		{[]complex64{i}, []complex64{complex(2, 3)}, 0xc0400000, 0x40000000, 0x40400000, 0xc0000000},
		{[]complex64{complex(1, 2), complex(3, 4)}, []complex64{complex(5, 6), complex(7, 8)}, 0xc1900000, 0x42880000, 0x428c0000, 0xc1000000},
		// The sum begins with +0 + 0 i, so that both signs are lost.
		{[]complex64{comp(minusZero, minusZero)}, []complex64{1}, 0, 0, 0, 0},
		// Each product is narrowed before it is added.
		{[]complex64{-16785408, 4097}, []complex64{1, 4097}, 0, 0, 0, 0},
		{[]complex64{16777216, 1, 1}, []complex64{1, 1, 1}, 0x4b800000, 0, 0x4b800000, 0},
		{[]complex64{1, 1, 16777216}, []complex64{i, i, i}, 0, 0x4b800001, 0, 0x4b800001},
		{[]complex64{comp(greatest, 0), comp(greatest, 0)}, []complex64{2, -2}, aNaN, 0, aNaN, 0},
		{[]complex64{comp(plusInf, 0)}, []complex64{1}, plusInf, aNaN, plusInf, aNaN},
		{[]complex64{comp(leastSub, mostSub)}, []complex64{1}, leastSub, mostSub, leastSub, 0x807fffff},
		{complexOnes(impl.MaxNumbers), complexOnes(impl.MaxNumbers), 0xc4400000, 0x44800000, 0x44a00000, 0},
	}
}

func TestDotComplexAndConjugate(t *testing.T) {
	for _, c := range dotCases() {
		got, ok := impl.DotComplex(c.a, c.b)
		wantComplexSum(t, "sum of products", got, ok, c.re, c.im)
		got, ok = impl.DotConjugate(c.a, c.b)
		wantComplexSum(t, "sum of products with conjugates", got, ok, c.conRe, c.conIm)
	}
	most := impl.MaxNumbers
	for _, c := range [][2]int{{1, 0}, {0, 1}, {3, 2}, {2, 3}, {most + 1, most + 1}, {most, most + 1}, {most + 1, most}} {
		got, ok := impl.DotComplex(complexOnes(c[0]), complexOnes(c[1]))
		wantNoSum(t, "sum of products of wrong lists", got, ok)
		got, ok = impl.DotConjugate(complexOnes(c[0]), complexOnes(c[1]))
		wantNoSum(t, "sum of products with conjugates of wrong lists", got, ok)
	}
}

func TestPowersOf(t *testing.T) {
	for _, c := range []struct {
		list []complex64
		want uint32
	}{
		{nil, plusZero}, {[]complex64{}, plusZero}, {[]complex64{complex(3, 4), 1}, 0x41d00000},
		{[]complex64{comp(minusZero, minusZero)}, plusZero},
		// The sum has 64 bits, and so has each power.
		{[]complex64{4096, 1, 1}, 0x4b800001}, {[]complex64{4097, 1}, 0x4b801001}, {[]complex64{4096, 1}, 0x4b800000},
		{[]complex64{complex(1e-23, 0), complex(1e-23, 0)}, plusZero}, {[]complex64{complex(0, 0x1p-75), complex(0, 0x1p-75)}, leastSub},
		// From left to right: small powers are lost behind a great one, but not before it.
		{[]complex64{0x1p27, 0x1p15, 1, 1, complex(1, 1)}, 0x5a800000}, {[]complex64{complex(1, 1), 1, 1, 0x1p15, 0x1p27}, 0x5a800001},
		{[]complex64{comp(greatest, 0), 1}, plusInf},
		{[]complex64{comp(plusInf, 0), 1}, plusInf}, {[]complex64{1, comp(minusInf, aNaN)}, aNaN}, {[]complex64{1, comp(0, aNaN)}, aNaN},
		{complexOnes(impl.MaxNumbers), 0x44a00000},
	} {
		got, ok := impl.PowersOf(c.list)
		wantSum(t, "sum of powers", got, ok, c.want)
	}
	got, ok := impl.PowersOf(complexOnes(impl.MaxNumbers + 1))
	wantNoSum(t, "sum of too many powers", got, ok)
}
