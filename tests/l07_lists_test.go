package tests

import (
	"math"
	"math/cmplx"
	"slices"
	"testing"

	"loop.example/g01256/impl"
)

func TestMeanLoadAndSpreadOfLoads(t *testing.T) {
	tiny, most := num(leastSub), num(greatest)
	for _, c := range []struct {
		loads        []float32
		mean, spread uint32
	}{
		{gusty(), 0x4058a8a9, 0x4096ebe8}, {wild(), 0x459b97a3, 0x466a5bf3}, {fine(), 0x3f8ccccd, 0x34c3c81d},
		{[]float32{1, 3}, 0x40000000, 0x3f800000}, {[]float32{-3, 5}, 0x3f800000, 0x40800000}, {[]float32{-7}, 0xc0e00000, plusZero}, {ones(impl.MaxLoads), 0x3f800000, plusZero}, {zigzag(impl.MaxLoads, -4, 2), 0xbf800000, 0x40400000},
		// Sums begin with +0 and go in order.
		{[]float32{num(minusZero)}, plusZero, plusZero}, {[]float32{0, num(minusZero)}, plusZero, plusZero}, {[]float32{1, 0x1p-24, 0x1p-24}, 0x3eaaaaab, 0x3ef15bee}, {[]float32{0x1p-24, 0x1p-24, 1}, 0x3eaaaaac, 0x3ef15bee},
		// At the bounds of numbers.
		{[]float32{tiny}, leastSub, plusZero}, {[]float32{tiny, 0}, plusZero, plusZero}, {[]float32{num(3), 0}, 2, 2}, {[]float32{tiny, tiny, 0}, leastSub, plusZero}, {[]float32{-tiny, 0, 0}, minusZero, plusZero}, {[]float32{num(mostSub), num(leastNorm)}, leastNorm, plusZero},
		{[]float32{most}, greatest, plusZero}, {[]float32{most, -most}, plusZero, greatest}, {[]float32{most, 0}, 0x7effffff, 0x7effffff}, {[]float32{-most, 0}, 0xfeffffff, 0x7effffff}, {[]float32{most, -most, most}, 0x7eaaaaaa, 0x7f715bee},
	} {
		got, ok := impl.MeanLoad(c.loads)
		wantNumber(t, "mean", got, ok, c.mean)
		got, ok = impl.SpreadOfLoads(c.loads)
		wantNumber(t, "spread", got, ok, c.spread)
	}
}

func TestMeanLoadBeyondAllNumbers(t *testing.T) {
	most := num(greatest)
	for _, loads := range [][]float32{{most, most}, {-most, -most}, {most, most, -most}, {2e38, 2e38, 1}, slices.Repeat([]float32{1e37}, impl.MaxLoads)} {
		got, ok := impl.MeanLoad(loads)
		wantNoSum(t, "the mean of a sum that is too great", got, ok)
		// In 64-bit numbers, no such sum is.
		_, ok = impl.SpreadOfLoads(loads)
		want(t, "a spread", ok, true)
	}
	got, ok := impl.SpreadOfLoads([]float32{most, most})
	wantNumber(t, "the spread of equal loads", got, ok, plusZero)
	got, ok = impl.SpreadOfLoads(zigzag(impl.MaxLoads, most, -most))
	wantNumber(t, "the greatest spread", got, ok, greatest)
}

func TestSpreadOfLoadsByHand(t *testing.T) {
	n := noise(72)
	for range 300 {
		loads := make([]float32, 1+n.next()%impl.MaxLoads)
		sum := 0.0
		for i := range loads {
			loads[i] = 1000 + n.between()
			sum += float64(loads[i])
		}
		squares := 0.0
		for _, x := range loads {
			more := float64(x) - sum/float64(len(loads))
			squares += float64(more * more)
		}
		got, ok := impl.SpreadOfLoads(loads)
		wantNumber(t, "spread", got, ok, bitsOf(float32(math.Sqrt(squares/float64(len(loads))))))
	}
}

func TestExceedOf(t *testing.T) {
	zero, tiny := num(minusZero), num(leastSub)
	for _, c := range []struct {
		loads  []float32
		level  float32
		wanted uint32
	}{
		{[]float32{1, 3}, 2, 0x3f000000}, {[]float32{1, 3}, 3, 0x3f000000}, {[]float32{1, 3}, below(3), 0x3f000000}, {[]float32{1, 3}, above(3), plusZero}, {[]float32{1, 3}, 1, 0x3f800000}, {[]float32{1, 3}, above(1), 0x3f000000},
		{[]float32{1, 3, 2}, 3, 0x3eaaaaab}, {[]float32{3, 1, 3}, 3, 0x3f2aaaab}, {gusty(), 4.9, 0x3ed2d2d3}, {gusty(), above(4.9), 0x3eb4b4b5}, {ones(impl.MaxLoads), 1, 0x3f800000}, {ones(impl.MaxLoads), above(1), plusZero}, {stairs(impl.MaxLoads, 0, 1), 63, 0x3c800000},
		// Zeros are equal, whatever their signs are.
		{[]float32{0}, zero, 0x3f800000}, {[]float32{zero}, 0, 0x3f800000}, {[]float32{zero, 0, tiny, -tiny}, 0, 0x3f400000}, {[]float32{zero, 0, tiny, -tiny}, tiny, 0x3e800000}, {[]float32{zero, 0, tiny, -tiny}, -tiny, 0x3f800000},
		// Levels of any kind.
		{wild(), num(plusInf), plusZero}, {wild(), num(minusInf), 0x3f800000}, {wild(), num(aNaN), plusZero}, {wild(), num(0xffffffff), plusZero}, {[]float32{num(greatest)}, num(greatest), 0x3f800000}, {[]float32{-num(greatest)}, num(minusInf), 0x3f800000}, {[]float32{num(greatest)}, num(plusInf), plusZero},
	} {
		got, ok := impl.ExceedOf(c.loads, c.level)
		wantNumber(t, "share", got, ok, c.wanted)
	}
}

func TestListsOfWrongLoads(t *testing.T) {
	for _, loads := range wrongLoads() {
		x, ok := impl.MeanLoad(loads)
		wantNoSum(t, "mean", x, ok)
		x, ok = impl.SpreadOfLoads(loads)
		wantNoSum(t, "spread", x, ok)
		for _, level := range []float32{0, 1, num(minusInf), num(plusInf), num(aNaN)} {
			x, ok = impl.ExceedOf(loads, level)
			wantNoSum(t, "share", x, ok)
		}
		for _, other := range [][]float32{loads, ones(len(loads)), {1}, nil} {
			list, ok := impl.MixLoads(loads, other, 1, 1)
			wantNoLists(t, "mix", list, nil, ok)
			list, ok = impl.MixLoads(other, loads, 0, 0)
			wantNoLists(t, "mix", list, nil, ok)
		}
		spectrum, ok := impl.SpectrumOfLoads(loads)
		want(t, "no spectrum", !ok && len(spectrum) == 0, true)
		list, ok := impl.PowersOfLoads(loads)
		wantNoLists(t, "powers", list, nil, ok)
	}
}

type mixCase struct {
	a, b, wanted []float32
	x, y         float32
}

func mixCases() []mixCase {
	zero, tiny, most := num(minusZero), num(leastSub), num(greatest)
	return []mixCase{
		{gusty(), wild()[:17], nums(0xc4526a3d, 0x41fe3d6f, 0x4032b1c5, 0x442ab302, 0x3ef851ec, 0x41cfc49c, 0x3cf5c26a, 0x440eb334, 0xc40e151f, 0x422d9eb8, 0xbff5c28f, 0x43f53ae1, 0x411f0a3e, 0x411c51ec, 0x413970a3, 0xc42a05c2, 0x4708b7e9), 0.3, 0.7},
		{gusty(), wild()[:17], nums(0xc52d5c7a, 0x42cd147a, 0xc17cd980, 0x450cf4b0, 0xc08a147b, 0x4276cbc8, 0xbe2e148a, 0x44e8747b, 0xc4ec0199, 0x431edd70, 0xc11ccccc, 0x44c900a3, 0x419c0000, 0x41a8b852, 0x41ab70a4, 0xc50dcb0a, 0x47e09c41), -1.7, 2.3},
		{gusty(), wild()[:17], nums(0x3fc1c0ec, 0x3ccbfb16, 0x3f6e1449, 0xbfb56a6b, 0x3e618938, 0x3f58bf5e, 0x3c23d70b, 0xbe643fe8, 0x3fcae7d6, 0xbf2b6ae8, 0x3e087fcb, 0xbf11f213, 0x3ef4af4f, 0x3ecbac71, 0x3f1b295f, 0x400fced9, 0xc2481eb9), 0.1, -1e-3},
		{[]float32{1, 3}, []float32{2, 1}, []float32{0, 5}, 2, -1}, {[]float32{5}, []float32{7}, []float32{5}, 1, 0}, {[]float32{5}, []float32{7}, []float32{7}, 0, 1}, {ones(impl.MaxLoads), stairs(impl.MaxLoads, 0, 1), stairs(impl.MaxLoads, 3, 2), 3, 2},
		// Zeros with signs.
		{[]float32{1, -1}, []float32{1, -1}, []float32{0, zero}, 0, 0}, {[]float32{1, -1}, []float32{1, -1}, []float32{zero, 0}, zero, zero}, {[]float32{1}, []float32{1}, []float32{0}, 0, zero}, {[]float32{zero}, []float32{zero}, []float32{zero}, 1, 1}, {[]float32{2}, []float32{1}, []float32{0}, 1, -2},
		// Each product is rounded on its own, even where it comes to nothing.
		{[]float32{tiny}, []float32{tiny}, []float32{0}, 0.5, 0.5}, {[]float32{num(3)}, []float32{num(3)}, []float32{num(4)}, 0.5, 0.5}, {[]float32{1 + 0x1p-12}, []float32{1}, []float32{0x1p-11}, 1 + 0x1p-12, -1}, {[]float32{-1}, []float32{1 + 0x1p-12}, []float32{0x1p-11}, 1, 1 + 0x1p-12},
		{[]float32{most}, []float32{most}, []float32{0}, 1, -1}, {[]float32{most}, []float32{most}, []float32{most}, 0.5, 0.5}, {[]float32{most, 1}, []float32{1, most}, []float32{most, most}, 1, 1},
	}
}

func TestMixLoads(t *testing.T) {
	for _, c := range mixCases() {
		got, ok := impl.MixLoads(c.a, c.b, c.x, c.y)
		wantLists(t, "mix", got, nil, ok, c.wanted, nil)
	}
}

func TestMixLoadsThatAreNone(t *testing.T) {
	most := num(greatest)
	for _, x := range notFinite() {
		for _, list := range [][]float32{{1}, {0, 0}, gusty()} {
			got, ok := impl.MixLoads(list, list, x, 1)
			wantNoLists(t, "a wrong factor", got, nil, ok)
			got, ok = impl.MixLoads(list, list, 0, x)
			wantNoLists(t, "a wrong factor", got, nil, ok)
		}
	}
	for _, c := range [][2]int{{1, 2}, {2, 1}, {3, 2}, {63, 64}, {64, 63}, {0, 1}, {1, 0}, {64, 65}, {65, 64}} {
		got, ok := impl.MixLoads(ones(c[0]), ones(c[1]), 1, 1)
		wantNoLists(t, "lists of two lengths", got, nil, ok)
	}
	for _, c := range []mixCase{
		{[]float32{most}, []float32{most}, nil, 1, 1}, {[]float32{most}, []float32{0}, nil, 2, 1}, {[]float32{0}, []float32{-most}, nil, 1, 1.5}, {[]float32{most}, []float32{most}, nil, 2, -2}, {[]float32{1, 1, most}, []float32{1, 1, most}, nil, 1, 1}, {[]float32{most, 1}, []float32{most, 1}, nil, 1, 1},
	} {
		got, ok := impl.MixLoads(c.a, c.b, c.x, c.y)
		wantNoLists(t, "a load beyond all numbers", got, nil, ok)
	}
}

type worstCase struct {
	lists [][]float32
	worst []float32
	whose []int64
}

func worstCases() []worstCase {
	zero, tiny, most := num(minusZero), num(leastSub), num(greatest)
	many := slices.Repeat([][]float32{{1, 2}}, impl.MaxBins)
	last := slices.Clone(many)
	last[impl.MaxBins-1] = []float32{above(1), 2}
	return []worstCase{
		{[][]float32{{1, 3}, {2, 1}}, []float32{2, 3}, []int64{1, 0}}, {[][]float32{{5}}, []float32{5}, []int64{0}}, {[][]float32{{-5}, {-7}, {-5}}, []float32{-5}, []int64{0}}, {[][]float32{gusty()}, gusty(), make([]int64, 17)},
		// The first one of those that are equally great, even of zeros with two signs.
		{[][]float32{{1, 4, 2}, {1, 4, 3}, {1, 5, 3}}, []float32{1, 5, 3}, []int64{0, 2, 1}}, {many, []float32{1, 2}, []int64{0, 0}}, {last, []float32{above(1), 2}, []int64{31, 0}},
		{[][]float32{{zero, 0, zero, 0}, {0, zero, -tiny, tiny}}, []float32{zero, 0, zero, tiny}, []int64{0, 0, 0, 1}}, {[][]float32{{-1}, {zero}, {0}}, []float32{zero}, []int64{1}}, {[][]float32{{-1}, {0}, {zero}}, []float32{0}, []int64{1}},
		// At the bounds of numbers.
		{[][]float32{{-most, most, tiny}, {most, -most, 0}}, []float32{most, most, tiny}, []int64{1, 0, 0}}, {[][]float32{{below(most)}, {most}, {most}}, []float32{most}, []int64{1}}, {[][]float32{stairs(impl.MaxLoads, 0, 1), stairs(impl.MaxLoads, 63, -1)}, widest(), append(slices.Repeat([]int64{1}, 32), make([]int64, 32)...)},
	}
}

// widest returns the greater ones of 0 to 63 and of 63 to 0.
func widest() []float32 {
	return append(stairs(impl.MaxLoads/2, 63, -1), stairs(impl.MaxLoads/2, 32, 1)...)
}

func TestWorstLoads(t *testing.T) {
	for _, c := range worstCases() {
		worst, whose, ok := impl.WorstLoads(c.lists)
		wantLists(t, "worst", worst, nil, ok, c.worst, nil)
		wantCounts(t, "whose", whose, ok, c.whose...)
	}
}

func TestWorstLoadsThatAreNone(t *testing.T) {
	none := func(what string, lists ...[]float32) {
		t.Helper()
		worst, whose, ok := impl.WorstLoads(lists)
		wantNoLists(t, what, worst, nil, ok)
		wantNoCounts(t, what, whose, ok)
	}
	none("no lists")
	for _, loads := range wrongLoads() {
		none("wrong loads", loads)
		none("wrong loads, twice", loads, loads)
		none("wrong loads in front", loads, ones(len(loads)))
		none("wrong loads behind", ones(len(loads)), ones(len(loads)), loads)
	}
	for _, count := range []int{impl.MaxBins + 1, impl.MaxBins + 2, 300} {
		none("too many lists", slices.Repeat([][]float32{{1, 2}}, count)...)
	}
	for _, sizes := range [][]int{{1, 2}, {2, 1}, {3, 3, 2}, {3, 2, 3}, {64, 64, 63}, {1, 0}, {0, 1}, {64, 65}} {
		var lists [][]float32
		for _, size := range sizes {
			lists = append(lists, ones(size))
		}
		none("lists of two lengths", lists...)
	}
}

type spectrumCase struct {
	loads, along, across, powers []float32
}

func spectrumCases() []spectrumCase {
	most, tiny := num(greatest), num(leastSub)
	return []spectrumCase{
		{
			gusty(), nums(0x42663334, 0x410c7498, 0xc11229ac, 0xc03207f9, 0xc134f4fd, 0xc1998d45, 0xc12e1ffc, 0x41c9a11f, 0x41872bc6, 0x41872bc6, 0x41c9a11f, 0xc12e1ffc, 0xc1998d45, 0xc134f4fd, 0xc03207f9, 0xc11229ac, 0x410c7498),
			nums(0x00000000, 0x40b22f8f, 0x41ac076d, 0xc12b70c7, 0xbf96c61f, 0xc1b5e772, 0x41875463, 0xc0bb117c, 0x40feff5b, 0xc0feff5b, 0x40bb117c, 0xc1875463, 0x41b5e772, 0x3f96c61f, 0x412b70c7, 0xc1ac076d, 0xc0b22f8f),
			nums(0x454f000c, 0x42d8228d, 0x440876de, 0x42f5199a, 0x43014ca1, 0x445d5b43, 0x43ca4bf8, 0x44275991, 0x43ae7e5c, 0x43ae7e5c, 0x44275991, 0x43ca4bf8, 0x445d5b43, 0x43014ca1, 0x42f5199a, 0x440876de, 0x42d8228d),
		}, {
			wild(), nums(0x47c27d8c, 0x472a7608, 0xc75be184, 0xc7af9aa8, 0xc6d7cb36, 0x473b6e59, 0x4760492e, 0x45bfaae6, 0xc6d7313c, 0xc65859b4, 0xc55f3fd0, 0xc65859b4, 0xc6d7313c, 0x45bfaae6, 0x4760492e, 0x473b6e59, 0xc6d7cb36, 0xc7af9aa8, 0xc75be184, 0x472a7608),
			nums(0x00000000, 0x47a8472c, 0x47937021, 0xc63f5a7e, 0xc79822b7, 0xc73d96ec, 0x468ddda1, 0x472faeec, 0x468ef6cc, 0xc61b6b19, 0x00000000, 0x461b6b19, 0xc68ef6cc, 0xc72faeec, 0xc68ddda1, 0x473d96ec, 0x479822b7, 0x463f5a7e, 0xc7937021, 0xc7a8472c),
			nums(0x5013c286, 0x500afdbc, 0x500420df, 0x4ff561df, 0x4fcb8f5b, 0x4f8ad14c, 0x4f58279e, 0x4ef59d40, 0x4e825d3a, 0x4d8a992e, 0x4b42b03c, 0x4d8a992e, 0x4e825d3a, 0x4ef59d40, 0x4f58279e, 0x4f8ad14c, 0x4fcb8f5b, 0x4ff561df, 0x500420df, 0x500afdbc),
		}, {
			fine(), nums(0x411e6667, 0x33800000, 0x35580000, 0x33800000, 0xb5b00000, 0xb5b00000, 0x33800000, 0x35580000, 0x33800000), nums(0x00000000, 0xb4000000, 0x34800000, 0x35d00000, 0xb4c00000, 0x34c00000, 0xb5d00000, 0xb4800000, 0x34000000),
			nums(0x42c40520, 0x28a00000, 0x2b464000, 0x2c294000, 0x2c020000, 0x2c020000, 0x2c294000, 0x2b464000, 0x28a00000),
		},
		{[]float32{7}, []float32{7}, []float32{0}, []float32{49}}, {[]float32{0}, []float32{0}, []float32{0}, []float32{0}}, {[]float32{num(minusZero)}, []float32{0}, []float32{0}, []float32{0}}, {[]float32{1, 3}, []float32{4, -2}, []float32{0, 0}, []float32{16, 4}},
		{[]float32{1, 2, 4, 9}, []float32{16, -3, -6, -3}, []float32{0, 7, 0, -7}, []float32{256, 58, 36, 58}}, {[]float32{0, 1, 0, 0}, []float32{1, 0, -1, 0}, []float32{0, -1, 0, 1}, ones(4)}, {[]float32{5, 5, 5, 5}, []float32{20, 0, 0, 0}, make([]float32, 4), []float32{400, 0, 0, 0}},
		{[]float32{tiny}, []float32{tiny}, []float32{0}, []float32{0}}, {[]float32{1.8e19, 0}, []float32{1.8e19, 1.8e19}, []float32{0, 0}, nums(0x7f73c022, 0x7f73c022)}, {append([]float32{1}, make([]float32, impl.MaxLoads-1)...), ones(impl.MaxLoads), make([]float32, impl.MaxLoads), ones(impl.MaxLoads)},
		// The powers of these are beyond all numbers.
		{[]float32{1e20}, []float32{1e20}, []float32{0}, nil}, {[]float32{most}, []float32{most}, []float32{0}, nil}, {[]float32{most, 0}, []float32{most, most}, []float32{0, 0}, nil}, {[]float32{0, 1.2e19, 0, -1.2e19}, make([]float32, 4), []float32{0, -2.4e19, 0, 2.4e19}, nil}, {[]float32{9.3e18, -9.3e18}, []float32{0, 1.86e19}, []float32{0, 0}, nil},
	}
}

func TestSpectrumOfLoadsAndPowersOfLoads(t *testing.T) {
	for _, c := range spectrumCases() {
		spectrum, ok := impl.SpectrumOfLoads(c.loads)
		var along, across []float32
		for _, x := range spectrum {
			along, across = append(along, real(x)), append(across, imag(x))
		}
		wantLists(t, "spectrum", along, across, ok, c.along, c.across)
		powers, ok := impl.PowersOfLoads(c.loads)
		if c.powers == nil {
			wantNoLists(t, "powers beyond all numbers", powers, nil, ok)
			continue
		}
		wantLists(t, "powers", powers, nil, ok, c.powers, nil)
	}
}

func TestSpectrumOfLoadsThatIsNone(t *testing.T) {
	most := num(greatest)
	for _, loads := range [][]float32{{most, most}, {most, -most}, {-most, -most}, {0, most, 0, -most}, {2e38, 1, 2e38}, ones(impl.MaxLoads)} {
		if len(loads) == impl.MaxLoads {
			loads[3], loads[7] = most, most
		}
		spectrum, ok := impl.SpectrumOfLoads(loads)
		want(t, "a spectrum beyond all numbers", !ok && len(spectrum) == 0, true)
		powers, ok := impl.PowersOfLoads(loads)
		wantNoLists(t, "the powers of none", powers, nil, ok)
	}
}

// turnedBack returns the sum, in 64-bit numbers, of loads that go back m times around a circle.
func turnedBack(loads []float32, m int) complex128 {
	var sum complex128
	for k, x := range loads {
		sum += complex(float64(x), 0) * cmplx.Rect(1, -2*math.Pi*float64(m*k)/float64(len(loads)))
	}
	return sum
}

func TestSpectrumOfAnyCount(t *testing.T) {
	n := noise(73)
	for count := 1; count <= impl.MaxLoads; count++ {
		loads := make([]float32, count)
		squares := 0.0
		for i := range loads {
			loads[i] = 10 * n.between()
			squares += float64(loads[i]) * float64(loads[i])
		}
		spectrum, ok := impl.SpectrumOfLoads(loads)
		powers, two := impl.PowersOfLoads(loads)
		want(t, "success", ok && two && len(spectrum) == count && len(powers) == count, true)
		all := 0.0
		for m, x := range spectrum {
			if cmplx.Abs(complex128(x)-turnedBack(loads, m)) > 1e-3 {
				t.Fatalf("%v of %v: got %v, want nearly %v", m, count, x, turnedBack(loads, m))
			}
			// By the functions of chapter 1, to the last bit.
			var sum complex64
			for k, load := range loads {
				rest := (count*count - m*k) % count
				sum += impl.ScaleComplex(impl.PhasorOf(float64(rest)/float64(count)), load)
			}
			wantParts(t, "spectrum", x, bitsOf(real(sum)), bitsOf(imag(sum)))
			wantBits(t, "power", powers[m], bitsOf(impl.PowerOf(sum)))
			all += float64(powers[m])
		}
		want(t, "the powers are those of the loads", math.Abs(all/float64(count)-squares) < 1e-3*squares, true)
	}
}
