package tests

import (
	"math"
	"slices"
	"strconv"
	"testing"

	"loop.example/g01256/impl"
)

func wantNoGusts(t *testing.T, what string, winds []float32, seed int64, ok bool) {
	t.Helper()
	if ok || len(winds) > 0 || seed != 0 {
		t.Errorf("%s: got %v %v %v, want none", what, winds, seed, ok)
	}
}

func wantGusts(t *testing.T, what string, winds []float32, seed int64, ok bool, wantedSeed int64, wanted []float32) {
	t.Helper()
	if !ok || seed != wantedSeed || !sameNumbers(winds, wanted) {
		t.Errorf("%s: got %v %v %v, want %v %v", what, winds, seed, ok, wanted, wantedSeed)
	}
}

func TestGustsOf(t *testing.T) {
	for _, c := range []struct {
		a                   impl.Air
		height, rough, keep float32
		seed, next          int64
		winds               []float32
	}{
		{breeze(), 20, 0.4, 0.6, 1, 2035015474, nums(0x41074c82, 0x40c7fb32, 0x40ba1117, 0x40e2151e, 0x41294492)},
		{breeze(), 0, 0.4, 0.6, 0, 229283573, nums(0x404c04ea, 0x40965091, 0x4083a597, 0x40aaca7a, 0x4069fcec)},
		{breeze(), 11.3, 2.5, 1, 2147483647, 571035320, nums(0x40e54b06, plusZero, plusZero, plusZero, plusZero)},
		{breeze(), 100, 7, 0.95, 123456789, 1634557174, nums(plusZero, plusZero, 0x41005fb2, plusZero, 0x41f048ac)},
		{breeze(), 3, 1, 0, 42, 1250496027, nums(0x40eb53da)},
		{gale(), 20, 0.4, 0.6, 1, 2035015474, nums(0x414dec6b, 0x41182f49, 0x410d988a, 0x412c0c32, 0x4180cfde)},
		{gale(), 0, 0.4, 0.6, 0, 229283573, nums(0x3f4f837a, 0x3f98e3a7, 0x3f85e6d2, 0x3fadb757, 0x3f6dfee4)},
		{gale(), 11.3, 2.5, 1, 2147483647, 571035320, nums(0x410323da, plusZero, plusZero, plusZero, plusZero)},
		{gale(), 100, 7, 0.95, 123456789, 1634557174, nums(plusZero, plusZero, 0x41b0b7f3, plusZero, 0x42a562fa)},
		{gale(), 3, 1, 0, 42, 1250496027, nums(0x408968bc)},
	} {
		winds, seed, ok := impl.GustsOf(c.a, c.height, int64(len(c.winds)), c.rough, c.keep, c.seed)
		wantGusts(t, "gusts", winds, seed, ok, c.next, c.winds)
	}
}

func TestGustsGoOn(t *testing.T) {
	all, last, ok := impl.GustsOf(gale(), 33, impl.MaxWinds, 0.3, 0, 2147483647)
	want(t, "all gusts", ok && len(all) == impl.MaxWinds, true)
	// Where nothing is kept, gusts of the next seed go on, and each one is of its own seed.
	seed := int64(2147483647)
	for _, count := range []int{1, 2, 100, impl.MaxWinds - 103} {
		winds, next, ok := impl.GustsOf(gale(), 33, int64(count), 0.3, 0, seed)
		want(t, "some gusts", ok && sameNumbers(winds, all[:count]), true)
		seed, all = next, all[count:]
	}
	want(t, "the last seed", seed, last)
	// A seed is an integer of 31 bits, whose product is not rounded.
	for _, c := range [][2]int64{{0, 12345}, {1, 1103527590}, {2147483647, 1043980748}, {2147483646, 2087949151}, {12345, 1406932606}} {
		_, next, ok := impl.GustsOf(gale(), 33, 1, 0, 0, c[0])
		want(t, "the next seed", ok && next == c[1], true)
	}
}

func TestGustsWithoutAny(t *testing.T) {
	speed, _ := impl.SpeedAtHeight(breeze(), 50)
	for _, count := range []int64{1, 2, impl.MaxWinds - 1, impl.MaxWinds} {
		winds, _, ok := impl.GustsOf(breeze(), 50, count, 0, 1, 77)
		want(t, "winds without gusts", ok && sameNumbers(winds, slices.Repeat([]float32{speed}, int(count))), true)
	}
	// The seed does not count where winds are not rough, but goes on.
	one, first, _ := impl.GustsOf(breeze(), 50, 3, num(minusZero), num(minusZero), 1)
	two, second, _ := impl.GustsOf(breeze(), 50, 3, 0, 0.5, 2)
	want(t, "winds of two seeds", sameNumbers(one, two) && first != second, true)
}

func TestGustsThatComeToNothing(t *testing.T) {
	none := make([]float32, 40)
	for what, a := range map[string]impl.Air{"no wind": plain(0, 1), "no wind with a sign": plain(num(minusZero), 0.5), "nearly no wind": plain(num(leastSub), 1)} {
		winds, _, ok := impl.GustsOf(a, 0, 40, 0.4, 0.5, 5)
		want(t, what, ok && sameNumbers(winds, none), true)
	}
	winds, _, ok := impl.GustsOf(plain(8, 1), 0, 40, 100, 1, 5)
	want(t, "at the ground", ok && sameNumbers(winds, none), true)
	// An x that is less than all numbers leaves nothing, and one beyond them leaves not-a-numbers where there is no wind.
	winds, seed, ok := impl.GustsOf(plain(8, 0), 10, 4, num(greatest), 1, 18)
	wantGusts(t, "an x less than all numbers", winds, seed, ok, 316279646, make([]float32, 4))
	winds, _, ok = impl.GustsOf(plain(8, 0), 10, 40, num(greatest), 1, 18)
	want(t, "an x less than all numbers, for long", ok && sameNumbers(winds, none), true)
	for seed := range int64(40) {
		winds, _, ok = impl.GustsOf(plain(0, 0), 10, 40, num(greatest), 1, seed)
		want(t, "no wind, and an x beyond all numbers", ok && sameNumbers(winds, none), true)
		winds, _, ok = impl.GustsOf(plain(num(minusZero), 0), 10, 40, num(greatest), 0.9, seed)
		want(t, "no wind with a sign, and an x beyond all numbers", ok && sameNumbers(winds, none), true)
	}
}

func TestGustsByHand(t *testing.T) {
	for _, c := range []struct {
		rough, keep float32
		seed        int64
	}{{0.5, 0.7, 99}, {1, 1, 2147483647}, {0.123, 0.987, 0}, {3, 0, 31337}} {
		winds, last, ok := impl.GustsOf(breeze(), 25, impl.MaxWinds, c.rough, c.keep, c.seed)
		want(t, "success", ok && len(winds) == impl.MaxWinds, true)
		speed, _ := impl.SpeedAtHeight(breeze(), 25)
		seed, x := uint64(c.seed), float32(0)
		for _, wind := range winds {
			seed = (1103515245*seed + 12345) & 0x7fffffff
			u := (float32(seed>>16) - 16384) / 16384
			x = float32(c.keep*x) + float32(c.rough*u)
			wanted := speed * (1 + x)
			if wanted <= 0 {
				wanted = 0
			}
			wantBits(t, "wind", wind, bitsOf(wanted))
		}
		want(t, "the last seed", last, int64(seed))
	}
}

func TestGustsOfWrongArguments(t *testing.T) {
	none := func(what string, height float32, count int64, rough, keep float32, seed int64) {
		t.Helper()
		winds, next, ok := impl.GustsOf(breeze(), height, count, rough, keep, seed)
		wantNoGusts(t, what, winds, next, ok)
	}
	for _, count := range []int64{0, -1, impl.MaxWinds + 1, 1 << 32, 1<<32 + 1, math.MaxInt64, math.MinInt64} {
		none("a wrong number", 10, count, 0.1, 0.5, 1)
	}
	for _, seed := range []int64{-1, 2147483648, 1<<32 + 1, math.MaxInt64, math.MinInt64} {
		none("a wrong seed", 10, 3, 0.1, 0.5, seed)
	}
	for _, x := range notAmounts() {
		none("a wrong height", x, 3, 0.1, 0.5, 1)
		none("a wrong rough", 10, 3, x, 0.5, 1)
	}
	for _, x := range notShares() {
		none("a wrong keep", 10, 3, 0.1, x, 1)
	}
	// Winds that are not finite, the first one or a later one, and a speed that is not.
	gusts := func(speed, shear, height, rough, keep float32) ([]float32, int64, bool) {
		return impl.GustsOf(plain(speed, shear), height, 40, rough, keep, 29)
	}
	winds, seed, ok := gusts(num(greatest), 0, 10, 1, 0)
	wantNoGusts(t, "a wind that is not finite", winds, seed, ok)
	winds, seed, ok = gusts(1, 0, 10, num(greatest), 1)
	wantNoGusts(t, "an x that is not finite", winds, seed, ok)
	winds, seed, ok = gusts(num(greatest)*0.7, 1, 1000, 0, 0)
	wantNoGusts(t, "a speed that is not finite", winds, seed, ok)
	_, _, ok = gusts(1, 0, 10, num(greatest), 0)
	want(t, "great gusts that are finite", ok, true)
}

// someWinds returns a list of winds without a rule.
func someWinds() []float32 {
	return []float32{3.1, 0.7, 9.3, 4.4, 2.2, 8.8, 0.1, 5.9, 7.7, 6.05}
}

// wrongWinds are no lists of winds.
func wrongWinds() [][]float32 {
	wrong := [][]float32{nil, {}, ones(impl.MaxWinds + 1), ones(1000)}
	for _, x := range notAmounts() {
		for i := range 3 {
			list := ones(3)
			list[i] = x
			wrong = append(wrong, list)
		}
		long := ones(impl.MaxWinds)
		long[impl.MaxWinds-1] = x
		wrong = append(wrong, long, []float32{x})
	}
	return wrong
}

func TestWrongWindsAreRefused(t *testing.T) {
	for _, list := range wrongWinds() {
		for i, got := range allOfWinds(list, 1, 1) {
			want(t, "what function "+strconv.Itoa(i)+" tells of wrong winds", got, "")
		}
	}
	for _, list := range [][]float32{{0}, {num(minusZero), 1}, {num(leastSub), 1, 2}, ones(impl.MaxWinds - 1), ones(impl.MaxWinds), {num(greatest)}} {
		for i, got := range allOfWinds(list, 1, 1) {
			// There are no gusts where there is no wind.
			if got == "" && (list[0] > 0 || len(list) > 1) {
				t.Errorf("function %v: got nothing of %v", i, list)
			}
		}
	}
}

func TestMeanAndSpreadOfWinds(t *testing.T) {
	for _, c := range []struct {
		list         []float32
		mean, spread uint32
	}{
		{someWinds(), 0x409a6666, 0x40466ffb}, {[]float32{0.1, 0.2, 0.3}, 0x3e4ccccd, 0x3da737f0}, {nums(1, 2, 1), leastSub, plusZero}, {[]float32{1e-30, 3e-30}, 0x0e224260, plusZero},
		// From left to right.
		{[]float32{16777216, 1, 1}, 0x4aaaaaab, 0x4af15bed}, {[]float32{1, 1, 16777216}, 0x4aaaaaac, 0x4af15bee},
		{[]float32{1, 3}, bitsOf(2), bitsOf(1)}, {[]float32{7.7}, bitsOf(7.7), plusZero}, {nums(greatest), greatest, plusZero}, {nums(leastSub), leastSub, plusZero}, {ones(impl.MaxWinds), bitsOf(1), plusZero},
		// Sums begin with +0, so that winds of nothing have no sign.
		{nums(minusZero), plusZero, plusZero}, {nums(minusZero, minusZero), plusZero, plusZero}, {nums(plusZero, minusZero), plusZero, plusZero}, {make([]float32, impl.MaxWinds), plusZero, plusZero},
	} {
		got, ok := impl.MeanOfWinds(c.list)
		wantNumber(t, "mean", got, ok, c.mean)
		got, ok = impl.SpreadOfWinds(c.list)
		wantNumber(t, "spread", got, ok, c.spread)
	}
	// A sum that is not finite.
	got, ok := impl.MeanOfWinds(nums(greatest, greatest))
	wantNoSum(t, "mean of a sum that is not finite", got, ok)
	got, ok = impl.SpreadOfWinds(nums(greatest, greatest))
	wantNoSum(t, "spread of a sum that is not finite", got, ok)
	// Squares that are not finite.
	for _, list := range [][]float32{{1e20, 3e20}, {1e38, 2e38, 1e37}, {0, 1e20}} {
		_, ok := impl.MeanOfWinds(list)
		want(t, "a mean that is finite", ok, true)
		got, ok := impl.SpreadOfWinds(list)
		wantNoSum(t, "spread that is not finite", got, ok)
	}
}

func TestSmoothWindsAndGustFactor(t *testing.T) {
	smooth := [][]float32{
		someWinds(),
		nums(0x3ff33333, 0x40a00000, 0x40db3334, 0x40533334, 0x40b00000, 0x408e6667, 0x40400000, 0x40d9999a, 0x40dc0000),
		nums(0x408bbbbc, 0x40999999, 0x40a9999a, 0x40a44445, 0x406ccccd, 0x409ddddf, 0x40922222, 0x40d1999b),
		nums(0x408c0000, 0x4084cccd, 0x40c5999a, 0x40780001, 0x40880000, 0x40b40000, 0x409e0000),
		nums(0x407c28f6, 0x40a28f5d, 0x409eb852, 0x4088f5c3, 0x409e147b, 0x40b6b852),
		nums(0x40980000, 0x40880001, 0x40a3bbbc, 0x409b3334, 0x40a40000),
		nums(0x4082be2c, 0x408f8af9, 0x40af8af9, 0x40a0af8b),
		nums(0x408a0000, 0x409c6667, 0x40b1cccd),
		nums(0x40960b61, 0x40a08889),
		nums(0x409a6666),
	}
	factors := []uint32{0x3ff6b70d, 0x3fb66228, 0x3fadc2fe, 0x3fa3d040, 0x3f977a4c, 0x3f87f564, 0x3f91871c, 0x3f936623, 0x3f8515ab, 0x3f800000}
	for i, wanted := range smooth {
		got, ok := impl.SmoothWinds(someWinds(), int64(i)+1)
		want(t, "smooth winds", ok && sameNumbers(got, wanted), true)
		factor, ok := impl.GustFactor(someWinds(), int64(i)+1)
		wantNumber(t, "gust factor", factor, ok, factors[i])
	}
	for _, window := range []int64{0, -1, 11, 12, 1<<32 + 1, math.MaxInt64, math.MinInt64} {
		got, ok := impl.SmoothWinds(someWinds(), window)
		want(t, "smooth winds of a wrong window", ok || len(got) > 0, false)
		factor, ok := impl.GustFactor(someWinds(), window)
		wantNoSum(t, "gust factor of a wrong window", factor, ok)
	}
	all := someNumbers(2, impl.MaxWinds)
	for _, window := range []int64{1, 2, impl.MaxWinds - 1, impl.MaxWinds} {
		got, ok := impl.SmoothWinds(all, window)
		want(t, "as many means as there are", ok && int64(len(got)) == impl.MaxWinds+1-window, true)
		for i, x := range got {
			mean, _ := impl.MeanOfWinds(all[i : i+int(window)])
			wantBits(t, "mean", x, bitsOf(mean))
		}
	}
	got, ok := impl.SmoothWinds(all, impl.MaxWinds+1)
	want(t, "one more than there are", ok || len(got) > 0, false)
	_, one := impl.SmoothWinds([]float32{5}, 1)
	_, two := impl.SmoothWinds([]float32{5}, 2)
	want(t, "windows of a single wind", one && !two, true)
}

func TestSmoothWindsOfOddNumbers(t *testing.T) {
	// A window of one takes the sign of nothing away.
	got, ok := impl.SmoothWinds(nums(minusZero, plusZero, minusZero), 1)
	want(t, "smooth winds of nothing", ok && sameNumbers(got, nums(plusZero, plusZero, plusZero)), true)
	// Each mean is a sum of its own, which is not made of the one before.
	got, ok = impl.SmoothWinds([]float32{16777216, 1, 1, 1}, 2)
	want(t, "smooth winds of great and small ones", ok && sameNumbers(got, []float32{8388608, 1, 1}), true)
	for i := range 4 {
		list := ones(5)
		list[i], list[i+1] = num(greatest), num(greatest)
		got, ok := impl.SmoothWinds(list, 2)
		want(t, "one mean that is not finite", ok || len(got) > 0, false)
		got, ok = impl.SmoothWinds(list, 1)
		want(t, "means that are finite", ok && sameNumbers(got, list), true)
		factor, ok := impl.GustFactor(list, 1)
		wantNoSum(t, "a mean of all that is not finite", factor, ok)
	}
	for _, list := range [][]float32{{0}, nums(minusZero, plusZero), nums(leastSub, plusZero, plusZero)} {
		for window := range int64(len(list)) {
			factor, ok := impl.GustFactor(list, window+1)
			wantNoSum(t, "gust factor by nothing", factor, ok)
		}
	}
	factor, ok := impl.GustFactor(nums(1, 2, 1), 2)
	wantNumber(t, "gust factor of nearly nothing", factor, ok, bitsOf(2))
	factor, ok = impl.GustFactor([]float32{1, 1, 16777216}, 1)
	wantNumber(t, "gust factor, the greatest divided by the mean", factor, ok, 0x403fffff)
}

func TestBinsOfWinds(t *testing.T) {
	for _, c := range []struct {
		list  []float32
		width float32
		bins  []int64
	}{
		{[]float32{0, 1.5, 9}, 1, []int64{1, 1, 1}},
		{someWinds(), 2, []int64{2, 2, 2, 2, 2}}, {someWinds(), 2, []int64{2, 2, 2, 4}}, {someWinds(), 3, []int64{3, 3, 4}}, {someWinds(), 3, []int64{3, 3, 3, 1}}, {someWinds(), 3, []int64{3, 3, 3, 1, 0, 0, 0, 0, 0, 0, 0, 0, 0, 0, 0, 0}},
		{someWinds(), 0.5, []int64{10}}, {someWinds(), 100, []int64{10}}, {someWinds(), 100, []int64{10, 0}}, {someWinds(), 0.05, []int64{0, 10}},
		// At an edge, a wind is in the bin above, and just below, in that below.
		{[]float32{2, 4, 6}, 2, []int64{0, 1, 1, 1}}, {nums(0x3fffffff, 0x407fffff, 0x40bfffff), 2, []int64{1, 1, 1, 0}}, {nums(0x40000001, 0x40800001), 2, []int64{0, 1, 1}},
		{nums(plusZero, minusZero, leastSub), 1, []int64{3, 0}}, {nums(plusZero, leastSub, 2, 3), num(leastSub), []int64{1, 1, 1, 1}},
		// The quotient is rounded: 0.7 is less than 7 times 0.1, but the quotient of both is 7.
		{[]float32{0.7}, 0.1, []int64{0, 0, 0, 0, 0, 0, 0, 1}}, {[]float32{0.3}, 0.1, []int64{0, 0, 0, 1}}, {[]float32{num(0x3e999999)}, 0.1, []int64{0, 0, 1, 0}}, {[]float32{0.6}, 0.1, []int64{0, 0, 0, 0, 0, 0, 1}},
		// The last bin has all greater ones, even where the quotient is beyond all integers, or all numbers.
		{[]float32{3, 1e9, 1e18, 1e19, 1e20, 1e38}, 1, []int64{0, 0, 6}}, {nums(greatest, 0x3f800000, plusZero), num(leastSub), []int64{1, 0, 2}}, {nums(greatest), 1e-30, []int64{0, 1}}, {nums(greatest), num(greatest), []int64{0, 1}}, {nums(0x7f7ffffe), num(greatest), []int64{1, 0}},
		{ones(impl.MaxWinds), 1, []int64{0, impl.MaxWinds, 0}},
	} {
		got, ok := impl.BinsOfWinds(c.list, c.width, int64(len(c.bins)))
		if !ok || !slices.Equal(got, c.bins) {
			t.Errorf("bins of %v, with the width %v: got %v %v, want %v", c.list, c.width, got, ok, c.bins)
		}
	}
	none := func(what string, width float32, count int64) {
		t.Helper()
		got, ok := impl.BinsOfWinds(someWinds(), width, count)
		want(t, what, ok || len(got) > 0, false)
	}
	for _, x := range notPositive() {
		none("bins of a wrong width", x, 3)
	}
	for _, count := range wrongSectors() {
		none("a wrong number of bins", 1, count)
	}
}

// wrongSectors are no numbers of sectors, nor of bins.
func wrongSectors() []int64 {
	return []int64{0, -1, impl.MaxSectors + 1, 1 << 32, 1<<32 + 1, math.MaxInt64, math.MinInt64}
}

func TestCalmsOf(t *testing.T) {
	for _, c := range []struct {
		list          []float32
		level         float32
		calms, length int64
	}{
		{[]float32{1, 5, 2, 1}, 3, 2, 2}, {[]float32{1}, 3, 1, 1}, {[]float32{3}, 3, 0, 0}, {[]float32{5}, 3, 0, 0}, {nums(0x403fffff), 3, 1, 1}, {nums(0x40400001), 3, 0, 0},
		{[]float32{1, 1, 1, 5, 1, 5, 1, 1}, 3, 3, 3}, {[]float32{5, 1, 5, 1, 1, 5}, 3, 2, 2}, {[]float32{5, 1, 1, 1}, 3, 1, 3}, {[]float32{1, 1, 5, 5, 1, 1, 1, 5, 1}, 3, 3, 3}, {[]float32{5, 5, 5, 1, 5, 5}, 3, 1, 1},
		{ones(impl.MaxWinds), 2, 1, impl.MaxWinds}, {ones(impl.MaxWinds), 1, 0, 0}, {ones(impl.MaxWinds), num(0x3f800001), 1, impl.MaxWinds},
		{someWinds(), 4.4, 3, 2}, {someWinds(), num(0x408ccccc), 3, 2}, {someWinds(), num(0x408cccce), 3, 2}, {someWinds(), 9, 2, 7}, {someWinds(), 0.1, 0, 0}, {someWinds(), 0.2, 1, 1},
		// Any number can be a level.
		{someWinds(), num(plusInf), 1, 10}, {someWinds(), num(minusInf), 0, 0}, {someWinds(), num(aNaN), 0, 0}, {someWinds(), num(0xffffffff), 0, 0}, {someWinds(), -1, 0, 0}, {someWinds(), num(greatest), 1, 10},
		{nums(plusZero, minusZero), 0, 0, 0}, {nums(plusZero, minusZero), num(minusZero), 0, 0}, {nums(plusZero, minusZero), num(leastSub), 1, 2}, {nums(greatest), num(plusInf), 1, 1},
	} {
		calms, length, ok := impl.CalmsOf(c.list, c.level)
		if !ok || calms != c.calms || length != c.length {
			t.Errorf("calms of %v below %v: got %v %v %v, want %v %v", c.list, c.level, calms, length, ok, c.calms, c.length)
		}
	}
	// Calms of one wind each, as many as there can be.
	list := ones(impl.MaxWinds)
	for i := 0; i < len(list); i += 2 {
		list[i] = 0
	}
	calms, length, ok := impl.CalmsOf(list, 1)
	want(t, "as many calms as there can be", ok && calms == impl.MaxWinds/2 && length == 1, true)
}

func TestCalmsByHand(t *testing.T) {
	n := noise(31)
	for range 3000 {
		list := make([]float32, 1+n.next()%40)
		for i := range list {
			list[i] = float32(n.next() % 4)
		}
		level := float32(n.next() % 5)
		var starts, longest, length int64
		for i, x := range list {
			if x >= level {
				length = 0
				continue
			}
			length++
			longest = max(longest, length)
			if i == 0 || list[i-1] >= level {
				starts++
			}
		}
		calms, most, ok := impl.CalmsOf(list, level)
		if !ok || calms != starts || most != longest {
			t.Fatalf("calms of %v below %v: got %v %v %v, want %v %v", list, level, calms, most, ok, starts, longest)
		}
	}
}
