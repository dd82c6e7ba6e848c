package tests

import (
	"math"
	"slices"
	"testing"

	"loop.example/g01256/impl"
)

// fiveSectors, otherSectors and fullRose are roses without any simple number.
func fiveSectors() impl.Rose {
	return impl.Rose{Shares: []float32{0.3, 0.1, 0.25, 0.07, 0.28}, Speeds: []float32{5.5, 3.3, 9.1, 0, 7.7}}
}

func otherSectors() impl.Rose {
	return impl.Rose{Shares: []float32{0.11, 0, 0.4, 0.9, 1.7}, Speeds: []float32{2.2, 8.8, 6.1, 4.4, 0.3}}
}

func fullRose() impl.Rose {
	return impl.Rose{
		Shares: []float32{0.07, 0.13, 0.02, 0.21, 0.05, 0.09, 0.3, 0.01, 0.04, 0.08, 0.11, 0.03, 0.17, 0.06, 0.12, 0.19},
		Speeds: []float32{3.1, 4.7, 5.3, 2.9, 8.1, 1.7, 6.6, 9.9, 0.4, 7.2, 5.1, 3.8, 4.2, 6.3, 2.2, 10.4},
	}
}

// roseOf returns a rose with some shares and speeds.
func roseOf(shares, speeds []float32) impl.Rose {
	return impl.Rose{Shares: shares, Speeds: speeds}
}

func copyOfRose(r impl.Rose) impl.Rose {
	return roseOf(slices.Clone(r.Shares), slices.Clone(r.Speeds))
}

// sameRoses does not use the program, so that a wrong SameRose is not held against itself.
func sameRoses(a, b impl.Rose) bool {
	return sameNumbers(a.Shares, b.Shares) && sameNumbers(a.Speeds, b.Speeds)
}

func wantRose(t *testing.T, what string, got impl.Rose, ok bool, wanted impl.Rose) {
	t.Helper()
	if !ok || !sameRoses(got, wanted) {
		t.Errorf("%s: got %v %v, want %v", what, got, ok, wanted)
	}
}

func wantNoRose(t *testing.T, what string, got impl.Rose, ok bool) {
	t.Helper()
	if ok || len(got.Shares)+len(got.Speeds) > 0 {
		t.Errorf("%s: got %v %v, want none", what, got, ok)
	}
}

// wrongRoses returns roses each of which has one thing that a valid one has not.
func wrongRoses() []impl.Rose {
	wrong := []impl.Rose{
		{}, roseOf([]float32{}, []float32{}), roseOf(ones(impl.MaxSectors+1), ones(impl.MaxSectors+1)), roseOf(ones(300), ones(300)),
		roseOf(ones(1), nil), roseOf(nil, ones(1)), roseOf(ones(3), ones(2)), roseOf(ones(2), ones(3)), roseOf(ones(impl.MaxSectors), ones(impl.MaxSectors+1)), roseOf(ones(impl.MaxSectors+1), ones(impl.MaxSectors)),
	}
	for _, x := range notAmounts() {
		for _, i := range []int{0, 2, 4} {
			r, q := fiveSectors(), fiveSectors()
			r.Shares[i], q.Speeds[i] = x, x
			wrong = append(wrong, r, q)
		}
	}
	return wrong
}

// oddRoses returns valid roses with numbers at their bounds.
func oddRoses() []impl.Rose {
	return []impl.Rose{
		roseOf([]float32{0}, []float32{0}), roseOf(nums(minusZero), nums(minusZero)), roseOf(nums(minusZero, leastSub), nums(greatest, plusZero)), roseOf(nums(greatest, greatest, 0x3f800000), nums(plusZero, leastSub, 0x3f800000)),
		roseOf(make([]float32, impl.MaxSectors), ones(impl.MaxSectors)), roseOf(ones(impl.MaxSectors), make([]float32, impl.MaxSectors)),
	}
}

func TestValidRose(t *testing.T) {
	for _, r := range append(oddRoses(), fiveSectors(), otherSectors(), fullRose(), roseOf(ones(1), ones(1)), roseOf(ones(impl.MaxSectors), ones(impl.MaxSectors))) {
		if !impl.ValidRose(r) {
			t.Errorf("%v is valid", r)
		}
	}
	for _, r := range wrongRoses() {
		if impl.ValidRose(r) {
			t.Errorf("%v is not valid", r)
		}
	}
}

func TestWrongRosesAreRefused(t *testing.T) {
	for _, r := range wrongRoses() {
		for i, got := range allOfRose(r, r, 0.5, 0) {
			if got != "" {
				t.Errorf("%v: function %v: got %v, want none", r, i, got)
			}
		}
		for _, q := range []impl.Rose{fiveSectors(), fullRose(), roseOf(ones(1), ones(1))} {
			got, ok := impl.MixRoses(q, r, 0)
			wantNoRose(t, "mixed with a wrong rose", got, ok)
			got, ok = impl.MixRoses(r, q, 1)
			wantNoRose(t, "mixed from a wrong rose", got, ok)
		}
	}
	for _, r := range []impl.Rose{fiveSectors(), fullRose()} {
		for i, got := range allOfRose(r, r, 0.5, 0) {
			if got == "" {
				t.Errorf("%v: function %v: got nothing", r, i)
			}
		}
	}
}

func TestSameRose(t *testing.T) {
	for _, r := range slices.Concat(wrongRoses(), oddRoses(), []impl.Rose{fiveSectors(), fullRose()}) {
		want(t, "same as itself", impl.SameRose(r, copyOfRose(r)), true)
		differ := func(what string, q impl.Rose) {
			t.Helper()
			if impl.SameRose(r, q) || impl.SameRose(q, r) {
				t.Errorf("%v: same with %s", r, what)
			}
		}
		differ("one share more", roseOf(append(slices.Clone(r.Shares), 0), r.Speeds))
		differ("one speed more", roseOf(r.Shares, append(slices.Clone(r.Speeds), 0)))
		for _, x := range nums(plusZero, minusZero, aNaN, plusInf, 0x3f800001) {
			for i, y := range r.Shares {
				if bitsOf(x) != bitsOf(y) {
					q := copyOfRose(r)
					q.Shares[i] = x
					differ("another share", q)
				}
			}
			for i, y := range r.Speeds {
				if bitsOf(x) != bitsOf(y) {
					q := copyOfRose(r)
					q.Speeds[i] = x
					differ("another speed", q)
				}
			}
		}
	}
	want(t, "nil and empty lists", impl.SameRose(impl.Rose{}, roseOf([]float32{}, []float32{})), true)
	want(t, "not-a-numbers", impl.SameRose(roseOf(nums(0xff800001), nums(aNaN)), roseOf(nums(0x7fffffff), nums(0x7f800001))), true)
	want(t, "shares as speeds", impl.SameRose(roseOf(ones(2), nil), roseOf(nil, ones(2))), false)
}

func TestEvenRose(t *testing.T) {
	for _, c := range []struct {
		count int64
		share uint32
	}{{1, 0x3f800000}, {2, 0x3f000000}, {3, 0x3eaaaaab}, {7, 0x3e124925}, {15, 0x3d888889}, {impl.MaxSectors, 0x3d800000}} {
		for _, speed := range nums(plusZero, minusZero, leastSub, 0x40f66666, greatest) {
			got, ok := impl.EvenRose(c.count, speed)
			wantRose(t, "even rose", got, ok, roseOf(slices.Repeat(nums(c.share), int(c.count)), slices.Repeat([]float32{speed}, int(c.count))))
		}
	}
	for _, count := range wrongSectors() {
		got, ok := impl.EvenRose(count, 5)
		wantNoRose(t, "even rose of a wrong number", got, ok)
	}
	for _, x := range notAmounts() {
		got, ok := impl.EvenRose(4, x)
		wantNoRose(t, "even rose of a wrong speed", got, ok)
	}
}

func TestSectorOf(t *testing.T) {
	got, ok := impl.SectorOf(0.9, 4)
	want(t, "the sector of the example", ok && got == 0, true)
	for _, c := range []struct {
		turn          uint32
		count, wanted int64
		what          string
	}{
		{plusZero, 4, 0, "nothing"}, {minusZero, 4, 0, "nothing with a sign"}, {leastSub, 16, 0, "nearly nothing"}, {leastSub | minusZero, 16, 0, "nearly nothing, backwards"},
		{0x3e000000, 4, 1, "at an edge"}, {0x3dffffff, 4, 0, "below an edge"}, {0x3e000001, 4, 1, "above an edge"}, {0x3ec00000, 4, 2, "at the next one"}, {0x3ebfffff, 4, 1, "below the next one"},
		{0x3f200000, 4, 3, "at the third one"}, {0x3f1fffff, 4, 2, "below the third one"}, {0x3f600000, 4, 0, "at the last one"}, {0x3f5fffff, 4, 3, "below the last one"},
		{0xbe000000, 4, 0, "at an edge backwards"}, {0xbe000001, 4, 3, "beyond an edge backwards"}, {0xbdffffff, 4, 0, "before an edge backwards"}, {0xbec00000, 4, 3, "at the next one backwards"}, {0xbec00001, 4, 2, "beyond the next one backwards"},
		{0x3e2aaaaa, 3, 0, "just below a sixth of a turn"}, {0x3e2aaaab, 3, 1, "just above a sixth of a turn"}, {0xbe2aaaaa, 3, 0, "just before a sixth of a turn backwards"}, {0xbe2aaaab, 3, 2, "just beyond a sixth of a turn backwards"},
		{0x3d000000, 16, 1, "at an edge of the most sectors"}, {0x3cffffff, 16, 0, "below an edge of the most sectors"}, {0xbd000001, 16, 15, "beyond an edge of the most sectors backwards"}, {0x3f780000, 16, 0, "at their last edge"}, {0x3f77ffff, 16, 15, "below their last edge"},
		{0x3f000000, 1, 0, "one sector has all"}, {0xbf000001, 1, 0, "one sector has all, backwards"}, {0x3f000000, 2, 1, "two sectors"}, {0x3e800000, 2, 1, "two sectors, at an edge"}, {0xbe800000, 2, 0, "two sectors, at an edge backwards"}, {0xbe800001, 2, 1, "two sectors, beyond it"},
		{0x40f66666, 5, 3, "some turns, just below an edge"}, {0x40f66667, 5, 4, "some turns, just above an edge"}, {0xc0f66666, 5, 2, "some turns backwards, just before an edge"}, {0xc0f66667, 5, 1, "some turns backwards, just beyond an edge"},
		{0x447a0000, 1, 0, "1000"}, {0x447a0000, 3, 0, "1000 with 3"}, {0x447a0000, 16, 0, "1000 with 16"}, {0xc47a0000, 16, 0, "-1000"}, {0xc47a0000, 7, 0, "-1000 with 7"}, {0x4479ffff, 16, 0, "just below 1000"}, {0xc479ffff, 16, 0, "just above -1000"},
		{0x4479e000, 4, 2, "999.5"}, {0xc479e000, 4, 2, "-999.5"}, {0x4479f800, 4, 0, "999.875"}, {0x4479f7ff, 4, 3, "just below 999.875"}, {0xc479f800, 4, 1, "-999.875"}, {0xc479f801, 4, 0, "just below -999.875"}, {0xc479f7ff, 4, 1, "just above -999.875"},
	} {
		got, ok := impl.SectorOf(num(c.turn), c.count)
		if !ok || got != c.wanted {
			t.Errorf("%s: got %v %v, want %v", c.what, got, ok, c.wanted)
		}
	}
	for _, turn := range wrongTurns() {
		got, ok := impl.SectorOf(turn, 4)
		wantNoSum(t, "sector of a wrong turn", got, ok)
	}
	for _, count := range wrongSectors() {
		got, ok := impl.SectorOf(0.3, count)
		wantNoSum(t, "sector of a wrong number", got, ok)
	}
}

// wrongTurns are those just beyond the bounds, and others.
func wrongTurns() []float32 {
	return nums(0x447a0001, 0xc47a0001, greatest, greatest|minusZero, plusInf, minusInf, aNaN, 0xff800001)
}

func TestSectorOfIsTheNearest(t *testing.T) {
	n := noise(32)
	for k := range 20000 {
		count := 1 + int64(k)%impl.MaxSectors
		turn := n.between() * []float32{1, 3, 1000}[k%3]
		got, ok := impl.SectorOf(turn, count)
		// How far it is from the middle of the sector, in turns, without whole ones.
		off := float64(turn) - float64(got)/float64(count)
		off -= math.Round(off)
		if !ok || got < 0 || got >= count || math.Abs(off) > 0.5/float64(count)+1e-9 {
			t.Fatalf("sector of %v, of %v: got %v %v", turn, count, got, ok)
		}
	}
}

// someTurns are as many as someWinds.
func someTurns() []float32 {
	return []float32{0.01, 0.13, -0.2, 0.35, 0.77, 5.5, -3.3, 0.125, 0.99, 12.4}
}

func TestRoseOf(t *testing.T) {
	for _, c := range []struct {
		turns, speeds, shares, means []float32
	}{
		{someTurns(), someWinds(), nums(0x3f800000), nums(0x409a6666)},
		{someTurns(), someWinds(), nums(0x3f19999a, 0x3ecccccd), nums(0x409a2223, 0x409accce)},
		{someTurns(), someWinds(), nums(0x3ecccccd, 0x3e4ccccd, 0x3ecccccd), nums(0x408b3333, 0x40a73334, 0x40a33333)},
		{someTurns(), someWinds(), nums(0x3e4ccccd, 0x3e99999a, 0x3e4ccccd, 0x3e99999a), nums(0x40accccc, 0x406aaaab, 0x40ed999a, 0x40777778)},
		{someTurns(), someWinds(), nums(0x3e4ccccd, 0x3e4ccccd, 0x3dcccccd, 0x3dcccccd, 0x3dcccccd, 0x3e4ccccd, 0x3dcccccd), nums(0x40accccc, 0x40533333, 0x408ccccd, 0x40c1999a, 0x410ccccd, 0x3f933333, 0x4114cccd)},
		{
			someTurns(), someWinds(),
			nums(0x3e4ccccd, 0, 0x3e4ccccd, 0, 0, 0, 0x3e4ccccd, 0, 0x3dcccccd, 0, 0, 0x3dcccccd, 0x3dcccccd, 0x3dcccccd, 0, 0),
			nums(0x40accccc, 0, 0x40533333, 0, 0, 0, 0x40a73334, 0, 0x410ccccd, 0, 0, 0x3dcccccd, 0x400ccccd, 0x4114cccd, 0, 0),
		},
		{[]float32{0, 0.25, 0.25, 0.3}, []float32{4, 1, 2, 3}, []float32{0.25, 0.75, 0, 0}, []float32{4, 2, 0, 0}},
		// Sums go in order, and begin with +0.
		{make([]float32, 3), []float32{16777216, 1, 1}, ones(1), nums(0x4aaaaaab)}, {make([]float32, 3), []float32{1, 1, 16777216}, ones(1), nums(0x4aaaaaac)}, {make([]float32, 2), nums(minusZero, minusZero), ones(1), nums(plusZero)},
		{[]float32{0, 0.5}, nums(greatest, greatest), []float32{0.5, 0.5}, nums(greatest, greatest)}, {[]float32{0.5}, []float32{3}, []float32{0, 1}, []float32{0, 3}}, {[]float32{1000, -1000}, []float32{3, 5}, []float32{1, 0, 0}, []float32{4, 0, 0}},
		// The same winds at both sides of an edge.
		{nums(0x3dffffff, 0x3e000000, 0xbe000000, 0xbe000001), ones(4), []float32{0.5, 0.25, 0, 0.25}, []float32{1, 1, 0, 1}},
		{make([]float32, impl.MaxWinds), ones(impl.MaxWinds), []float32{1, 0}, []float32{1, 0}},
	} {
		got, ok := impl.RoseOf(c.turns, c.speeds, int64(len(c.shares)))
		wantRose(t, "rose", got, ok, roseOf(c.shares, c.means))
	}
}

func TestRoseOfWrongArguments(t *testing.T) {
	none := func(what string, turns, speeds []float32, count int64) {
		t.Helper()
		got, ok := impl.RoseOf(turns, speeds, count)
		wantNoRose(t, what, got, ok)
	}
	for _, count := range wrongSectors() {
		none("a wrong number of sectors", someTurns(), someWinds(), count)
	}
	for _, list := range wrongWinds() {
		none("wrong winds", make([]float32, len(list)), list, 4)
	}
	none("a turn less", someTurns()[:9], someWinds(), 4)
	none("a wind less", someTurns(), someWinds()[:9], 4)
	none("no turns", nil, someWinds(), 4)
	none("no winds", someTurns(), nil, 4)
	for _, x := range wrongTurns() {
		for i := range 3 {
			turns := make([]float32, 3)
			turns[i] = x
			none("a wrong turn", turns, ones(3), 4)
			none("a wrong turn for one sector", turns, ones(3), 1)
		}
	}
	none("a sum that is not finite", []float32{0.5, 0, 0.5}, nums(greatest, 0x3f800000, greatest), 2)
}

func TestNormRose(t *testing.T) {
	for _, c := range []struct {
		r      impl.Rose
		shares []float32
	}{
		{fiveSectors(), nums(0x3e99999a, 0x3dcccccd, 0x3e800000, 0x3d8f5c29, 0x3e8f5c29)}, {otherSectors(), nums(0x3d10dfe5, plusZero, 0x3e03b445, 0x3e942acd, 0x3f0bef89)},
		{fullRose(), nums(0x3d2aaaac, 0x3d9e79e8, 0x3c430c32, 0x3e000001, 0x3cf3cf3f, 0x3d5b6db9, 0x3e36db6f, 0x3bc30c32, 0x3cc30c32, 0x3d430c32, 0x3d861862, 0x3c924925, 0x3dcf3cf5, 0x3d124925, 0x3d924925, 0x3de79e7b)},
		{roseOf([]float32{1, 3}, []float32{2, 4}), []float32{0.25, 0.75}}, {roseOf(nums(leastSub, 2), ones(2)), nums(0x3eaaaaab, 0x3f2aaaab)}, {roseOf(nums(leastSub), nums(minusZero)), ones(1)}, {roseOf(nums(greatest), nums(greatest)), ones(1)},
		{roseOf(nums(minusZero, 0x3f800000), ones(2)), nums(minusZero, 0x3f800000)},
		// Shares whose sum is beyond all numbers come to nothing.
		{roseOf(nums(greatest, greatest, minusZero), ones(3)), nums(plusZero, plusZero, minusZero)},
	} {
		got, ok := impl.NormRose(c.r)
		wantRose(t, "with the sum 1", got, ok, roseOf(c.shares, c.r.Speeds))
	}
	for _, shares := range [][]float32{{0}, nums(minusZero), nums(plusZero, minusZero, plusZero), make([]float32, impl.MaxSectors)} {
		got, ok := impl.NormRose(roseOf(shares, ones(len(shares))))
		wantNoRose(t, "shares that are all nothing", got, ok)
	}
}

func TestTurnRose(t *testing.T) {
	for _, r := range []impl.Rose{fiveSectors(), fullRose(), roseOf(ones(1), ones(1)), roseOf([]float32{1, 2}, nums(minusZero, 0x40400000)), oddRoses()[3]} {
		count := len(r.Shares)
		for by := -impl.MaxSectors; by <= impl.MaxSectors; by++ {
			wanted := copyOfRose(r)
			for k := range count {
				// What was in the sector k is in the one that is by further on, around.
				to := k + by
				for to < 0 {
					to += count
				}
				for to >= count {
					to -= count
				}
				wanted.Shares[to], wanted.Speeds[to] = r.Shares[k], r.Speeds[k]
			}
			got, ok := impl.TurnRose(r, int64(by))
			wantRose(t, "turned", got, ok, wanted)
		}
		for _, by := range []int64{-impl.MaxSectors - 1, impl.MaxSectors + 1, 1 << 32, -1 << 32, math.MaxInt64, math.MinInt64} {
			got, ok := impl.TurnRose(r, by)
			wantNoRose(t, "turned too far", got, ok)
		}
	}
	got, ok := impl.TurnRose(fiveSectors(), 2)
	wantRose(t, "turned by 2", got, ok, roseOf([]float32{0.07, 0.28, 0.3, 0.1, 0.25}, []float32{0, 7.7, 5.5, 3.3, 9.1}))
	got, ok = impl.TurnRose(fiveSectors(), -1)
	wantRose(t, "turned backwards", got, ok, roseOf([]float32{0.1, 0.25, 0.07, 0.28, 0.3}, []float32{3.3, 9.1, 0, 7.7, 5.5}))
}

func TestMixRoses(t *testing.T) {
	for _, c := range []struct {
		share          uint32
		shares, speeds []float32
	}{
		{plusZero, fiveSectors().Shares, fiveSectors().Speeds}, {minusZero, fiveSectors().Shares, fiveSectors().Speeds},
		{0x3e99999a, nums(0x3e78d4fe, 0x3d8f5c29, 0x3e970a3e, 0x3ea353f8, 0x3f34bc6b), nums(0x409051ec, 0x409e6666, 0x41033333, 0x3fa8f5c3, 0x40af5c28)},
		{0x3f800000, nums(0x3de147ae, plusZero, 0x3ecccccd, 0x3f666666, 0x3fd9999a), nums(0x400ccccd, 0x410ccccd, 0x40c33333, 0x408ccccd, 0x3e9999a0)},
		{0x3f7fffff, nums(0x3de147b0, 0x32000000, 0x3ecccccc, 0x3f666665, 0x3fd99999), nums(0x400cccce, 0x410ccccc, 0x40c33334, 0x408ccccc, 0x3e9999b0)},
		{leastSub, fiveSectors().Shares, nums(0x40b00000, 0x40533333, 0x4111999a, 0x00000004, 0x40f66666)},
	} {
		got, ok := impl.MixRoses(fiveSectors(), otherSectors(), num(c.share))
		wantRose(t, "mixed", got, ok, roseOf(c.shares, c.speeds))
	}
	for _, share := range []float32{0, 0.3, 1} {
		got, ok := impl.MixRoses(fullRose(), fullRose(), share)
		wantRose(t, "mixed with itself", got, ok, fullRose())
		got, ok = impl.MixRoses(roseOf(nums(minusZero), nums(minusZero)), roseOf(nums(minusZero), nums(plusZero)), share)
		wantRose(t, "mixed nothing", got, ok, roseOf(nums(plusZero), nums(plusZero)))
	}
	most := roseOf(nums(greatest, plusZero), nums(plusZero, greatest))
	got, ok := impl.MixRoses(most, roseOf(nums(plusZero, greatest), nums(greatest, plusZero)), 0.5)
	wantRose(t, "mixed as far as can be", got, ok, roseOf(nums(0x7effffff, 0x7effffff), nums(0x7effffff, 0x7effffff)))
	for _, x := range notShares() {
		got, ok := impl.MixRoses(fiveSectors(), otherSectors(), x)
		wantNoRose(t, "mixed by a wrong share", got, ok)
		// Even where nothing would come of it.
		got, ok = impl.MixRoses(fullRose(), fullRose(), x)
		wantNoRose(t, "mixed with itself by a wrong share", got, ok)
	}
	for _, sizes := range [][2]int{{1, 2}, {2, 1}, {5, 4}, {impl.MaxSectors, 1}} {
		got, ok := impl.MixRoses(roseOf(ones(sizes[0]), ones(sizes[0])), roseOf(ones(sizes[1]), ones(sizes[1])), 0)
		wantNoRose(t, "mixed with other sectors", got, ok)
	}
}

func TestMeanOfRose(t *testing.T) {
	for _, c := range []struct {
		r      impl.Rose
		wanted uint32
	}{
		{fiveSectors(), 0x40cd26ea}, {otherSectors(), 0x40132def}, {fullRose(), 0x40a73815},
		{roseOf([]float32{1, 0}, []float32{3, 7}), bitsOf(3)}, {roseOf(nums(leastSub, leastSub), []float32{3, 5}), bitsOf(4)}, {roseOf(ones(1), nums(minusZero)), plusZero}, {roseOf(nums(greatest), ones(1)), bitsOf(1)}, {roseOf(nums(leastSub), nums(greatest)), greatest},
		// A sum of shares that is beyond all numbers leaves nothing of one that is not.
		{roseOf(nums(greatest, greatest), make([]float32, 2)), plusZero}, {roseOf(nums(greatest, greatest), []float32{1e-30, 1e-30}), plusZero},
	} {
		got, ok := impl.MeanOfRose(c.r)
		wantNumber(t, "mean", got, ok, c.wanted)
	}
	for _, r := range []impl.Rose{
		roseOf(make([]float32, 3), ones(3)), roseOf(nums(minusZero), ones(1)), roseOf([]float32{1e30, 1}, []float32{1e30, 1}), roseOf(nums(greatest, greatest), ones(2)),
		roseOf([]float32{0.5, 1}, nums(greatest, greatest)), roseOf([]float32{0.5, 0.5, 0.5}, nums(greatest, greatest, greatest)),
	} {
		got, ok := impl.MeanOfRose(r)
		wantNoSum(t, "mean that is not finite", got, ok)
	}
}

func TestFlowOfRose(t *testing.T) {
	for _, c := range []struct {
		r      impl.Rose
		re, im uint32
	}{
		{fiveSectors(), 0x3f13e451, 0xbecc8078}, {otherSectors(), 0xbfc4a7c5, 0xbee2f02f}, {fullRose(), 0x3ed7ba9d, 0x3d9b1217},
		{roseOf([]float32{2}, []float32{3}), bitsOf(3), plusZero}, {roseOf([]float32{1, 0}, []float32{3, 7}), bitsOf(3), plusZero}, {roseOf([]float32{0, 2}, []float32{3, 7}), bitsOf(-7), plusZero}, {roseOf(nums(leastSub, leastSub), []float32{3, 5}), bitsOf(-1), plusZero},
		{roseOf(ones(2), []float32{3, 3}), plusZero, plusZero}, {roseOf(ones(4), []float32{3, 3, 3, 3}), plusZero, plusZero}, {roseOf(ones(4), []float32{3, 4, 5, 6}), bitsOf(-0.5), bitsOf(-0.5)},
		{roseOf([]float32{0, 1, 0, 0}, ones(4)), plusZero, bitsOf(1)}, {roseOf([]float32{0, 0, 1, 0}, ones(4)), bitsOf(-1), plusZero}, {roseOf([]float32{0, 0, 0, 1}, ones(4)), plusZero, bitsOf(-1)},
		{roseOf(ones(1), nums(minusZero)), plusZero, plusZero}, {roseOf(nums(greatest), ones(1)), bitsOf(1), plusZero},
	} {
		got, ok := impl.FlowOfRose(c.r)
		wantForce(t, "flow", got, ok, c.re, c.im)
	}
	for _, r := range []impl.Rose{
		roseOf(make([]float32, 3), ones(3)), roseOf(nums(minusZero), ones(1)), roseOf(nums(greatest), []float32{2}), roseOf(nums(greatest, greatest), make([]float32, 2)), roseOf(nums(greatest, greatest), ones(2)), roseOf([]float32{1e30, 1}, []float32{1e30, 1}),
	} {
		got, ok := impl.FlowOfRose(r)
		wantNoSum(t, "flow that is not finite", got, ok)
	}
}

func TestPowerOfRose(t *testing.T) {
	for _, c := range []struct {
		r       impl.Rose
		density float32
		wanted  uint32
	}{
		{fiveSectors(), 1.21, 0x435faf81}, {fiveSectors(), 1, 0x4338dd36}, {otherSectors(), 1.21, 0x42cc18d4}, {otherSectors(), 1, 0x42a8acd8}, {fullRose(), 1.21, 0x4383b14e}, {fullRose(), 1, 0x4359ac79},
		{roseOf([]float32{1}, []float32{2}), 1, bitsOf(4)}, {roseOf([]float32{1, 2}, []float32{2, 4}), 3, bitsOf(204)}, {fullRose(), 0, plusZero}, {fullRose(), num(minusZero), plusZero}, {roseOf(make([]float32, 2), ones(2)), 1, plusZero}, {roseOf(nums(minusZero), nums(minusZero)), 1, plusZero},
	} {
		got, ok := impl.PowerOfRose(c.r, c.density)
		wantNumber(t, "power", got, ok, c.wanted)
	}
	for _, x := range notAmounts() {
		got, ok := impl.PowerOfRose(fullRose(), x)
		wantNoSum(t, "power of a wrong density", got, ok)
	}
	for _, r := range []impl.Rose{
		roseOf(ones(2), []float32{1, 1e13}), roseOf([]float32{1, 0}, []float32{1, 1e13}), roseOf([]float32{1e30, 1}, []float32{1e4, 1}), roseOf(nums(greatest, greatest), ones(2)),
	} {
		got, ok := impl.PowerOfRose(r, 2)
		wantNoSum(t, "power that is not finite", got, ok)
	}
	got, ok := impl.PowerOfRose(roseOf(nums(greatest, greatest), ones(2)), 1)
	wantNumber(t, "the greatest power", got, ok, greatest)
}

func TestStrongestSector(t *testing.T) {
	for _, c := range []struct {
		r    impl.Rose
		best int64
		most uint32
	}{
		{fiveSectors(), 2, 0x42bc648d}, {otherSectors(), 2, 0x423595b5}, {fullRose(), 15, 0x42d5b961},
		{roseOf([]float32{0.25, 0.75}, []float32{2, 4}), 1, bitsOf(24)}, {roseOf([]float32{8, 1}, []float32{2, 4}), 0, bitsOf(32)}, {roseOf([]float32{1, 8, 1}, []float32{4, 2, 4}), 0, bitsOf(32)}, {roseOf([]float32{7, 1, 8}, []float32{2, 4, 2}), 1, bitsOf(32)},
		{roseOf(make([]float32, 3), ones(3)), 0, plusZero}, {roseOf(nums(minusZero, plusZero), ones(2)), 0, minusZero}, {roseOf(nums(plusZero, minusZero), ones(2)), 0, plusZero}, {roseOf(ones(impl.MaxSectors), ones(impl.MaxSectors)), 0, bitsOf(0.5)},
		{roseOf([]float32{0, 0, 0, 1e-3}, []float32{9, 9, 9, 1}), 3, 0x3a03126f}, {roseOf(nums(greatest, 0x3f800000), ones(2)), 0, 0x7effffff}, {roseOf(nums(greatest, greatest), ones(2)), 0, 0x7effffff},
	} {
		best, most, ok := impl.StrongestSector(c.r)
		wantKnot(t, "strongest sector", best, most, ok, c.best, c.most)
	}
	for _, r := range []impl.Rose{
		roseOf(ones(2), []float32{1, 1e13}), roseOf([]float32{0, 1}, []float32{1e13, 1}), roseOf([]float32{1e30, 1}, []float32{1e4, 1}),
	} {
		best, most, ok := impl.StrongestSector(r)
		wantNoKnot(t, "strongest sector that is not finite", best, most, ok)
	}
}
