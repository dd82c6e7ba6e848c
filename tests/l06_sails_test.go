package tests

import (
	"math"
	"slices"
	"testing"

	"loop.example/g01256/impl"
)

// sloop and raft are boats without any simple number, and dinghy is one of small numbers.
func sloop() impl.Boat { return boatOf(7.3, 0.61) }

func raft() impl.Boat { return boatOf(2.1, 3.7) }

func dinghy() impl.Boat { return boatOf(2, 1) }

func boatOf(area, hull float32) impl.Boat { return impl.Boat{Area: area, Hull: hull} }

// plainSail is a profile that has no lift, and the drag 1 at all angles.
func plainSail() impl.Profile { return flatTo(0, 0, 1, 1) }

// sheets are those that are tried in the tables.
func sheets() []float32 { return []float32{-0.4, -0.25, -0.1, 0, 0.15, 0.3, 0.45} }

// wrongBoats returns boats each of which has one thing that a valid one has not.
func wrongBoats() []impl.Boat {
	list := []impl.Boat{{}, {Area: 1}}
	for _, x := range notAmounts() {
		list = append(list, boatOf(x, 1))
	}
	for _, x := range notPositive() {
		list = append(list, boatOf(1, x), boatOf(0, x))
	}
	return list
}

// oddBoats returns valid boats with numbers at their bounds.
func oddBoats() []impl.Boat {
	tiny, most := num(leastSub), num(greatest)
	return []impl.Boat{
		boatOf(0, 1), boatOf(num(minusZero), 1), boatOf(tiny, 1), boatOf(most, 1), boatOf(1, tiny), boatOf(1, most), boatOf(0, most), boatOf(most, tiny), boatOf(tiny, tiny),
	}
}

// wrongBreezes returns winds that are not finite.
func wrongBreezes() []complex64 {
	var list []complex64
	for _, x := range notFinite() {
		list = append(list, complex(x, 1), complex(1, x), complex(x, x))
	}
	return list
}

func TestValidBoat(t *testing.T) {
	for _, b := range append(oddBoats(), sloop(), raft(), dinghy()) {
		want(t, "a valid boat", impl.ValidBoat(b), true)
	}
	for _, b := range wrongBoats() {
		if impl.ValidBoat(b) {
			t.Errorf("%v is not valid", b)
		}
	}
}

type driveCase struct {
	profile               impl.Profile
	boat                  impl.Boat
	wind                  complex64
	heading, sheet, speed float32
	wanted                uint32
}

func driveCases() []driveCase {
	tiny, most, zero := num(leastSub), num(greatest), num(minusZero)
	return []driveCase{
		{wing(), sloop(), complex(7.7, 0.0), 0.31, 0.11, 2.3, 0x4352da40},
		{wing(), sloop(), complex(7.7, 0.0), 0.31, -0.27, 2.3, 0xc36b3a51},
		{wing(), raft(), complex(-3.3, 4.1), 0.05, 0.4, 1.1, 0xc101a6ac},
		{otherWing(), sloop(), complex(5.1, -9.3), 0.63, 0.37, 3.9, 0xc3ebce3c},
		{otherWing(), raft(), complex(-1.7, -2.9), -0.2, 0.9, 0.7, 0x41c67a49},
		{slope(), sloop(), complex(6.0, 1.0), 0.4, 0.07, 0, 0xc29bc6df},
		{slope(), raft(), complex(0.3, -8.2), 17.3, -5.6, 4.4, 0xc3777f7c},
		{wing(), sloop(), complex(2.2, 0.1), 1000.77, 0.3, 9.1, 0xc2f08896},
		{otherWing(), sloop(), 0, 0.3, 0.1, 1.7, 0xc0938d49},
		{wing(), raft(), complex(11.3, 0.7), 0.5, 0.23, 0.01, 0xc255f297},
		// With the wind, and straight into it.
		{plainSail(), dinghy(), 4, 0, 0, 0, 0x41800000}, {plainSail(), dinghy(), 4, 0, 0, zero, 0x41800000}, {plainSail(), dinghy(), 4, 0, 0, 2, plusZero}, {plainSail(), dinghy(), 4, 0.5, 0, 0, 0xc1800000},
		// No wind is felt.
		{plainSail(), dinghy(), 4, 0, 0, 4, 0xc1800000}, {plainSail(), dinghy(), -4, 0.5, 0, 4, 0xc1800000}, {plainSail(), dinghy(), 4i, 0.25, 0, 4, 0xc1800000}, {plainSail(), dinghy(), -4i, 0.75, 0, 4, 0xc1800000},
		{plainSail(), dinghy(), 0, 0.3, 0, 0, plusZero}, {plainSail(), dinghy(), complex(zero, zero), 0.3, 0, zero, plusZero}, {failingWing(), dinghy(), 4, 0, 0, 4, 0xc1800000},
		// No sail.
		{wing(), boatOf(0, 1), 4, 0.3, 0.1, 0, plusZero}, {wing(), boatOf(zero, 1), 4, 0.3, 0.1, 0, minusZero}, {wing(), boatOf(0, 1), 4, 0.3, 0.1, 3, 0xc1100000},
		{plainSail(), boatOf(0, 1), 4, 0.5, 0, 0, plusZero}, {plainSail(), boatOf(zero, 1), 4, 0.5, 0, 0, minusZero}, {plainSail(), boatOf(zero, 1), 4, 0, 0, 0, plusZero},
		// At the bounds of numbers.
		{plainSail(), dinghy(), complex(tiny, 0), 0, 0, 0, plusZero}, {plainSail(), dinghy(), 1e19, 0, 0, 0, 0x7e967699}, {plainSail(), dinghy(), 4, 0, 0, 1e19, 0xff167699},
		{plainSail(), boatOf(2, most), 4, 0, 0, 1, 0xff7fffff}, {plainSail(), boatOf(2, tiny), 4, 0, 0, 2, 0x40800000}, {plainSail(), boatOf(most, 1), 1, 0, 0, 0, 0x7effffff},
		{plainSail(), boatOf(1e-30, 1e-30), 4, 0, 0, 1e18, 0xc9b71b00},
	}
}

// failingWing has lifts between which there is no number that is finite.
func failingWing() impl.Profile { return flatTo(num(greatest), -num(greatest), 1, 1) }

func TestDriveOfBoat(t *testing.T) {
	for _, c := range driveCases() {
		got, ok := impl.DriveOfBoat(c.profile, c.boat, c.wind, c.heading, c.sheet, c.speed)
		if !ok || bitsOf(got) != c.wanted {
			t.Errorf("%v: got %08x %v", c, bitsOf(got), ok)
		}
	}
}

func TestDriveOfBoatThatIsNone(t *testing.T) {
	most := num(greatest)
	for _, c := range []driveCase{
		// ForceOf fails: for a wind that is too strong, for one that is felt and not finite, and for lifts.
		{plainSail(), dinghy(), 2e19, 0, 0, 0, 0}, {plainSail(), dinghy(), complex(most, most), 0.3, 0, 0, 0}, {plainSail(), boatOf(0, 1), 4, 0, 0, 2e19, 0}, {plainSail(), dinghy(), complex(-most, 0), 0, 0, most, 0},
		{failingWing(), dinghy(), 4, 0.1, 0.05, 1, 0}, {failingWing(), boatOf(0, 1), 4, 0.1, 0.05, 1, 0}, {plainSail(), boatOf(most, 1), 1.5, 0, 0, 0, 0},
		// What goes ahead, or the drive, is beyond all numbers.
		{flatTo(0, 0, 1.8e38, 1.8e38), dinghy(), complex(1, 1), 0.125, 0, 0, 0}, {plainSail(), boatOf(2, most), 4, 0, 0, 2, 0}, {plainSail(), boatOf(0, 1e30), 4, 0, 0, 1e6, 0}, {plainSail(), boatOf(0, most), 0, 0, 0, 1.5, 0},
	} {
		got, ok := impl.DriveOfBoat(c.profile, c.boat, c.wind, c.heading, c.sheet, c.speed)
		if ok || bitsOf(got) != plusZero {
			t.Errorf("%v: got %v %v, want none", c, got, ok)
		}
	}
	for _, speed := range notAmounts() {
		for _, c := range driveCases() {
			x, ok := impl.DriveOfBoat(c.profile, c.boat, c.wind, c.heading, c.sheet, speed)
			wantNoSum(t, "the drive of a wrong speed", x, ok)
		}
	}
}

// wantNoSailing wants that no function with a boat succeeds.
func wantNoSailing(t *testing.T, what string, p impl.Profile, b impl.Boat, wind complex64, heading, sheet float32) {
	t.Helper()
	for k, got := range allOfBoat(p, b, wind, heading, []float32{sheet}, 1) {
		if got != "" {
			t.Errorf("%s, %v, %v, %v, %v: function %v: got %v, want none", what, b, wind, heading, sheet, k, got)
		}
	}
}

func TestSailsOfWrongArguments(t *testing.T) {
	for _, p := range wrongProfiles() {
		wantNoSailing(t, "a wrong profile", p, dinghy(), 4, 0.3, 0.1)
		x, ok := impl.DriveOfBoat(p, dinghy(), 0, 0, 0, 0)
		wantNoSum(t, "the drive of a wrong profile, in no wind", x, ok)
		x, ok = impl.DriveOfBoat(p, boatOf(0, 1), 4, 0, 0, 4)
		wantNoSum(t, "the drive of a wrong profile that feels no wind", x, ok)
	}
	for _, b := range wrongBoats() {
		wantNoSailing(t, "a wrong boat", wing(), b, 4, 0.3, 0.1)
		x, ok := impl.DriveOfBoat(wing(), b, 0, 0, 0, 0)
		wantNoSum(t, "the drive of a wrong boat, in no wind", x, ok)
	}
	for _, wind := range wrongBreezes() {
		wantNoSailing(t, "a wrong wind", wing(), sloop(), wind, 0.3, 0.1)
	}
	for _, x := range notFinite() {
		wantNoSailing(t, "a wrong sheet", wing(), sloop(), 4, 0.3, x)
		x1, ok := impl.DriveOfBoat(wing(), sloop(), 4, x, 0.1, 1)
		wantNoSum(t, "the drive on a wrong heading", x1, ok)
		x1, ok = impl.SpeedOfBoat(wing(), sloop(), 4, x, 0.1)
		wantNoSum(t, "the speed on a wrong heading", x1, ok)
		i, x1, ok := impl.BestSheet(wing(), sloop(), 4, x, sheets())
		wantNoKnot(t, "the sheet on a wrong heading", i, x1, ok)
		// Where no wind is felt, headings and sheets are still to be finite.
		for _, c := range [][2]float32{{x, 0}, {0, x}} {
			x1, ok = impl.DriveOfBoat(wing(), sloop(), 0, c[0], c[1], 0)
			wantNoSum(t, "the drive in no wind", x1, ok)
			x1, ok = impl.DriveOfBoat(wing(), boatOf(0, 1), 4, c[0], c[1], 4)
			wantNoSum(t, "the drive without a sail", x1, ok)
		}
	}
}

type speedCase struct {
	profile        impl.Profile
	boat           impl.Boat
	wind           complex64
	heading, sheet float32
	wanted         uint32
}

func speedCases() []speedCase {
	return []speedCase{
		{wing(), sloop(), complex(7.7, 0.0), 0.31, 0.11, 0x4114ae72},
		{wing(), sloop(), complex(7.7, 0.0), 0.31, -0.27, plusZero},
		{slope(), sloop(), complex(6.0, 1.0), 0.04, 0.07, 0x408c69a0},
		{slope(), raft(), complex(0.3, -8.2), 17.8, -5.6, 0x403fef64},
		{wing(), sloop(), complex(2.2, 0.1), 1000.07, 0.3, 0x3fc44f75},
		{wing(), raft(), complex(11.3, 0.7), 0.1, 0.23, 0x408620df},
		{slope(), sloop(), complex(9.0, 0.0), 0, 0.3, 0x40cc6da2},
		{wing(), sloop(), complex(40.0, 3.0), 0.02, 0.25, 0x41d6e1e6},
		{otherWing(), sloop(), complex(70.0, 3.0), 0.02, 0.25, 0x424f3e5f},
		// So slow that the last halves can be told apart.
		{plainSail(), boatOf(1e-4, 1), 4, 0, 0, 0x3ce613e0}, {plainSail(), boatOf(1e-6, 1), 4, 0, 0, 0x3b393b00}, {wing(), boatOf(3e-5, 1.3), complex(5.1, 2.3), 0.11, 0.2, 0x3c4fe1c0}, {slope(), boatOf(1e-7, 0.7), complex(-3, 2), 0.4, 0.1, 0x3a7a5800},
		{wing(), boatOf(1e-9, 1.3), complex(5.1, 2.3), 0.11, 0.2, 0x3899c000}, {wing(), boatOf(7e-6, 1.3), complex(5.1, 2.3), 0.13, 0.2, 0x3be3ee80}, {wing(), boatOf(5e-6, 1.3), complex(5.1, 2.3), 0.17, 0.2, 0x3be38600},
		// With the wind, straight into it, and with no wind or no sail.
		{plainSail(), dinghy(), 4, 0, 0, 0x3fffffff}, {plainSail(), dinghy(), 4, 0.5, 0, plusZero}, {plainSail(), dinghy(), 0, 0, 0, plusZero}, {plainSail(), boatOf(0, 1), 4, 0, 0, plusZero}, {plainSail(), boatOf(1e-30, 1), 4, 0, 0, plusZero},
		{wing(), sloop(), 7.7, 0.5, 0, plusZero}, {wing(), sloop(), 0, 0.3, 0.1, plusZero}, {plainSail(), boatOf(2, 3.2e35), 4, 0, 0, plusZero},
		// As fast as can be found, and nearly.
		{plainSail(), boatOf(1e6, 1e-6), 1000, 0, 0, 0x42800000}, {plainSail(), boatOf(10, 1e-6), 65, 0, 0, 0x42800000}, {plainSail(), boatOf(10, 1e-6), 64, 0, 0, 0x427fe2b4}, {plainSail(), boatOf(10, 1e-6), 63, 0, 0, 0x427be329},
	}
}

func TestSpeedOfBoat(t *testing.T) {
	for _, c := range speedCases() {
		got, ok := impl.SpeedOfBoat(c.profile, c.boat, c.wind, c.heading, c.sheet)
		if !ok || bitsOf(got) != c.wanted {
			t.Errorf("%v: got %08x %v", c, bitsOf(got), ok)
		}
	}
}

func TestSpeedOfBoatThatIsNone(t *testing.T) {
	for _, c := range []speedCase{
		{plainSail(), dinghy(), 2e19, 0, 0, 0}, {failingWing(), dinghy(), 4, 0.1, 0.05, 0}, {failingWing(), boatOf(0, 1), 4, 0.1, 0.05, 0},
		// At the first speed that is tried, the drive is beyond all numbers.
		{plainSail(), boatOf(2, 3.4e35), 4, 0, 0, 0}, {plainSail(), boatOf(2, num(greatest)), 4, 0, 0, 0},
	} {
		got, ok := impl.SpeedOfBoat(c.profile, c.boat, c.wind, c.heading, c.sheet)
		if ok || bitsOf(got) != plusZero {
			t.Errorf("%v: got %v %v, want none", c, got, ok)
		}
	}
}

type sheetCase struct {
	profile impl.Profile
	boat    impl.Boat
	wind    complex64
	heading float32
	i       int64
	speed   uint32
}

func sheetCases() []sheetCase {
	return []sheetCase{
		{wing(), sloop(), complex(7.7, 0.0), 0.31, 2, 0x41bdadc7},
		{wing(), raft(), complex(-3.3, 4.1), 0.35, 1, 0x3feed3eb},
		{otherWing(), sloop(), complex(5.1, -9.3), 0.63, 3, 0x41e63485},
		{otherWing(), raft(), complex(-1.7, -2.9), -0.4, 0, 0x3fbce62a},
		{slope(), sloop(), complex(6.0, 1.0), 0.14, 4, 0x40d11b0c},
		{wing(), sloop(), complex(7.7, 1.0), 0.4, 3, 0x41d9b8e0},
		{wing(), sloop(), complex(7.7, 1.0), 0.2, 2, 0x41b1d47c},
		// Straight into the wind, all sheets are equally good.
		{slope(), raft(), complex(7.7, 1.0), 0.5, 0, plusZero}, {plainSail(), dinghy(), 4, 0.5, 0, plusZero}, {plainSail(), dinghy(), 4, 0, 0, 0x3fffffff}, {wing(), sloop(), 0, 0.3, 0, plusZero},
	}
}

func TestBestSheet(t *testing.T) {
	for _, c := range sheetCases() {
		i, speed, ok := impl.BestSheet(c.profile, c.boat, c.wind, c.heading, sheets())
		wantKnot(t, "best sheet", i, speed, ok, c.i, c.speed)
		wantGreatest(t, sheets(), i, speed, func(sheet float32) (float32, bool) {
			return impl.SpeedOfBoat(c.profile, c.boat, c.wind, c.heading, sheet)
		})
		// A sheet that is there again, before or behind, is as good.
		i, speed, ok = impl.BestSheet(c.profile, c.boat, c.wind, c.heading, append(sheets(), sheets()...))
		wantKnot(t, "best of sheets that come again", i, speed, ok, c.i, c.speed)
	}
}

func TestBestSheetOfAnyCount(t *testing.T) {
	for count := range impl.MaxKnots + 10 {
		list := slices.Repeat([]float32{-0.27}, count)
		i, speed, ok := impl.BestSheet(wing(), sloop(), 7.7, 0.31, list)
		if count < 1 || count > impl.MaxKnots {
			wantNoKnot(t, "too many sheets, or none", i, speed, ok)
			polar, ok := impl.PolarOf(wing(), sloop(), 7.7, list, 3)
			wantNoLists(t, "too many sheets, or none", polar, nil, ok)
			continue
		}
		wantKnot(t, "equal sheets", i, speed, ok, 0, plusZero)
		for k := range list {
			list[k] = 0.11
			i, speed, ok := impl.BestSheet(wing(), sloop(), 7.7, 0.31, list)
			wantKnot(t, "one better sheet", i, speed, ok, int64(k), 0x4114ae72)
			list[k] = num(aNaN)
			i, speed, ok = impl.BestSheet(wing(), sloop(), 7.7, 0.31, list)
			wantNoKnot(t, "one wrong sheet", i, speed, ok)
			list[k] = -0.27
		}
	}
}

type polarCase struct {
	profile impl.Profile
	boat    impl.Boat
	wind    complex64
	speeds  []float32
}

func polarCases() []polarCase {
	return []polarCase{
		{wing(), sloop(), complex(7.7, 0.0), nums(0x40b01184, 0x413e0924, 0x41da1f0d, 0x41c4e839, 0x40d68deb, 0x40adada5, 0x4165ef66, 0x4194bc50, 0x411cb5f1)},
		{otherWing(), raft(), complex(-1.7, -2.9), nums(0x4046ff8a, 0x3f0f4f8b, 0x3f99e322, 0x3fc369c3, 0x3fc35aa1, 0x3fca236f, 0x40146cb9)},
		{slope(), sloop(), complex(0.3, -8.2), nums(0x40ef754d, 0x00000000, 0x00000000, 0x4064912a, 0x40db9882)},
		{wing(), raft(), complex(-3.3, 4.1), nums(0x3ff15367, 0x4010fae3, 0x4009a887, 0x3febb7e6, 0x3fec2801, 0x3feb595b, 0x4014985b, 0x402dc57b, 0x40349038, 0x401e6a11, 0x3f8f5a71, 0x3f8acc0a)},
	}
}

func TestPolarOf(t *testing.T) {
	for _, c := range polarCases() {
		got, ok := impl.PolarOf(c.profile, c.boat, c.wind, sheets(), int64(len(c.speeds)))
		wantLists(t, "polar", got, nil, ok, c.speeds, nil)
	}
	got, ok := impl.PolarOf(plainSail(), dinghy(), 4, []float32{0}, 2)
	wantLists(t, "with the wind and into it", got, nil, ok, nums(0x3fffffff, plusZero), nil)
}

func TestPolarOfAnyCount(t *testing.T) {
	for _, count := range []int64{1, 2, 3, 16, 63, 64} {
		got, ok := impl.PolarOf(wing(), sloop(), complex(5.1, 2.3), sheets(), count)
		want(t, "success", ok && int64(len(got)) == count, true)
		for k, speed := range got {
			_, wanted, ok := impl.BestSheet(wing(), sloop(), complex(5.1, 2.3), float32(k)/float32(count), sheets())
			want(t, "success", ok, true)
			wantBits(t, "the speed of a heading", speed, bitsOf(wanted))
		}
	}
	for _, count := range []int64{0, -1, 65, 66, 1 << 32, 1<<32 + 2, math.MaxInt64, math.MinInt64} {
		got, ok := impl.PolarOf(wing(), sloop(), complex(5.1, 2.3), sheets(), count)
		wantNoLists(t, "too many headings, or none", got, nil, ok)
	}
	// Only on the last of four headings, there is no force.
	got, ok := impl.PolarOf(tornWing(), sloop(), 7.7, []float32{0.3}, 1)
	want(t, "one heading", ok && len(got) == 1, true)
	got, ok = impl.PolarOf(tornWing(), sloop(), 7.7, []float32{0.3}, 4)
	wantNoLists(t, "a heading without a speed", got, nil, ok)
	for k, wanted := range []bool{true, true, true, false} {
		_, ok := impl.SpeedOfBoat(tornWing(), sloop(), 7.7, float32(k)/4, 0.3)
		want(t, "a speed", ok, wanted)
	}
}

// tornWing has no lift, but for some angles at which there is none that is finite.
func tornWing() impl.Profile {
	most := num(greatest)
	return impl.Profile{Angles: []float32{-0.25, -0.15, -0.1, 0.1, 0.15, 0.35}, Lifts: []float32{0, 0, -most, most, 0, 0}, Drags: ones(6)}
}

type windwardCase struct {
	polar []float32
	wind  complex64
	i     int64
	speed uint32
}

func windwardCases() []windwardCase {
	most, tiny, zero := num(greatest), num(leastSub), num(minusZero)
	first, second, third, last := polarCases()[0].speeds, polarCases()[1].speeds, polarCases()[2].speeds, polarCases()[3].speeds
	return []windwardCase{
		{first, complex(7.7, 0.0), 3, 0x4144e83b}, {first, complex(0.0, 7.7), 7, 0x419279d9}, {first, complex(3.0, -0.2), 3, 0x415b2855},
		{second, complex(-1.7, -2.9), 0, 0x3fc94648}, {second, complex(2.9, -1.7), 3, 0x3fc2c40d}, {second, complex(3.0, -0.2), 3, 0x3fb54fa6},
		{third, complex(0.3, -8.2), 1, minusZero}, {third, complex(8.2, 0.3), 3, 0x403db3f0}, {third, complex(3.0, -0.2), 3, 0x402f917d},
		{last, complex(-3.3, 4.1), 9, 0x3ff6d030}, {last, complex(-4.1, -3.3), 1, 0x400f4306}, {last, complex(3.0, -0.2), 6, 0x4014441a},
		// Zeros, and the first of several.
		{[]float32{0}, 4, 0, minusZero}, {[]float32{zero}, 4, 0, plusZero}, {[]float32{0, 0}, 4, 0, minusZero}, {[]float32{1, 0}, 4, 1, minusZero}, {[]float32{2, 2}, 4i, 0, minusZero},
		{[]float32{1, 3}, 4, 1, 0x40400000}, {[]float32{1, 3}, 1, 1, 0x40400000}, {[]float32{3, 1}, -1, 0, 0x40400000}, {[]float32{1}, 4, 0, 0xbf800000}, {[]float32{-1}, 4, 0, 0x3f800000}, {[]float32{-1, -3}, 4, 0, 0x3f800000}, {[]float32{1, 1, 1, 1}, -4i, 1, 0x3f800000}, {[]float32{1, 1, 1, 1}, 4i, 3, 0x3f800000},
		{slices.Repeat([]float32{5}, 64), complex(0.3, 0.7), 0x2c, 0x409ffcf4}, {make([]float32, 64), 4, 0, minusZero},
		// At the bounds of numbers.
		{[]float32{most}, 4, 0, 0xff7fffff}, {[]float32{most, most}, 4, 1, 0x7f7fffff}, {slices.Repeat([]float32{most}, 8), complex(1, 1), 5, 0x7f7ffffe}, {slices.Repeat([]float32{most}, 8), complex(-1, 1), 7, 0x7f7ffffe}, {[]float32{tiny}, -1, 0, 1},
		{[]float32{1, 3}, complex(most, 0), 1, 0x40400000}, {[]float32{1, 3}, complex(tiny, 0), 1, 0x40400000}, {[]float32{1, 3}, complex(tiny, zero), 1, 0x40400000}, {[]float32{1, 3}, complex(2.4e38, 2.4e38), 1, 0x4007c3b7}, {[]float32{1, 3}, complex(1e-30, -1e-30), 1, 0x4007c3b6},
	}
}

func TestBestWindward(t *testing.T) {
	for _, c := range windwardCases() {
		i, speed, ok := impl.BestWindward(c.polar, c.wind)
		wantKnot(t, "to windward", i, speed, ok, c.i, c.speed)
	}
}

func TestBestWindwardThatIsNone(t *testing.T) {
	most, zero := num(greatest), num(minusZero)
	winds := append(wrongBreezes(), 0, complex(zero, 0), complex(zero, zero), complex(0, zero))
	// Of these, there is no length that is finite.
	winds = append(winds, complex(most, most), complex(3e38, 2e38), complex(-3e38, 2e38))
	for _, wind := range winds {
		for _, c := range windwardCases() {
			i, speed, ok := impl.BestWindward(c.polar, wind)
			wantNoKnot(t, "a wrong wind", i, speed, ok)
		}
	}
	for _, count := range []int{0, 65, 66, 300} {
		i, speed, ok := impl.BestWindward(ones(count), 4)
		wantNoKnot(t, "too many speeds, or none", i, speed, ok)
	}
	for _, count := range []int{1, 2, 7, 64} {
		for k := range count {
			for _, x := range notFinite() {
				polar := ones(count)
				polar[k] = x
				for _, wind := range []complex64{4, -4i, complex(-3.3, 4.1)} {
					i, speed, ok := impl.BestWindward(polar, wind)
					wantNoKnot(t, "one speed that is not finite", i, speed, ok)
				}
			}
		}
	}
}
