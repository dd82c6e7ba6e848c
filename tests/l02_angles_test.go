package tests

import (
	"testing"

	"loop.example/g01256/impl"
)

// wantNumber wants the number with the given bits.
func wantNumber(t *testing.T, what string, got float32, ok bool, wanted uint32) {
	t.Helper()
	if !ok || bitsOf(got) != wanted {
		t.Errorf("%s: got %08x (%v) %v, want %08x (%v)", what, bitsOf(got), got, ok, wanted, num(wanted))
	}
}

// wantKnot wants an index and the number with the given bits.
func wantKnot(t *testing.T, what string, i int64, got float32, ok bool, wantedIndex int64, wanted uint32) {
	t.Helper()
	if i != wantedIndex {
		t.Errorf("%s: got the index %v, want %v", what, i, wantedIndex)
	}
	wantNumber(t, what, got, ok, wanted)
}

func wantNoKnot(t *testing.T, what string, i int64, got float32, ok bool) {
	t.Helper()
	if ok || i != 0 || bitsOf(got) != 0 {
		t.Errorf("%s: got %v %v %v, want none", what, i, got, ok)
	}
}

func TestWrapAngle(t *testing.T) {
	for _, c := range [][2]uint32{
		{0x00000000, 0x00000000}, {0x80000000, 0x80000000}, {0x00000001, 0x00000001}, {0x80000001, 0x80000001},
		{0x3e800000, 0x3e800000}, {0xbe800000, 0xbe800000}, {0x3effffff, 0x3effffff}, {0xbeffffff, 0xbeffffff},
		// Exactly a half is told as -0.5, on both sides.
		{0x3f000000, 0xbf000000}, {0xbf000000, 0xbf000000}, {0x3fc00000, 0xbf000000}, {0xbfc00000, 0xbf000000}, {0x40b00000, 0xbf000000}, {0xc0b00000, 0xbf000000},
		{0x3f000001, 0xbefffffe}, {0xbf000001, 0x3efffffe}, {0x3fbfffff, 0x3efffffc}, {0xbfbfffff, 0xbefffffc}, {0x3fc00001, 0xbefffffc}, {0xbfc00001, 0x3efffffc},
		{0x3f400000, 0xbe800000}, {0xbf400000, 0x3e800000}, {0x3f800000, 0x00000000}, {0xbf800000, 0x00000000}, {0x449a522b, 0xbedd5000}, {0xc49a522b, 0x3edd5000},
		// From 2 to the power of 23 on, all numbers are integers.
		{0x4affffff, 0xbf000000}, {0xcaffffff, 0xbf000000}, {0x4b000000, 0x00000000}, {0x4b000001, 0x00000000}, {0xcb000001, 0x00000000},
		{0x597fffff, 0x00000000}, {0x59800000, 0x00000000}, {0x5f000000, 0x00000000}, {0x7f7fffff, 0x00000000}, {0xff7fffff, 0x00000000},
	} {
		got, ok := impl.WrapAngle(num(c[0]))
		wantNumber(t, "wrapped", got, ok, c[1])
	}
	for _, x := range nums(plusInf, minusInf, aNaN, 0xff800001) {
		got, ok := impl.WrapAngle(x)
		wantNoSum(t, "wrapped angle that is not finite", got, ok)
	}
}

func TestExamplesOfProfiles(t *testing.T) {
	lift, ok := impl.LiftAt(slope(), 0.125)
	wantNumber(t, "lift of the example", lift, ok, 0x3f000000)
	rise, ok := impl.SlopeAt(slope(), 0.125)
	wantNumber(t, "slope of the example", rise, ok, 0x40800000)
	force, ok := impl.ForceOf(slope(), 2, 0, 1, 1)
	wantForce(t, "force of the example", force, ok, 0x40000000, plusZero)
}

// wingCases has angles, with the lift, the drag, the slope and the glide of wing.
func wingCases() [][5]uint32 {
	return [][5]uint32{
		// Just below the knots, at them and just above.
		{0xbed1eb86, 0x3e999996, 0x3f666666, 0x40286bc9, 0x3eaaaaa7}, {0xbed1eb85, 0x3e99999a, 0x3f666666, 0xc0b6db6f, 0x3eaaaaab}, {0xbed1eb84, 0x3e999994, 0x3f666665, 0xc0b6db6f, 0x3eaaaaa5},
		{0xbe4cccce, 0xbf666665, 0x3e9eb854, 0xc0b6db6f, 0xc039ce70}, {0xbe4ccccd, 0xbf666666, 0x3e9eb852, 0x40377776, 0xc039ce73}, {0xbe4ccccc, 0xbf666665, 0x3e9eb851, 0x40377776, 0xc039ce74},
		{0xbd4cccce, 0xbef0a3d7, 0x3cac0830, 0x40377776, 0xc1b30c32}, {0xbd4ccccd, 0xbef0a3d7, 0x3cac0831, 0x41134d34, 0xc1b30c31}, {0xbd4ccccc, 0xbef0a3d6, 0x3cac0831, 0x41134d34, 0xc1b30c30},
		{0x3c54fdf3, 0x3de147ac, 0x3c1374bc, 0x41134d34, 0x41438e38}, {0x3c54fdf4, 0x3de147ae, 0x3c1374bc, 0x414dfa1e, 0x41438e39}, {0x3c54fdf5, 0x3de147b0, 0x3c1374bc, 0x414dfa1e, 0x41438e3b},
		{0x3dcccccc, 0x3f9d70a4, 0x3d3020c5, 0x414dfa1e, 0x41e4d653}, {0x3dcccccd, 0x3f9d70a4, 0x3d3020c5, 0xc043c3c4, 0x41e4d653}, {0x3dccccce, 0x3f9d70a4, 0x3d3020cc, 0xc043c3c4, 0x41e4d64a},
		{0x3e8a3d70, 0x3f35c291, 0x3f1eb850, 0xc043c3c4, 0x3f9294a8}, {0x3e8a3d71, 0x3f35c28f, 0x3f1eb852, 0xc0e00000, 0x3f9294a5}, {0x3e8a3d72, 0x3f35c28c, 0x3f1eb854, 0xc0e00000, 0x3f9294a1},
		{0x3ecccccc, 0xbe4cccbc, 0x3f8ccccc, 0xc0e00000, 0xbe3a2e7d}, {0x3ecccccd, 0xbe4ccccd, 0x3f8ccccd, 0x40286bc9, 0xbe3a2e8c}, {0x3eccccce, 0xbe4cccc8, 0x3f8ccccd, 0x40286bc9, 0xbe3a2e87},
		// Between the last knot and the first one, around.
		{0xbf000000, 0x3d8158f2, 0x3f7ea713, 0x40286bc9, 0x3d820825}, {0x3f000000, 0x3d8158f2, 0x3f7ea713, 0x40286bc9, 0x3d820825}, {0xbeff7cee, 0x3d86bca2, 0x3f7e6217, 0x40286bc9, 0x3d8797dd},
		{0x3eff7cee, 0x3d77ea6c, 0x3f7eec0f, 0x40286bc9, 0x3d78f6c7}, {0x3ee66666, 0xbd8c2060, 0x3f86102b, 0x40286bc9, 0xbd85ca02}, {0xbee66666, 0x3e47691b, 0x3f712dcf, 0x40286bc9, 0x3e53aa34},
		// Anywhere else.
		{0x00000000, 0xbc1ea380, 0x3c3c06a1, 0x41134d34, 0xbf57fd26}, {0x80000000, 0xbc1ea380, 0x3c3c06a1, 0x41134d34, 0xbf57fd26}, {0x3e99999a, 0x3effffff, 0x3f3b13b2, 0xc0e00000, 0x3f2f286a},
		{0xbe99999a, 0xbea83a82, 0x3f1748a8, 0xc0b6db6f, 0xbf0e5639}, {0x3e4ccccd, 0x3f6c92fa, 0x3ec3cb7a, 0xc043c3c4, 0x401aa8c7}, {0x3d4ccccd, 0x3f161930, 0x3cc02eb4, 0x414dfa1e, 0x41c7f0f3},
		{0xbdcccccd, 0xbf1d036a, 0x3df04c76, 0x40377776, 0xc0a745d1}, {0xbca3d70a, 0xbe467602, 0x3c7a70ee, 0x41134d34, 0xc14addb7}, {0x000116c2, 0xbc1ea380, 0x3c3c06a1, 0x41134d34, 0xbf57fd26},
		// More than once around.
		{0x3fa66666, 0x3f000006, 0x3f3b13ae, 0xc0e00000, 0x3f2f2877}, {0xbfa66666, 0xbea83a8c, 0x3f1748a6, 0xc0b6db6f, 0xbf0e5643}, {0x402d70a4, 0xbec57c60, 0x3f101766, 0xc0b6db6f, 0xbf2f6e7f},
		{0xc048f5c3, 0xbf3a5e3a, 0x3e4710d9, 0x40377776, 0xc06fabae}, {0x447a0ccd, 0x3f6c9088, 0x3ec3d0e7, 0xc043c3c4, 0x401aa2e5}, {0xc29b8a3d, 0x3f551469, 0x3ef7ef2e, 0xc043c3c4, 0x3fdc02f5},
		{0x40e33333, 0x3f9d709a, 0x3d3020bc, 0x414dfa1e, 0x41e4d650}, {0xc0933333, 0xbe4cccbd, 0x3f8ccccc, 0x40286bc9, 0xbe3a2e7e}, {0x4025c28f, 0x3e999992, 0x3f666668, 0x40286bc9, 0x3eaaaaa1},
		{0x49742400, 0xbc1ea380, 0x3c3c06a1, 0x41134d34, 0xbf57fd26}, {0x7f61b1e6, 0xbc1ea380, 0x3c3c06a1, 0x41134d34, 0xbf57fd26},
	}
}

func TestNumbersAtAngles(t *testing.T) {
	for _, c := range wingCases() {
		for i, at := range []func(impl.Profile, float32) (float32, bool){impl.LiftAt, impl.DragAt, impl.SlopeAt, impl.GlideAt} {
			got, ok := at(wing(), num(c[0]))
			wantNumber(t, []string{"lift", "drag", "slope", "glide"}[i], got, ok, c[i+1])
		}
	}
	for _, x := range nums(plusInf, minusInf, aNaN, 0xff800001) {
		for _, at := range []func(impl.Profile, float32) (float32, bool){impl.LiftAt, impl.DragAt, impl.SlopeAt, impl.GlideAt} {
			got, ok := at(wing(), x)
			wantNoSum(t, "at an angle that is not finite", got, ok)
		}
	}
}

func TestNumbersAroundAHalf(t *testing.T) {
	// Both knots are at the same place of the circle, which the first one has.
	both := impl.Profile{Angles: []float32{-0.5, 0, 0.5}, Lifts: []float32{1, 2, 5}, Drags: []float32{3, 4, 8}}
	onlyLast := impl.Profile{Angles: []float32{-0.25, 0.5}, Lifts: []float32{1, 5}, Drags: []float32{3, 8}}
	onlyFirst := impl.Profile{Angles: []float32{-0.5, 0.25}, Lifts: []float32{1, 5}, Drags: []float32{3, 8}}
	for _, c := range []struct {
		p                        impl.Profile
		angle, lift, drag, slope float32
	}{
		{both, -0.5, 1, 3, 2}, {both, 0.5, 1, 3, 2}, {both, 1.5, 1, 3, 2}, {both, num(0x3effffff), 5, 8, 6}, {both, 0.25, 3.5, 6, 6},
		{onlyLast, -0.5, 5, 8, -16}, {onlyLast, 0.5, 5, 8, -16}, {onlyLast, -1.5, 5, 8, -16}, {onlyLast, -0.375, 3, 5.5, -16}, {onlyLast, 0.125, 3, 5.5, 5.3333335},
		{onlyFirst, -0.5, 1, 3, 5.3333335}, {onlyFirst, 0.5, 1, 3, 5.3333335}, {onlyFirst, 0.375, 3, 5.5, -16}, {onlyFirst, -0.625, 3, 5.5, -16}, {onlyFirst, 1.25, 5, 8, -16},
		{slope(), 0.625, 0.5, 1, -1.3333334}, {slope(), -0.125, 0.16666669, 1, -1.3333334}, {slope(), 0, 0, 1, 4}, {slope(), 0.25, 1, 1, -1.3333334},
	} {
		lift, one := impl.LiftAt(c.p, c.angle)
		drag, two := impl.DragAt(c.p, c.angle)
		rise, three := impl.SlopeAt(c.p, c.angle)
		wantNumber(t, "lift", lift, one, bitsOf(c.lift))
		wantNumber(t, "drag", drag, two, bitsOf(c.drag))
		wantNumber(t, "slope", rise, three, bitsOf(c.slope))
	}
}

func TestZerosAtAngles(t *testing.T) {
	for _, c := range []struct {
		p     impl.Profile
		angle uint32
		want  uint32
	}{
		// At a knot, a product that is +0 or -0 is added to its number.
		{flatTo(num(minusZero), 1, 1, 1), plusZero, plusZero}, {flatTo(num(minusZero), -1, 1, 1), plusZero, minusZero},
		{flatTo(num(minusZero), 1, 1, 1), minusZero, minusZero}, {flatTo(num(minusZero), -1, 1, 1), minusZero, plusZero},
		{flatTo(num(minusZero), num(minusZero), 1, 1), 0x3e000000, plusZero}, {flatTo(num(plusZero), num(minusZero), 1, 1), 0x3e000000, plusZero},
		{flatTo(num(leastSub), num(leastSub), 1, 1), 0x3e000000, leastSub}, {flatTo(0, num(leastSub), 1, 1), 0x3e000000, plusZero},
	} {
		got, ok := impl.LiftAt(c.p, num(c.angle))
		wantNumber(t, "lift that is a zero, nearly", got, ok, c.want)
	}
	tight := impl.Profile{Angles: nums(plusZero, leastSub), Lifts: []float32{1, 2}, Drags: []float32{1, 2}}
	lift, ok := impl.LiftAt(tight, num(leastSub))
	wantNumber(t, "lift at a knot that is near to another", lift, ok, 0x40000000)
	rise, ok := impl.SlopeAt(tight, 0)
	wantNoSum(t, "slope that is not finite", rise, ok)
	rise, ok = impl.SlopeAt(impl.Profile{Angles: tight.Angles, Lifts: nums(plusZero, leastSub), Drags: tight.Drags}, 0)
	wantNumber(t, "slope of subnormal numbers", rise, ok, 0x3f800000)
}

func TestNumbersThatAreNotFinite(t *testing.T) {
	most := num(greatest)
	for _, c := range []struct {
		p     impl.Profile
		angle float32
		lift  bool
		slope bool
	}{
		{flatTo(most, -most, 1, 1), 0.1, false, false}, {flatTo(most, -most, 1, 1), 0, false, false}, {flatTo(most, -most, 1, 1), 0.5, false, false},
		{flatTo(-most, most, 1, 1), 0.125, false, false}, {flatTo(most, most, 1, 1), 0.1, true, true}, {flatTo(0, most, 1, 1), 0.1, true, false},
		{flatTo(0, most/8, 1, 1), 0.1, true, true}, {flatTo(0, most/4, 1, 1), 0.1, true, true}, {flatTo(0, most/2, 1, 1), 0.1, true, false}, {flatTo(0, most, 1, 1), 0.6, true, false},
	} {
		got, ok := impl.LiftAt(c.p, c.angle)
		want(t, "the lift is finite", ok, c.lift)
		if !ok {
			wantNoSum(t, "lift that is not finite", got, ok)
		}
		got, ok = impl.SlopeAt(c.p, c.angle)
		want(t, "the slope is finite", ok, c.slope)
		if !ok {
			wantNoSum(t, "slope that is not finite", got, ok)
		}
		// Drags are at least 0, so that their differences are finite.
		drag, ok := impl.DragAt(flatTo(1, 1, 0, most), c.angle)
		want(t, "the drag is finite", ok && drag >= 0, true)
	}
}

func TestGlideAt(t *testing.T) {
	for _, c := range []struct {
		p     impl.Profile
		angle float32
		want  uint32
	}{
		{slope(), 0.25, 0x3f800000}, {slope(), 0, plusZero}, {flatTo(1, 3, 2, 4), 0.125, 0x3f2aaaab}, {flatTo(-1, -1, 4, 4), 3.1, 0xbe800000}, {flatTo(0, 0, 4, 4), 3.1, plusZero},
	} {
		got, ok := impl.GlideAt(c.p, c.angle)
		wantNumber(t, "glide", got, ok, c.want)
	}
	most := num(greatest)
	for _, p := range []impl.Profile{
		flatTo(1, 1, 0, 0), flatTo(0, 0, 0, 0), flatTo(-1, -1, num(minusZero), 0), flatTo(most, most, 0.5, 0.5), flatTo(1, 1, num(leastSub), num(leastSub)), flatTo(most, -most, 1, 1),
	} {
		got, ok := impl.GlideAt(p, 0.125)
		wantNoSum(t, "glide that is not finite", got, ok)
	}
}

func TestBestGlide(t *testing.T) {
	for _, c := range []struct {
		lifts, drags []float32
		best         int64
		most         uint32
	}{
		{wing().Lifts, wing().Drags, 4, 0x41e4d653}, {[]float32{0, 1}, []float32{1, 1}, 1, 0x3f800000}, {[]float32{-3, -2, -5}, []float32{1, 1, 1}, 1, 0xc0000000},
		// The first one of several.
		{[]float32{1, 2, 4, 2}, []float32{1, 1, 2, 1}, 1, 0x40000000}, {nums(minusZero, plusZero), []float32{1, 1}, 0, minusZero}, {nums(plusZero, minusZero), []float32{1, 1}, 0, plusZero},
		// Not-a-numbers are left out, wherever they are, and lesser infinities are not the greatest ones.
		{[]float32{0, 1, 2, 0}, []float32{0, 4, 4, 0}, 2, 0x3f000000}, {[]float32{2, 0, 1}, []float32{4, 0, 4}, 0, 0x3f000000}, {[]float32{-1, -7, 0}, []float32{0, 7, 0}, 1, 0xbf800000},
		{[]float32{5, -7, 0}, []float32{num(minusZero), 7, 0}, 1, 0xbf800000},
	} {
		p := evenKnots(len(c.lifts))
		p.Lifts, p.Drags = c.lifts, c.drags
		best, most, ok := impl.BestGlide(p)
		wantKnot(t, "best glide", best, most, ok, c.best, c.most)
	}
}

func TestBestGlideThatIsNotFinite(t *testing.T) {
	for _, p := range []impl.Profile{
		flatTo(0, 0, 0, 0), flatTo(1, 1, 0, 1), flatTo(1, 1, 1, 0), flatTo(-1, -1, 0, 0), flatTo(0, -1, 0, 0), flatTo(num(greatest), 1, 0.5, 1), flatTo(num(minusZero), 0, 0, num(minusZero)),
	} {
		best, most, ok := impl.BestGlide(p)
		wantNoKnot(t, "best glide that is not finite", best, most, ok)
	}
}

func TestStallOf(t *testing.T) {
	for _, c := range []struct {
		p     impl.Profile
		best  int64
		angle uint32
	}{
		{wing(), 4, 0x3dcccccd}, {otherWing(), 5, 0x3e8a3d71}, {slope(), 1, 0x3e800000}, {flatTo(1, 1, 1, 1), 0, plusZero}, {flatTo(-2, -1, 1, 1), 1, 0x3e800000},
		{flatTo(num(minusZero), 0, 1, 1), 0, plusZero}, {flatTo(num(greatest), -num(greatest), 0, 0), 0, plusZero},
		{impl.Profile{Angles: nums(0xbf000000, minusZero, 0x3e800000), Lifts: []float32{1, 3, 3}, Drags: ones(3)}, 1, minusZero},
	} {
		best, angle, ok := impl.StallOf(c.p)
		wantKnot(t, "stall", best, angle, ok, c.best, c.angle)
	}
}

func TestZeroLift(t *testing.T) {
	most := num(greatest)
	for _, c := range []struct {
		p    impl.Profile
		want uint32
	}{
		{wing(), 0x3a89da20}, {otherWing(), 0xb9649200}, {slope(), plusZero}, {flatTo(-1, 1, 1, 1), 0x3e000000}, {flatTo(-3, 1, 1, 1), 0x3e400000}, {flatTo(num(minusZero), 1, 1, 1), plusZero},
		// The difference of both lifts can be an infinity, by which the quotient is 0.
		{flatTo(-most, most, 1, 1), plusZero}, {flatTo(num(leastSub|minusZero), num(leastSub), 1, 1), 0x3e000000},
		// The first place of several, and only where the lift rises.
		{impl.Profile{Angles: []float32{-0.25, 0, 0.25, 0.5}, Lifts: []float32{1, -1, 1, -1}, Drags: ones(4)}, 0x3e000000},
		{impl.Profile{Angles: []float32{-0.5, -0.25, 0, 0.25}, Lifts: []float32{-1, 1, -1, 1}, Drags: ones(4)}, 0xbec00000},
		{impl.Profile{Angles: []float32{-0.5, -0.25, 0, 0.25}, Lifts: []float32{0, 0, 0, 2}, Drags: ones(4)}, plusZero},
	} {
		got, ok := impl.ZeroLift(c.p)
		wantNumber(t, "no lift", got, ok, c.want)
	}
	// The last knot is not one before the first one.
	for _, p := range []impl.Profile{flatTo(1, -1, 1, 1), flatTo(1, 0, 1, 1), flatTo(1, 2, 1, 1), flatTo(-2, -1, 1, 1), flatTo(-1, 0, 1, 1), flatTo(0, 0, 1, 1), flatTo(-1, num(minusZero), 1, 1)} {
		got, ok := impl.ZeroLift(p)
		wantNoSum(t, "lift that does not rise through nothing", got, ok)
	}
}

func TestLiftArea(t *testing.T) {
	most := num(greatest)
	for _, c := range []struct {
		p    impl.Profile
		want uint32
	}{
		{wing(), 0x3da24dd6}, {otherWing(), 0x3f089afe}, {slope(), 0x3e000000}, {flatTo(-1, 1, 1, 1), plusZero}, {evenKnots(impl.MaxKnots), 0x3eb80000},
		// The sum begins with +0; half of a sum is not the sum of halves.
		{flatTo(num(minusZero), num(minusZero), 1, 1), plusZero}, {flatTo(num(leastSub), num(leastSub), 1, 1), plusZero}, {flatTo(most/2, most/2, 1, 1), 0x7dffffff},
		{impl.Profile{Angles: []float32{-0.5, 0.5}, Lifts: nums(3, 2), Drags: ones(2)}, 2},
		// Half of the sum is rounded before the product is.
		{impl.Profile{Angles: []float32{-0.5, 0.25}, Lifts: nums(3, 0), Drags: ones(2)}, 2},
	} {
		got, ok := impl.LiftArea(c.p)
		wantNumber(t, "area", got, ok, c.want)
	}
	for _, p := range []impl.Profile{
		flatTo(most, most, 1, 1), flatTo(-most, -most, 1, 1),
		{Angles: []float32{-0.5, -0.25, 0.25, 0.5}, Lifts: []float32{most, most, -most, -most}, Drags: ones(4)},
	} {
		got, ok := impl.LiftArea(p)
		wantNoSum(t, "area that is not finite", got, ok)
	}
}
