package tests

import (
	"math"
	"slices"
	"testing"

	"loop.example/g01256/impl"
)

// The expected bits in the tables of this chapter were computed from the document by a second implementation, in another language.

func nums(bits ...uint32) []float32 {
	var list []float32
	for _, n := range bits {
		list = append(list, num(n))
	}
	return list
}

// slope is the profile of the chapter's examples.
func slope() impl.Profile {
	return impl.Profile{Angles: []float32{0, 0.25}, Lifts: []float32{0, 1}, Drags: []float32{1, 1}}
}

// wing is a profile without any simple number.
func wing() impl.Profile {
	return impl.Profile{
		Angles: []float32{-0.41, -0.2, -0.05, 0.013, 0.1, 0.27, 0.4},
		Lifts:  []float32{0.3, -0.9, -0.47, 0.11, 1.23, 0.71, -0.2},
		Drags:  []float32{0.9, 0.31, 0.021, 0.009, 0.043, 0.62, 1.1},
	}
}

// otherWing is another one with the same angles.
func otherWing() impl.Profile {
	return impl.Profile{
		Angles: wing().Angles,
		Lifts:  []float32{1.7, 0.3, -2.9, 0.77, -0.01, 3.3, 0.9},
		Drags:  []float32{0.1, 1.3, 0.7, 0, 2.9, 0.33, 0.07},
	}
}

// evenKnots returns a profile with angles from 0 on, and all of its lifts and drags 1.
func evenKnots(count int) impl.Profile {
	var p impl.Profile
	for k := range count {
		p.Angles = append(p.Angles, float32(k)/64)
	}
	p.Lifts, p.Drags = ones(count), ones(count)
	return p
}

// flatTo returns the profile with the angles 0 and 1/4, and the given lifts and drags.
func flatTo(lift, nextLift, drag, nextDrag float32) impl.Profile {
	return impl.Profile{Angles: []float32{0, 0.25}, Lifts: []float32{lift, nextLift}, Drags: []float32{drag, nextDrag}}
}

func sameProfiles(a, b impl.Profile) bool {
	return sameNumbers(a.Angles, b.Angles) && sameNumbers(a.Lifts, b.Lifts) && sameNumbers(a.Drags, b.Drags)
}

func wantProfile(t *testing.T, what string, got impl.Profile, ok bool, wanted impl.Profile) {
	t.Helper()
	if !ok || !sameProfiles(got, wanted) {
		t.Errorf("%s: got %v %v, want %v", what, got, ok, wanted)
	}
}

func wantNoProfile(t *testing.T, what string, got impl.Profile, ok bool) {
	t.Helper()
	if ok || len(got.Angles)+len(got.Lifts)+len(got.Drags) > 0 {
		t.Errorf("%s: got %v %v, want none", what, got, ok)
	}
}

// wrongProfiles returns profiles each of which has one thing that a valid one has not.
func wrongProfiles() []impl.Profile {
	wrong := []impl.Profile{{}, evenKnots(0), evenKnots(1), evenKnots(impl.MaxKnots + 1), evenKnots(300)}
	change := func(do func(p *impl.Profile)) {
		p := wing()
		do(&p)
		wrong = append(wrong, p)
	}
	for _, x := range nums(plusInf, minusInf, aNaN, 0x7f800001) {
		for _, i := range []int{0, 3, 6} {
			change(func(p *impl.Profile) { p.Angles[i] = x })
			change(func(p *impl.Profile) { p.Lifts[i] = x })
			change(func(p *impl.Profile) { p.Drags[i] = x })
		}
	}
	for _, i := range []int{0, 3, 6} {
		change(func(p *impl.Profile) { p.Drags[i] = -1 })
		change(func(p *impl.Profile) { p.Drags[i] = num(leastSub | minusZero) })
	}
	change(func(p *impl.Profile) { p.Angles[0] = num(0xbf000001) })
	change(func(p *impl.Profile) { p.Angles[0] = -1 })
	change(func(p *impl.Profile) { p.Angles[6] = num(0x3f000001) })
	change(func(p *impl.Profile) { p.Angles[6] = 0.6 })
	change(func(p *impl.Profile) { p.Angles[1] = p.Angles[0] })
	change(func(p *impl.Profile) { p.Angles[6] = p.Angles[5] })
	change(func(p *impl.Profile) { p.Angles[2], p.Angles[3] = p.Angles[3], p.Angles[2] })
	change(func(p *impl.Profile) { p.Angles[2], p.Angles[3] = num(minusZero), 0 })
	change(func(p *impl.Profile) { p.Angles = p.Angles[:6] })
	change(func(p *impl.Profile) { p.Lifts = p.Lifts[:6] })
	change(func(p *impl.Profile) { p.Drags = p.Drags[:6] })
	change(func(p *impl.Profile) { p.Lifts = append(p.Lifts, 1) })
	change(func(p *impl.Profile) { p.Drags = append(p.Drags, 1) })
	change(func(p *impl.Profile) { p.Angles = nil })
	change(func(p *impl.Profile) { p.Lifts = nil })
	change(func(p *impl.Profile) { p.Drags = nil })
	return wrong
}

func TestValidProfile(t *testing.T) {
	for _, p := range []impl.Profile{
		slope(), wing(), otherWing(), evenKnots(2), evenKnots(impl.MaxKnots), flatTo(0, 0, 0, 0), flatTo(1, 1, num(minusZero), num(leastSub)),
		flatTo(num(greatest), -num(greatest), num(greatest), 0),
		{Angles: []float32{-0.5, 0.5}, Lifts: []float32{1, 2}, Drags: []float32{1, 2}},
		{Angles: []float32{num(0xbf000000), num(0xbeffffff)}, Lifts: []float32{1, 2}, Drags: []float32{1, 2}},
		{Angles: []float32{num(leastSub | minusZero), 0, num(leastSub)}, Lifts: []float32{1, 2, 3}, Drags: []float32{1, 2, 3}},
	} {
		if !impl.ValidProfile(p) {
			t.Errorf("%v is valid", p)
		}
	}
	for _, p := range wrongProfiles() {
		if impl.ValidProfile(p) {
			t.Errorf("%v is not valid", p)
		}
	}
}

func TestWrongProfilesAreRefused(t *testing.T) {
	for _, p := range wrongProfiles() {
		for _, got := range allOfProfile(p, slope(), 0.1, 0.2) {
			if got != "" {
				t.Errorf("%v: got %v, want none", p, got)
			}
		}
	}
	for _, p := range wrongProfiles() {
		q := wing()
		q.Angles = slices.Clone(p.Angles)
		got, ok := impl.MixProfiles(q, p, 0.5)
		wantNoProfile(t, "mix with a wrong one", got, ok)
	}
}

func TestWrongProfilesAreNotMended(t *testing.T) {
	wrong := flatTo(0, 1, -1, -1)
	got, ok := impl.AddKnot(evenKnots(1), 0.25, 1, 1)
	wantNoProfile(t, "the second knot", got, ok)
	got, ok = impl.DropKnot(evenKnots(impl.MaxKnots+1), 0)
	wantNoProfile(t, "without the knot that is too many", got, ok)
	got, ok = impl.ScaleProfile(wrong, 1, -1)
	wantNoProfile(t, "scaled to drags of at least 0", got, ok)
	got, ok = impl.MixProfiles(wrong, slope(), 1)
	wantNoProfile(t, "mixed from drags that are negative", got, ok)
	got, ok = impl.MixProfiles(slope(), wrong, 0.5)
	wantNoProfile(t, "mixed with drags that are negative", got, ok)
	got, ok = impl.CutProfile(evenKnots(impl.MaxKnots+1), 0, 0.1)
	wantNoProfile(t, "cut to few knots", got, ok)
}

func TestSameProfile(t *testing.T) {
	for _, p := range append(wrongProfiles(), slope(), wing()) {
		q := impl.Profile{Angles: slices.Clone(p.Angles), Lifts: slices.Clone(p.Lifts), Drags: slices.Clone(p.Drags)}
		if !impl.SameProfile(p, q) {
			t.Errorf("%v is the same as itself", p)
		}
		for i := range p.Angles {
			for _, other := range nums(plusZero, minusZero, aNaN, 0x3f800001) {
				r := impl.Profile{Angles: slices.Clone(p.Angles), Lifts: slices.Clone(p.Lifts), Drags: slices.Clone(p.Drags)}
				for _, list := range [][]float32{r.Angles, r.Lifts, r.Drags} {
					if i >= len(list) || bitsOf(list[i]) == bitsOf(other) {
						continue
					}
					kept := list[i]
					list[i] = other
					want(t, "same with another number", impl.SameProfile(p, r), false)
					want(t, "same with another number, the other way", impl.SameProfile(r, p), false)
					list[i] = kept
				}
			}
		}
	}
	for _, c := range []struct {
		a, b impl.Profile
		want bool
	}{
		{impl.Profile{}, impl.Profile{Angles: []float32{}, Lifts: []float32{}, Drags: []float32{}}, true},
		{flatTo(num(plusZero), 1, 1, 1), flatTo(num(minusZero), 1, 1, 1), false},
		{flatTo(num(minusZero), 1, 1, 1), flatTo(num(minusZero), 1, 1, 1), true},
		{flatTo(1, 1, num(aNaN), 1), flatTo(1, 1, num(0xff800001), 1), true},
		{flatTo(num(plusInf), 1, 1, 1), flatTo(num(minusInf), 1, 1, 1), false},
		{evenKnots(2), evenKnots(3), false}, {evenKnots(3), evenKnots(2), false}, {evenKnots(300), evenKnots(300), true},
		// The same numbers, but in other lists.
		{impl.Profile{Angles: ones(2), Lifts: ones(1)}, impl.Profile{Angles: ones(1), Lifts: ones(2)}, false},
		{impl.Profile{Lifts: ones(2)}, impl.Profile{Drags: ones(2)}, false},
		{impl.Profile{Angles: ones(2), Lifts: ones(2), Drags: ones(2)}, impl.Profile{Angles: ones(2), Lifts: ones(2), Drags: ones(1)}, false},
	} {
		want(t, "same", impl.SameProfile(c.a, c.b), c.want)
	}
}

func TestPlateProfile(t *testing.T) {
	for _, wanted := range []impl.Profile{
		{Angles: nums(0xbf000000, 0x3f000000), Lifts: nums(0, 0), Drags: nums(0, 0)},
		{Angles: nums(0xbf000000, 0, 0x3f000000), Lifts: nums(0, 0, 0), Drags: nums(0, 0, 0)},
		{
			Angles: nums(0xbf000000, 0xbe2aaaaa, 0x3e2aaaac, 0x3f000000),
			Lifts:  nums(0x00000000, 0xbf5db3d9, 0x3f5db3d5, 0x00000000),
			Drags:  nums(0x00000000, 0x3fc00000, 0x3fc00001, 0x00000000),
		},
		{
			Angles: nums(0xbf000000, 0xbeb6db6e, 0xbe5b6db6, 0xbd924924, 0x3d924928, 0x3e5b6db8, 0x3eb6db6e, 0x3f000000),
			Lifts:  nums(0x00000000, 0x3f7994e1, 0xbede2607, 0xbf48261c, 0x3f48261f, 0x3ede25fc, 0xbf7994e1, 0x00000000),
			Drags:  nums(0x00000000, 0x3f9c7b90, 0x3ff352f2, 0x3ec0c5f1, 0x3ec0c5fa, 0x3ff352f4, 0x3f9c7b90, 0x00000000),
		},
		{
			Angles: nums(0xbf000000, 0xbee9bd38, 0xbed37a6f, 0xbebd37a7, 0xbea6f4de, 0xbe90b216, 0xbe74de9c, 0xbe48590c, 0xbe1bd37a, 0xbdde9bd4, 0xbd8590b4, 0xbcb21640,
				0x3cb21640, 0x3d8590b0, 0x3dde9bd0, 0x3e1bd37c, 0x3e48590c, 0x3e74de9c, 0x3e90b216, 0x3ea6f4de, 0x3ebd37a6, 0x3ed37a70, 0x3ee9bd38, 0x3f000000),
			Lifts: nums(0x00000000, 0x3f050372, 0x3f634c73, 0x3f7f6739, 0x3f5124ef, 0x3ecbfb37, 0xbe0b6f42, 0xbf218ef9, 0xbf713804, 0xbf7aa542, 0xbf3b1813, 0xbe8a22cb,
				0x3e8a22cb, 0x3f3b180f, 0x3f7aa541, 0x3f713801, 0x3f218ef9, 0x3e0b6f42, 0xbecbfb37, 0xbf5124ef, 0xbf7f6738, 0xbf634c70, 0xbf050372, 0x00000000),
			Drags: nums(0x00000000, 0x3e15130f, 0x3f0a392f, 0x3f88bc2b, 0x3fc9d0ab, 0x3ff5672e, 0x3ffececb, 0x3fe34a82, 0x3faadd55, 0x3f4bea4f, 0x3ea28869, 0x3d17e406,
				0x3d17e406, 0x3ea28860, 0x3f4bea4a, 0x3faadd58, 0x3fe34a82, 0x3ffececb, 0x3ff5672e, 0x3fc9d0ab, 0x3f88bc2e, 0x3f0a3929, 0x3e15130f, 0x00000000),
		},
	} {
		got, ok := impl.PlateProfile(int64(len(wanted.Angles)))
		wantProfile(t, "plate", got, ok, wanted)
	}
	for count := int64(2); count <= impl.MaxKnots; count++ {
		got, ok := impl.PlateProfile(count)
		if !ok || int64(len(got.Angles)) != count || !impl.ValidProfile(got) {
			t.Errorf("plate of %v knots: got %v %v", count, got, ok)
		}
	}
	for _, count := range []int64{1, 0, -1, -2, impl.MaxKnots + 1, 1<<32 + 2, math.MaxInt64, math.MinInt64} {
		got, ok := impl.PlateProfile(count)
		wantNoProfile(t, "plate of a wrong number of knots", got, ok)
	}
}

func TestAddKnot(t *testing.T) {
	p := slope()
	for _, c := range []struct {
		angle, lift, drag float32
		want              impl.Profile
	}{
		{0.125, 2, 0, impl.Profile{Angles: []float32{0, 0.125, 0.25}, Lifts: []float32{0, 2, 1}, Drags: []float32{1, 0, 1}}},
		{-0.5, 2, 3, impl.Profile{Angles: []float32{-0.5, 0, 0.25}, Lifts: []float32{2, 0, 1}, Drags: []float32{3, 1, 1}}},
		{0.5, 2, 3, impl.Profile{Angles: []float32{0, 0.25, 0.5}, Lifts: []float32{0, 1, 2}, Drags: []float32{1, 1, 3}}},
		{num(leastSub), -2, num(minusZero), impl.Profile{Angles: nums(0, leastSub, 0x3e800000), Lifts: []float32{0, -2, 1}, Drags: nums(0x3f800000, minusZero, 0x3f800000)}},
	} {
		got, ok := impl.AddKnot(p, c.angle, c.lift, c.drag)
		wantProfile(t, "with one knot more", got, ok, c.want)
	}
	for _, c := range [][3]float32{
		{0, 1, 1}, {num(minusZero), 1, 1}, {0.25, 1, 1}, {num(0x3f000001), 1, 1}, {num(0xbf000001), 1, 1}, {num(plusInf), 1, 1}, {num(minusInf), 1, 1}, {num(aNaN), 1, 1},
		{0.1, num(plusInf), 1}, {0.1, num(aNaN), 1}, {0.1, 1, -1}, {0.1, 1, num(plusInf)}, {0.1, 1, num(aNaN)},
	} {
		got, ok := impl.AddKnot(p, c[0], c[1], c[2])
		wantNoProfile(t, "with a wrong knot", got, ok)
	}
	got, ok := impl.AddKnot(evenKnots(impl.MaxKnots-1), 0.45, 1, 1)
	want(t, "up to the greatest number of knots", ok && len(got.Angles) == impl.MaxKnots, true)
	got, ok = impl.AddKnot(evenKnots(impl.MaxKnots), 0.45, 1, 1)
	wantNoProfile(t, "one knot too many", got, ok)
}

func TestDropKnot(t *testing.T) {
	p := impl.Profile{Angles: []float32{0, 0.125, 0.25}, Lifts: []float32{4, 5, 6}, Drags: []float32{7, 8, 9}}
	for i, wanted := range []impl.Profile{
		{Angles: []float32{0.125, 0.25}, Lifts: []float32{5, 6}, Drags: []float32{8, 9}},
		{Angles: []float32{0, 0.25}, Lifts: []float32{4, 6}, Drags: []float32{7, 9}},
		{Angles: []float32{0, 0.125}, Lifts: []float32{4, 5}, Drags: []float32{7, 8}},
	} {
		got, ok := impl.DropKnot(p, int64(i))
		wantProfile(t, "without a knot", got, ok, wanted)
	}
	for _, i := range []int64{-1, 3, 4, 1 << 32, math.MinInt64, math.MaxInt64} {
		got, ok := impl.DropKnot(p, i)
		wantNoProfile(t, "without a knot that is not there", got, ok)
	}
	for i := range int64(2) {
		got, ok := impl.DropKnot(slope(), i)
		wantNoProfile(t, "one knot too few", got, ok)
	}
	got, ok := impl.DropKnot(evenKnots(impl.MaxKnots), impl.MaxKnots-1)
	wantProfile(t, "without the last one of all", got, ok, evenKnots(impl.MaxKnots-1))
}

func TestMirrorProfile(t *testing.T) {
	p := impl.Profile{Angles: nums(0xbf000000, plusZero, 0x3e800000), Lifts: nums(plusZero, minusZero, 0x3f800000), Drags: []float32{1, 2, num(minusZero)}}
	got, ok := impl.MirrorProfile(p)
	wantProfile(t, "mirrored", got, ok, impl.Profile{
		Angles: nums(0xbe800000, minusZero, 0x3f000000), Lifts: nums(0xbf800000, plusZero, minusZero), Drags: []float32{num(minusZero), 2, 1},
	})
	for _, p := range []impl.Profile{slope(), wing(), evenKnots(impl.MaxKnots), p} {
		once, one := impl.MirrorProfile(p)
		twice, two := impl.MirrorProfile(once)
		want(t, "mirrored once", one, true)
		wantProfile(t, "mirrored twice", twice, two, p)
	}
}

func TestScaleProfile(t *testing.T) {
	got, ok := impl.ScaleProfile(wing(), 0.3, 1.7)
	wantProfile(t, "scaled", got, ok, impl.Profile{
		Angles: wing().Angles,
		Lifts:  nums(0x3db851ec, 0xbe8a3d71, 0xbe10624e, 0x3d072b02, 0x3ebced92, 0x3e5a1cac, 0xbd75c290),
		Drags:  nums(0x3fc3d70a, 0x3f06e979, 0x3d123a2a, 0x3c7aacda, 0x3d95b575, 0x3f86e979, 0x3fef5c2a),
	})
	for _, c := range []struct {
		p          impl.Profile
		lift, drag float32
		want       impl.Profile
	}{
		{slope(), -2, 3, flatTo(num(minusZero), -2, 3, 3)}, {slope(), 2, 0, flatTo(0, 2, 0, 0)},
		// A drag of -0 is at least 0.
		{flatTo(1, 2, 0, 0), 1, -1, flatTo(1, 2, num(minusZero), num(minusZero))}, {slope(), 1, num(minusZero), flatTo(0, 1, num(minusZero), num(minusZero))},
		{flatTo(num(greatest), 1, 1, num(leastSub)), 1, 0.5, flatTo(num(greatest), 1, 0.5, 0)},
	} {
		got, ok := impl.ScaleProfile(c.p, c.lift, c.drag)
		wantProfile(t, "scaled", got, ok, c.want)
	}
	for _, c := range []struct {
		p          impl.Profile
		lift, drag float32
	}{
		{slope(), num(plusInf), 1}, {slope(), num(aNaN), 1}, {slope(), 1, num(plusInf)}, {slope(), 1, num(aNaN)}, {slope(), 1, -1}, {slope(), 1, num(leastSub | minusZero)},
		{flatTo(num(greatest), 1, 1, 1), 2, 1}, {flatTo(1, 1, 1, num(greatest)), 1, 2}, {flatTo(0, 0, 1, 1), num(minusInf), 1}, {flatTo(1, 1, 0, 0), 1, num(plusInf)},
	} {
		got, ok := impl.ScaleProfile(c.p, c.lift, c.drag)
		wantNoProfile(t, "scaled to what is not valid", got, ok)
	}
}

func TestMixProfiles(t *testing.T) {
	for _, c := range []struct {
		share float32
		lifts []float32
		drags []float32
	}{
		{0, wing().Lifts, wing().Drags},
		{num(minusZero), wing().Lifts, wing().Drags},
		{
			0.3, nums(0x3f3851ec, 0xbf0a3d70, 0xbf9978d5, 0x3e9db22d, 0x3f5ba5e4, 0x3fbe5604, 0x3e051eb9),
			nums(0x3f28f5c2, 0x3f1b645a, 0x3e6617c1, 0x3bce703a, 0x3f666cf5, 0x3f0872b0, 0x3f4a7efa),
		},
		{
			0.77, nums(0x3fb0624e, 0x3cc49bc0, 0xc015d495, 0x3f1e425b, 0x3e8ce704, 0x402d1340, 0x3f25a1cb),
			nums(0x3e916874, 0x3f894120, 0x3f0b3871, 0x3b07a8d6, 0x400f8b83, 0x3ecb1c44, 0x3e9d2202),
		},
		// The whole way from one to the other is not the other, to the last bit.
		{
			1, nums(0x3fd9999a, 0x3e99999c, 0xc039999a, 0x3f451eb8, 0xbc23d700, 0x40533333, 0x3f666667),
			nums(0x3dccccd0, 0x3fa66666, 0x3f333333, 0x00000000, 0x4039999a, 0x3ea8f5c3, 0x3d8f5c30),
		},
	} {
		got, ok := impl.MixProfiles(wing(), otherWing(), c.share)
		wantProfile(t, "mixed", got, ok, impl.Profile{Angles: wing().Angles, Lifts: c.lifts, Drags: c.drags})
	}
	got, ok := impl.MixProfiles(slope(), flatTo(2, 5, 2, 1), -1)
	wantProfile(t, "mixed the other way", got, ok, flatTo(-2, -3, 0, 1))
	got, ok = impl.MixProfiles(slope(), flatTo(2, 5, 2, 1), 3)
	wantProfile(t, "mixed beyond", got, ok, flatTo(6, 13, 4, 1))
}

func TestMixProfilesWithAngles(t *testing.T) {
	a, b := slope(), slope()
	a.Angles[0] = num(minusZero)
	got, ok := impl.MixProfiles(a, b, 0.5)
	wantProfile(t, "angles with another zero", got, ok, a)
	got, ok = impl.MixProfiles(b, a, 0.5)
	wantProfile(t, "angles with another zero, the other way", got, ok, b)
	a.Angles[1] = num(0x3e800001)
	got, ok = impl.MixProfiles(a, b, 0.5)
	wantNoProfile(t, "mixed with other angles", got, ok)
	got, ok = impl.MixProfiles(evenKnots(3), evenKnots(4), 0.5)
	wantNoProfile(t, "mixed with more angles", got, ok)
	got, ok = impl.MixProfiles(evenKnots(4), evenKnots(3), 0.5)
	wantNoProfile(t, "mixed with fewer angles", got, ok)
	for _, share := range nums(plusInf, minusInf, aNaN) {
		got, ok = impl.MixProfiles(slope(), slope(), share)
		wantNoProfile(t, "mixed with a share that is not finite", got, ok)
	}
	for _, c := range []struct {
		b     impl.Profile
		share float32
	}{
		{flatTo(0, 1, 2, 1), -1.5}, {flatTo(0, 1, 0, 1), 1.5}, {flatTo(num(greatest), 1, 1, 1), 2}, {flatTo(1, 1, num(greatest), 1), 2},
	} {
		got, ok = impl.MixProfiles(slope(), c.b, c.share)
		wantNoProfile(t, "mixed to what is not valid", got, ok)
	}
	got, ok = impl.MixProfiles(flatTo(num(greatest), 1, 1, 1), flatTo(-num(greatest), 1, 1, 1), 0)
	wantNoProfile(t, "mixed with a difference that is not finite", got, ok)
}

func TestCutProfile(t *testing.T) {
	p := wing()
	part := func(i, j int) impl.Profile {
		return impl.Profile{Angles: p.Angles[i:j], Lifts: p.Lifts[i:j], Drags: p.Drags[i:j]}
	}
	for _, c := range []struct {
		from, to float32
		i, j     int
	}{
		{-1, 1, 0, 7}, {num(minusInf), num(plusInf), 0, 7}, {-0.41, 0.4, 0, 7}, {num(0xbed1eb84), 0.4, 1, 7}, {-0.41, num(0x3ecccccc), 0, 6},
		{-0.2, 0.1, 1, 5}, {-0.199, 0.1, 2, 5}, {-0.2, 0.099, 1, 4}, {-0.41, -0.2, 0, 2}, {0.27, 0.4, 5, 7}, {0.2, 9, 5, 7}, {-9, -0.1, 0, 2}, {0, 0.1, 3, 5},
	} {
		got, ok := impl.CutProfile(p, c.from, c.to)
		wantProfile(t, "cut", got, ok, part(c.i, c.j))
	}
	for _, c := range [][2]float32{
		{0, 0}, {0.1, 0.1}, {0, 0.05}, {0.3, 9}, {-9, -0.3}, {0.1, -0.1}, {1, 2}, {-2, -1}, {num(plusInf), num(plusInf)}, {num(plusInf), num(minusInf)},
		{num(aNaN), 1}, {-1, num(aNaN)}, {num(aNaN), num(aNaN)},
	} {
		got, ok := impl.CutProfile(p, c[0], c[1])
		wantNoProfile(t, "cut to too few knots", got, ok)
	}
	got, ok := impl.CutProfile(slope(), num(minusZero), 0.25)
	wantProfile(t, "cut from the other zero", got, ok, slope())
}
