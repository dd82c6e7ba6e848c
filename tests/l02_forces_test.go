package tests

import (
	"math"
	"slices"
	"testing"

	"loop.example/g01256/impl"
)

func wantForce(t *testing.T, what string, got complex64, ok bool, re, im uint32) {
	t.Helper()
	want(t, what+", success", ok, true)
	wantParts(t, what, got, re, im)
}

func TestForceOf(t *testing.T) {
	for _, c := range []struct {
		re, im, pitch, chord, density uint32
		wantRe, wantIm                uint32
	}{
		{0x40400000, 0x40800000, 0x3dcccccd, 0x3f000000, 0x3f99999a, 0x4031da5c, 0xbff221bb}, {0xc0e9999a, 0x40066666, 0x00000000, 0x3f800000, 0x3f800000, 0xc1ddbe88, 0x4023926a},
		{0x3e99999a, 0xc11b3333, 0xbebd70a4, 0x40133333, 0x3f333333, 0xc24e03bd, 0xc16227a7}, {0xc0833333, 0xc0a66666, 0x3f666666, 0x3e051eb8, 0x3f9ccccd, 0x3f528737, 0xc04ca8e4},
		{0x410ccccd, 0x00000000, 0x3ca3d70a, 0x3f8ccccd, 0x3fa66666, 0x3f26591d, 0x413148d7}, {0x00000000, 0x40c33333, 0x3ea8f5c3, 0x3e4ccccd, 0x3f666666, 0xc0507116, 0x3df14f7e},
		{0x00000000, 0xc0c33333, 0xc0e80000, 0x3f333333, 0x3f800000, 0xbe01207e, 0xbe190c15}, {0x4144cccd, 0xc0f66666, 0x42c8999a, 0x3f333333, 0x3f8ccccd, 0x4287039a, 0xc258299c},
		// A wind that goes straight back, with both zeros.
		{0xc0b00000, 0x00000000, 0x3d4ccccd, 0x3e99999a, 0x3f9ccccd, 0xc0a79280, 0xbf8a8d29}, {0xc0b00000, 0x80000000, 0x3d4ccccd, 0x3e99999a, 0x3f9ccccd, 0xc0a79280, 0xbf8a8d29},
		// A wind of which no force is left.
		{0x0da24260, 0x0da24260, 0x3dcccccd, 0x3f800000, 0x3f800000, plusZero, plusZero}, {leastSub, minusZero, 0x3dcccccd, 0x3f800000, 0x3f800000, plusZero, plusZero},
	} {
		got, ok := impl.ForceOf(wing(), comp(c.re, c.im), num(c.pitch), num(c.chord), num(c.density))
		wantForce(t, "force", got, ok, c.wantRe, c.wantIm)
	}
}

func TestForceOfSimpleProfiles(t *testing.T) {
	for _, c := range []struct {
		p                     impl.Profile
		wind                  complex64
		pitch, chord, density float32
		re, im                float32
	}{
		{slope(), 2, 0, 1, 1, 2, 0}, {slope(), 2, 0.25, 1, 1, 2, 2}, {slope(), 2, 0.25, 3, 1, 6, 6}, {slope(), 2, 0.25, 1, 3, 6, 6}, {slope(), 4, 0.25, 1, 1, 8, 8},
		// Drag goes with the wind, and lift across it, to the left.
		{flatTo(3, 3, 0, 0), 2, 0, 1, 1, 0, 6}, {flatTo(3, 3, 0, 0), 2i, 0, 1, 1, -6, 0}, {flatTo(3, 3, 0, 0), -2, 0, 1, 1, 0, -6}, {flatTo(3, 3, 0, 0), -2i, 0, 1, 1, 6, 0},
		{flatTo(0, 0, 3, 3), 2, 0, 1, 1, 6, 0}, {flatTo(0, 0, 3, 3), 2i, 0, 1, 1, 0, 6}, {flatTo(0, 0, 3, 3), -2, 0, 1, 1, -6, 0}, {flatTo(0, 0, 3, 3), -2i, 0, 1, 1, 0, -6},
		// The pitch is told from nowhere, and the angle at which the air meets it from the wind.
		{slope(), 2i, 0.5, 1, 1, -2, 2}, {slope(), 2i, 0.25, 1, 1, 0, 2}, {slope(), 2, 1.25, 1, 1, 2, 2}, {slope(), 2, -7.75, 1, 1, 2, 2},
		{slope(), 2, 0.25, 0, 1, 0, 0}, {slope(), 2, 0.25, 1, 0, 0, 0}, {slope(), 2, 0.25, num(minusZero), 1, 0, 0}, {slope(), 2, 0.25, 1, num(minusZero), 0, 0},
		{flatTo(0, 0, 0, 0), complex(3, 4), 0.3, 1, 1, 0, 0},
	} {
		got, ok := impl.ForceOf(c.p, c.wind, c.pitch, c.chord, c.density)
		want(t, "success", ok, true)
		want(t, "force", got, complex(c.re, c.im))
	}
}

func TestForceOfASlantedWind(t *testing.T) {
	// At 1/8 of a turn, the pitch 1/4 meets the air at 1/8: 9 times 1 + 0.5 i, turned by 1/8.
	got, ok := impl.ForceOf(slope(), complex(3, 3), 0.25, 1, 1)
	re, im := 4.5*math.Sqrt2/2, 13.5*math.Sqrt2/2
	if !ok || math.Abs(float64(real(got))-re) > 1e-5 || math.Abs(float64(imag(got))-im) > 1e-5 {
		t.Errorf("force: got %v %v, want nearly %v + %v i", got, ok, re, im)
	}
}

func TestForceOfRounds(t *testing.T) {
	// From left to right: half of the density first, and the chord at last.
	got, ok := impl.ForceOf(flatTo(0, 0, 1, 1), 0x1p80, 0, 0x1p-100, 1)
	wantNoSum(t, "a square of the wind that is not finite", got, ok)
	got, ok = impl.ForceOf(flatTo(0, 0, 1, 1), 0x1p80, 0, 0x1p-40, 0x1p-100)
	wantForce(t, "a density that comes first", got, ok, bitsOf(0x1p19), plusZero)
	got, ok = impl.ForceOf(flatTo(0, 0, 1, 1), 0x1p63, 0, 1, 4)
	wantForce(t, "half of the density", got, ok, bitsOf(0x1p127), plusZero)
	got, ok = impl.ForceOf(flatTo(0, 0, 1, 1), 1024, 0, 1, num(leastSub))
	wantForce(t, "half of the least density", got, ok, plusZero, plusZero)
	got, ok = impl.ForceOf(flatTo(0, 0, 1, 1), 1024, 0, 1, num(3))
	wantForce(t, "half of a subnormal density", got, ok, bitsOf(0x1p-128), plusZero)
}

func TestForceOfWrongArguments(t *testing.T) {
	most := num(greatest)
	for _, wind := range []complex64{
		0, comp(minusZero, plusZero), comp(plusZero, minusZero), comp(minusZero, minusZero), comp(plusInf, 0), comp(0, plusInf), comp(minusInf, 0), comp(0x3f800000, minusInf), comp(aNaN, 0), comp(0, aNaN),
	} {
		got, ok := impl.ForceOf(slope(), wind, 0, 1, 1)
		wantNoSum(t, "force of a wrong wind", got, ok)
	}
	for _, c := range [][3]float32{
		{num(plusInf), 1, 1}, {num(minusInf), 1, 1}, {num(aNaN), 1, 1}, {0, -1, 1}, {0, num(leastSub | minusZero), 1}, {0, num(plusInf), 1}, {0, num(aNaN), 1},
		{0, 1, -1}, {0, 1, num(leastSub | minusZero)}, {0, 1, num(plusInf)}, {0, 1, num(aNaN)}, {0, -1, -1},
	} {
		got, ok := impl.ForceOf(slope(), 2, c[0], c[1], c[2])
		wantNoSum(t, "force of wrong numbers", got, ok)
	}
	for _, c := range []struct {
		p    impl.Profile
		wind complex64
	}{
		{slope(), complex(most, 0)}, {slope(), complex(most, most)}, {flatTo(0, 0, most, most), 2}, {flatTo(most, most, 0, 0), 2}, {flatTo(most, -most, 1, 1), 1}, {flatTo(most, -most, 0, 0), complex(num(leastSub), 0)},
	} {
		got, ok := impl.ForceOf(c.p, c.wind, 0.1, 1, 1)
		wantNoSum(t, "force that is not finite", got, ok)
	}
	got, ok := impl.ForceOf(slope(), complex(most, most), 0.1, 0, 0)
	wantNoSum(t, "no force of a wind that is too long", got, ok)
	got, ok = impl.ForceOf(slope(), 2, most, 1, 1)
	wantForce(t, "the greatest pitch", got, ok, 0x40000000, plusZero)
}

func TestBestPitch(t *testing.T) {
	pitches := []float32{-0.3, -0.2, -0.1, 0, 0.05, 0.1, 0.15, 0.2, 0.3, 0.4}
	for _, c := range []struct {
		re, im, wayRe, wayIm uint32
		best                 int64
		most                 uint32
	}{
		{0x40400000, 0x40800000, 0x3f800000, 0x00000000, 2, 0x4119bcca}, {0xc0e9999a, 0x40066666, 0x00000000, 0x3f800000, 8, 0x41b993e6},
		{0x3e99999a, 0xc11b3333, 0xbf800000, 0xbf000000, 6, 0x41fe6137}, {0x40a00000, 0x40a00000, 0x3e99999a, 0xbf333333, 3, 0x412f05e8},
		// On no way, all of them are equally good; the number is that of the first one, with its sign.
		{0x40a00000, 0xc0a00000, 0x00000000, 0x00000000, 0, 0x80000000},
	} {
		best, most, ok := impl.BestPitch(wing(), comp(c.re, c.im), comp(c.wayRe, c.wayIm), pitches)
		wantKnot(t, "best pitch", best, most, ok, c.best, c.most)
	}
	for _, c := range []struct {
		wind, way complex64
		pitches   []float32
		best      int64
		most      float32
	}{
		{2, 1i, []float32{0, 0.25}, 1, 2}, {2, 1i, []float32{0.25, 0}, 0, 2}, {2, -1i, []float32{0.25, 0}, 1, 0}, {2, 2i, []float32{0, 0.25}, 1, 4}, {2, 1, []float32{0.25, 0, 0.1}, 0, 2},
		{2, -1, []float32{0.25, 0}, 0, -2}, {2, 1i, []float32{0.125, 0.25, 1.25, 0.25, 0}, 1, 2}, {2, 1i, []float32{0.125}, 0, 1}, {2, 1i, ones(impl.MaxKnots), 0, 0},
		{2, 1i, append(ones(impl.MaxKnots-1), 0.25), impl.MaxKnots - 1, 2},
	} {
		best, most, ok := impl.BestPitch(slope(), c.wind, c.way, c.pitches)
		want(t, "most", most, c.most)
		wantKnot(t, "best pitch", best, most, ok, c.best, bitsOf(most))
	}
}

func TestBestPitchWrongArguments(t *testing.T) {
	most := num(greatest)
	nan, inf := num(aNaN), num(plusInf)
	for _, c := range []struct {
		wind, way complex64
		pitches   []float32
	}{
		{2, 1, nil}, {2, 1, []float32{}}, {2, 1, ones(impl.MaxKnots + 1)}, {2, 1, ones(300)}, {2, 1, []float32{0, nan}}, {2, 1, []float32{inf, 0}}, {2, 1, []float32{0, 0, -inf, 0}},
		{0, 1, []float32{0}}, {comp(minusZero, minusZero), 1, []float32{0}}, {complex(inf, 0), 1, []float32{0}}, {complex(0, nan), 1, []float32{0}}, {complex(most, 0), 1, []float32{0}},
		{2, complex(inf, 0), []float32{0}}, {2, complex(0, -inf), []float32{0}}, {2, complex(nan, 0), []float32{0}}, {2, complex(0, nan), []float32{0}},
		{2, complex(most, 0), []float32{0}}, {2, complex(0, most), []float32{0, 0.25}}, {2, complex(0, -most), []float32{0, 0.25}},
	} {
		best, most, ok := impl.BestPitch(slope(), c.wind, c.way, c.pitches)
		wantNoKnot(t, "best pitch of wrong arguments", best, most, ok)
	}
	// One force that is not finite is enough, wherever it is.
	p := impl.Profile{Angles: []float32{-0.25, 0, 0.25}, Lifts: []float32{0, 0, most}, Drags: ones(3)}
	for _, pitches := range [][]float32{{-0.25, 0.25}, {0.25, -0.25}, {0, 0.25, 0}} {
		best, least, ok := impl.BestPitch(p, 4, -1, pitches)
		wantNoKnot(t, "best pitch with a force that is not finite", best, least, ok)
	}
}

func TestStepApart(t *testing.T) {
	for _, c := range []struct {
		apart           bool
		angle, up, down float32
		want            bool
	}{
		{false, 0.5, 0.25, 0.125, true}, {true, 0.5, 0.25, 0.125, true}, {false, 0.25, 0.25, 0.125, false}, {true, 0.25, 0.25, 0.125, true}, {false, 0.2, 0.25, 0.125, false},
		{true, 0.2, 0.25, 0.125, true}, {true, 0.125, 0.25, 0.125, true}, {false, 0.125, 0.25, 0.125, false}, {true, 0.1, 0.25, 0.125, false}, {false, 0.1, 0.25, 0.125, false},
		// Angles are not wrapped, and both bounds can be equal.
		{false, 1.1, 0.25, 0.125, true}, {true, -0.9, 0.25, 0.125, false}, {true, 0.2, 0.2, 0.2, true}, {false, 0.2, 0.2, 0.2, false}, {false, num(0x3e4ccccf), 0.2, 0.2, true}, {true, num(0x3e4ccccc), 0.2, 0.2, false},
		{true, num(minusZero), 0, 0, true}, {true, 0, 0, num(minusZero), true}, {true, 0, num(minusZero), 0, true}, {false, 0, num(minusZero), 0, false}, {true, num(leastSub | minusZero), 0, 0, false},
		{false, num(greatest), num(greatest), -num(greatest), false}, {true, -num(greatest), num(greatest), -num(greatest), true},
	} {
		got, ok := impl.StepApart(c.apart, c.angle, c.up, c.down)
		want(t, "success", ok, true)
		want(t, "apart", got, c.want)
		list, ok := impl.RunApart([]float32{c.angle}, c.up, c.down)
		want(t, "success of a run", ok, true)
		want(t, "apart from together on", len(list) == 1 && list[0] == (c.angle > c.up), true)
	}
	for _, c := range [][3]float32{
		{num(aNaN), 1, 0}, {num(plusInf), 1, 0}, {num(minusInf), 1, 0}, {0, num(aNaN), 0}, {0, num(plusInf), 0}, {0, 1, num(aNaN)}, {0, 1, num(minusInf)}, {0, 0.1, num(0x3dccccce)}, {5, 0, 1},
		{5, num(minusInf), num(minusInf)}, {5, num(plusInf), num(plusInf)}, {0, num(minusZero), num(leastSub)},
	} {
		for _, apart := range []bool{false, true} {
			got, ok := impl.StepApart(apart, c[0], c[1], c[2])
			wantNoSum(t, "apart for wrong numbers", got, ok)
		}
		list, ok := impl.RunApart([]float32{0, c[0]}, c[1], c[2])
		want(t, "no run for wrong numbers", ok || len(list) > 0, false)
	}
}

func TestRunApart(t *testing.T) {
	for _, c := range []struct {
		angles []float32
		want   []bool
	}{
		{nil, nil}, {[]float32{}, nil}, {[]float32{0.2, 0.3, 0.2, 0.1}, []bool{false, true, true, false}}, {[]float32{0.3, 0.1, 0.2, 0.25, 0.26, 0.125, 0.12, 0.2}, []bool{true, false, false, false, true, true, false, false}},
		{ones(impl.MaxNumbers), slices.Repeat([]bool{true}, impl.MaxNumbers)},
	} {
		got, ok := impl.RunApart(c.angles, 0.25, 0.125)
		if !ok || !slices.Equal(got, c.want) {
			t.Errorf("apart at %v: got %v %v, want %v", c.angles, got, ok, c.want)
		}
	}
	for _, angles := range [][]float32{ones(impl.MaxNumbers + 1), ones(1000), {0.1, num(aNaN)}, {num(plusInf), 0.1}, {0.1, num(minusInf), 0.1}} {
		got, ok := impl.RunApart(angles, 0.25, 0.125)
		want(t, "no run for wrong angles", ok || len(got) > 0, false)
	}
	for _, c := range [][2]float32{{0.1, 0.2}, {num(aNaN), 0}, {0, num(aNaN)}, {num(plusInf), 0}, {0, num(minusInf)}} {
		got, ok := impl.RunApart(nil, c[0], c[1])
		want(t, "no run for wrong bounds, without any angle", ok || len(got) > 0, false)
	}
}

func TestLiftApart(t *testing.T) {
	most := num(greatest)
	for _, c := range []struct {
		p            impl.Profile
		angle, share float32
		apart        bool
		want         uint32
	}{
		{slope(), 0.25, 0.5, true, 0x3f000000}, {slope(), 0.25, 0.5, false, 0x3f800000}, {slope(), 0.25, -3, true, 0xc0400000}, {slope(), 1.125, 0.5, true, 0x3e800000},
		{slope(), 0.25, 0, true, plusZero}, {slope(), 0.25, num(minusZero), true, minusZero}, {slope(), 0, -1, true, minusZero}, {slope(), 0, -1, false, plusZero},
		{wing(), 0.05, 0.3, true, 0x3e341e3a}, {wing(), 0.05, 0.3, false, 0x3f161930}, {flatTo(most, most, 1, 1), 0, 2, false, greatest}, {flatTo(most, most, 1, 1), 0, 1, true, greatest},
	} {
		got, ok := impl.LiftApart(c.p, c.angle, c.share, c.apart)
		wantNumber(t, "lift where air can be apart", got, ok, c.want)
	}
	for _, apart := range []bool{false, true} {
		for _, x := range nums(plusInf, minusInf, aNaN) {
			got, ok := impl.LiftApart(slope(), 0.25, x, apart)
			wantNoSum(t, "a share that is not finite", got, ok)
			got, ok = impl.LiftApart(slope(), x, 0.5, apart)
			wantNoSum(t, "an angle that is not finite", got, ok)
		}
		got, ok := impl.LiftApart(flatTo(most, -most, 1, 1), 0.1, 0, apart)
		wantNoSum(t, "a lift that is not finite", got, ok)
	}
	got, ok := impl.LiftApart(flatTo(most, most, 1, 1), 0, 2, true)
	wantNoSum(t, "a lift that is not finite any more", got, ok)
}

func TestFitDrags(t *testing.T) {
	for _, c := range []struct {
		p            impl.Profile
		from, to     float32
		start, slope uint32
	}{
		{wing(), -1, 1, 0x3f1546c0, 0xbead252a}, {wing(), -0.2, 0.1, 0x3d75adbc, 0x3d654b5a}, {wing(), 0, 0.3, 0x3e8968ce, 0xbd865f8d}, {wing(), -0.05, 0.013, 0x3c081001, 0x3d6b66fd},
		{wing(), -0.41, -0.2, 0x3f7947ae, 0xbf51c71d}, {otherWing(), -1, 1, 0x3f81279e, 0xbd8fd263}, {otherWing(), -0.2, 0.1, 0x3fba6f16, 0xbdd09329}, {otherWing(), 0, 0.3, 0x3fc31b61, 0xbdef7e1b},
		{wing(), num(minusInf), num(plusInf), 0x3f1546c0, 0xbead252a}, {otherWing(), -0.05, 0.013, 0xbd597799, 0x3db7648f},
		{flatTo(0, 2, 1, 3), -0.5, 0.5, 0x3f800000, 0x3f000000}, {flatTo(0, -2, 1, 3), 0, 0.25, 0x3f800000, 0x3f000000}, {flatTo(2, 0, 0, 0), 0, 0.25, plusZero, plusZero},
		{flatTo(1, -3, 2, 18), num(minusZero), 0.25, plusZero, 0x40000000}, {flatTo(0, 1, 1, 0), -1, 1, 0x3f800000, 0xbf800000},
		{flatTo(0, num(greatest), 0, num(greatest)), -1, 1, plusZero, 0x00200000}, {flatTo(0, num(leastSub), 0, 0), -1, 1, plusZero, plusZero},
	} {
		start, slope, ok := impl.FitDrags(c.p, c.from, c.to)
		wantNumber(t, "drag without lift", start, ok, c.start)
		wantNumber(t, "drag by the square of the lift", slope, ok, c.slope)
	}
	for _, c := range []struct {
		p        impl.Profile
		from, to float32
	}{
		{wing(), 0, 0}, {wing(), 0.1, 0.1}, {wing(), 0.02, 0.05}, {wing(), 0.1, -0.1}, {wing(), 0.3, 1}, {wing(), num(aNaN), 1}, {wing(), -1, num(aNaN)}, {wing(), num(plusInf), num(minusInf)},
		// All squares are the same one.
		{flatTo(2, 2, 1, 3), -1, 1}, {flatTo(2, -2, 1, 3), -1, 1}, {flatTo(0, num(minusZero), 1, 3), -1, 1}, {evenKnots(impl.MaxKnots), -1, 1},
		// The quotient is not a finite number when it is narrowed.
		{flatTo(0, num(leastSub), 0, 1), -1, 1}, {flatTo(0, num(leastSub), 1, 0), -1, 1}, {flatTo(1, num(0x3f800001), 0, num(greatest)), -1, 1},
		// The other one is finite here.
		{flatTo(2, 1, 0, num(greatest)), -1, 1},
	} {
		start, slope, ok := impl.FitDrags(c.p, c.from, c.to)
		if ok || start != 0 || slope != 0 {
			t.Errorf("drags of %v from %v to %v: got %v %v %v, want none", c.p, c.from, c.to, start, slope, ok)
		}
	}
}

func TestFitDragsOfEqualLifts(t *testing.T) {
	// The differences of rounded sums are not always nothing, where exact ones would be.
	p := evenKnots(7)
	p.Drags = []float32{1, 2, 3, 4, 5, 6, 7}
	p.Lifts = slices.Repeat([]float32{1.68}, 7)
	start, slope, ok := impl.FitDrags(p, -1, 1)
	if ok || start != 0 || slope != 0 {
		t.Errorf("a difference that is negative: got %v %v %v, want none", start, slope, ok)
	}
	p.Lifts = slices.Repeat([]float32{2.62}, 7)
	start, slope, ok = impl.FitDrags(p, -1, 1)
	wantNumber(t, "drag without lift", start, ok, 0x40800000)
	wantNumber(t, "drag by the square of the lift", slope, ok, plusZero)
}
