package tests

import (
	"math"
	"slices"
	"testing"

	"loop.example/g01256/impl"
)

func wantLists(t *testing.T, what string, x, y []float32, ok bool, first, second []float32) {
	t.Helper()
	if !ok || !sameNumbers(x, first) || !sameNumbers(y, second) {
		t.Errorf("%s: got %v %v %v, want %v %v", what, x, y, ok, first, second)
	}
}

func wantNoLists(t *testing.T, what string, x, y []float32, ok bool) {
	t.Helper()
	if ok || len(x)+len(y) > 0 {
		t.Errorf("%s: got %v %v %v, want none", what, x, y, ok)
	}
}

type rotorCase struct {
	wind, speed, pitch, density                       uint32
	pushes, pulls                                     []float32
	thrust, torque, bending, power, through, tipRatio uint32
}

func millSums() []rotorCase {
	return []rotorCase{
		{0x40e33333, 0x3ff33333, 0x3c23d70a, 0x3f99999a, nums(0x40e648b8, 0x41322d74, 0x417efd3a, 0x41963bff), nums(0x41321678, 0x412c4c7d, 0x41212804, 0x40ee5949), 0x43540757, 0x43eb6b9c, 0x4375592f, 0x445fa63a, 0x46ca9ad0, 0x3fd45f30},
		{0x40533333, 0x3f333333, 0xbd75c28f, 0x3f8ccccd, nums(0x3fdad655, 0x4009c073, 0x401fff7a, 0x4019776d), nums(0x3fbaeb2e, 0x3f9432d4, 0x3f4b6cf0, 0x3eb7499b), 0x4208f6d6, 0x4211b778, 0x42117882, 0x41cc00db, 0x45152eb6, 0x3fa856e2},
		{0x413b3333, 0x40133333, 0x3eb33333, 0x3f666666, nums(0x4023410a, 0xc0085b96, 0xc0e3347b, 0xc121a824), nums(0xc198da6f, 0xc1a32576, 0xc1a6922f, 0xc18dcb2b), 0xc29b3b3a, 0xc478caff, 0xc2ddac81, 0xc50f0e52, 0x47a9fe71, 0x3f9c01c0},
		{0x40a00000, 0x408ccccd, 0xbf333333, 0x3fa66666, nums(0xc02e4ff1, 0xc17dd2e5, 0xc216a024, 0xc26aa9aa), nums(0xc1066399, 0xc197f0bc, 0xc1fce91d, 0xc21a0930), 0xc3eec719, 0xc4c742a4, 0xc41ee7d0, 0xc5db2fb5, 0x46194fe9, 0x40ae978e},
		{0x3f19999a, 0x40a66666, 0x414570a4, 0x3c23d70a, nums(0xb9e525a1, 0xbd14061a, 0xbe2aec36, 0xbeae10e1), nums(0xbcab89b9, 0xbdeb49ab, 0xbe8cd9e7, 0xbec7a2dd), 0xc00dafca, 0xc16651bb, 0xc04daf0a, 0xc295b520, 0x3e058dd5, 0x4256eeed},
	}
}

func fullMillSums() []rotorCase {
	return []rotorCase{
		{
			0x40e33333, 0x3ff33333, 0x3c23d70a, 0x3f99999a,
			nums(0x412d7c1a, 0x4165390d, 0x41826276, 0x418e953d, 0x4198f04a, 0x41a24b44, 0x41ab243a, 0x41b39f81, 0x41bb6d7c, 0x41c1a644, 0x41c486cf, 0x41c029b8),
			nums(0x4027754e, 0x3fdb36bc, 0xbf5a22b1, 0xc06d0d6c, 0xc0cc922c, 0xc10aae64, 0xc1259f32, 0xc1352b4c, 0xc13856e7, 0xc12f46df, 0xc11b9db2, 0xc1023f67),
			0x444f7efa, 0xc4b3d3e1, 0x440c2d25, 0xc52ad616, 0x4728a95e, 0x4009039b,
		},
		{
			0x40533333, 0x3f333333, 0xbd75c28f, 0x3f8ccccd,
			nums(0x3fffc5e1, 0x4017aa99, 0x402bb34a, 0x40413e14, 0x40571e8e, 0x406cb352, 0x4080bd59, 0x408a5d7a, 0x4092a870, 0x4098c73e, 0x409b8c2b, 0x40992955),
			nums(0x3fd87745, 0x401962db, 0x401ad7c0, 0x40138983, 0x400baa83, 0x4005e55c, 0x4003217d, 0x40036305, 0x4005fcd4, 0x40098118, 0x400b5314, 0x4004bda8),
			0x431a15aa, 0x43adcbdd, 0x42d62bd7, 0x4373509c, 0x457860f4, 0x3fd9364e,
		},
		{
			0x413b3333, 0x40133333, 0x3eb33333, 0x3f666666,
			nums(0x4150929f, 0x415cf915, 0x41594d99, 0x4150df86, 0x41434be8, 0x412e9dc7, 0x4111360a, 0x40d4e8da, 0x406c2bed, 0x3ea5bb13, 0xc04d5b3d, 0xc0d29ef9),
			nums(0xc11a37a6, 0xc11bd826, 0xc12a7891, 0xc13fb5d4, 0xc15a7459, 0xc1792261, 0xc18cc39f, 0xc19c70ce, 0xc1aa0724, 0xc1b3d5af, 0xc1b81b47, 0xc1b513e9),
			0x439c3d42, 0xc5408252, 0x42dc571e, 0xc5dd62ab, 0x480d83a2, 0x3fc94c95,
		},
		{
			0x3f19999a, 0x40a66666, 0x414570a4, 0x3c23d70a,
			nums(0x39efbe27, 0x3b987df3, 0x3c650b32, 0x3ce363b5, 0x3d3706a7, 0x3d815e7c, 0x3da6c6bd, 0x3dc7d352, 0x3de0748c, 0x3deca146, 0x3de89b3a, 0x3dd11562),
			nums(0xb88e0895, 0xba870818, 0xbb8c2f9f, 0xbc38281a, 0xbcbf18a6, 0xbd2b839d, 0xbd8b56ab, 0xbdd23418, 0xbe156b7d, 0xbe49dab3, 0xbe81f22e, 0xbe9eb52d),
			0x402d93d2, 0xc1b16211, 0x400e21e0, 0xc2e69916, 0x3e5e5bc3, 0x428aaaaa,
		},
	}
}

func TestSumsOfRotors(t *testing.T) {
	check := func(r impl.Rotor, cases []rotorCase) {
		for _, c := range cases {
			wind, speed, pitch, density := num(c.wind), num(c.speed), num(c.pitch), num(c.density)
			pushes, pulls, ok := impl.ForcesOfRotor(r, wind, speed, pitch, density)
			wantLists(t, "forces", pushes, pulls, ok, c.pushes, c.pulls)
			pushes, pulls, ok = impl.ForcesShared(r, wind, speed, pitch, density, 3)
			wantLists(t, "forces, shared", pushes, pulls, ok, c.pushes, c.pulls)
			got, ok := impl.ThrustOf(r, wind, speed, pitch, density)
			wantNumber(t, "thrust", got, ok, c.thrust)
			got, ok = impl.TorqueOf(r, wind, speed, pitch, density)
			wantNumber(t, "torque", got, ok, c.torque)
			got, ok = impl.BendingOf(r, wind, speed, pitch, density)
			wantNumber(t, "bending", got, ok, c.bending)
			got, ok = impl.RotorPower(r, wind, speed, pitch, density)
			wantNumber(t, "power", got, ok, c.power)
			got, ok = impl.WindThrough(r, wind, density)
			wantNumber(t, "wind through", got, ok, c.through)
			got, ok = impl.TipRatio(r, wind, speed)
			wantNumber(t, "tip ratio", got, ok, c.tipRatio)
		}
	}
	check(mill(), millSums())
	check(fullMill(), fullMillSums())
}

// failingAt returns a rotor whose flow does not exist at one station, for the greatest pitch.
func failingAt(r impl.Rotor, i int) impl.Rotor {
	return changed(r, func(r *impl.Rotor) { r.Stations[i].Twist = num(greatest) })
}

func TestForcesOfOneStationThatFails(t *testing.T) {
	for i := range impl.MaxStations {
		r := failingAt(fullMill(), i)
		for workers := int64(1); workers <= impl.MaxWorkers; workers++ {
			pushes, pulls, ok := impl.ForcesShared(r, 3, 1, num(greatest), 1, workers)
			wantNoLists(t, "forces, shared", pushes, pulls, ok)
			_, _, ok = impl.ForcesShared(fullMill(), 3, 1, num(greatest), 1, workers)
			want(t, "forces, shared, without it", ok, true)
		}
		pushes, pulls, ok := impl.ForcesOfRotor(r, 3, 1, num(greatest), 1)
		wantNoLists(t, "forces", pushes, pulls, ok)
		got, ok := impl.ThrustOf(r, 3, 1, num(greatest), 1)
		wantNoSum(t, "thrust", got, ok)
		got, ok = impl.TorqueOf(r, 3, 1, num(greatest), 1)
		wantNoSum(t, "torque", got, ok)
		got, ok = impl.BendingOf(r, 3, 1, num(greatest), 1)
		wantNoSum(t, "bending", got, ok)
		got, ok = impl.RotorPower(r, 3, 1, num(greatest), 1)
		wantNoSum(t, "power", got, ok)
	}
}

func TestForcesSharedByWrongNumbersOfWorkers(t *testing.T) {
	for _, workers := range []int64{0, -1, impl.MaxWorkers + 1, 1 << 32, 1<<32 + 1, math.MaxInt64, math.MinInt64} {
		pushes, pulls, ok := impl.ForcesShared(mill(), 3, 1, 0, 1, workers)
		wantNoLists(t, "a wrong number of workers", pushes, pulls, ok)
	}
	for _, workers := range []int64{1, 2, impl.MaxWorkers - 1, impl.MaxWorkers} {
		_, _, ok := impl.ForcesShared(mill(), 3, 1, 0, 1, workers)
		want(t, "a right number of workers", ok, true)
	}
}

func TestSumsOfWrongArguments(t *testing.T) {
	none := func(what string, wind, speed, pitch, density float32) {
		t.Helper()
		pushes, pulls, ok := impl.ForcesOfRotor(mill(), wind, speed, pitch, density)
		wantNoLists(t, "forces for "+what, pushes, pulls, ok)
		for workers := int64(1); workers <= impl.MaxWorkers; workers++ {
			pushes, pulls, ok = impl.ForcesShared(mill(), wind, speed, pitch, density, workers)
			wantNoLists(t, "forces, shared, for "+what, pushes, pulls, ok)
		}
		for name, sum := range map[string]func(r impl.Rotor, wind, speed, pitch, density float32) (float32, bool){
			"thrust": impl.ThrustOf, "torque": impl.TorqueOf, "bending": impl.BendingOf, "power": impl.RotorPower,
		} {
			got, ok := sum(mill(), wind, speed, pitch, density)
			wantNoSum(t, name+" for "+what, got, ok)
		}
	}
	for _, x := range notPositive() {
		none("a wrong wind", x, 1, 0, 1)
		none("a wrong speed", 3, x, 0, 1)
		none("a wrong density", 3, 1, 0, x)
		got, ok := impl.WindThrough(mill(), x, 1)
		wantNoSum(t, "power through of a wrong wind", got, ok)
		got, ok = impl.WindThrough(mill(), 1, x)
		wantNoSum(t, "power through of a wrong density", got, ok)
		got, ok = impl.TipRatio(mill(), x, 1)
		wantNoSum(t, "tip ratio of a wrong wind", got, ok)
		got, ok = impl.TipRatio(mill(), 1, x)
		wantNoSum(t, "tip ratio of a wrong speed", got, ok)
	}
	for _, x := range notFinite() {
		none("a wrong pitch", 3, 1, x, 1)
	}
}

func TestSumsThatAreNotFinite(t *testing.T) {
	// Both forces are there, but not their sum.
	r := changed(smallMill(4, 0), func(r *impl.Rotor) {
		r.Hub, r.Stations[1].Radius = 0.75, math.Nextafter32(1, 2)
	})
	pushes, pulls, ok := impl.ForcesOfRotor(r, 1, 1, 0, 1)
	want(t, "success", ok && pushes[0] > pulls[0], true)
	most := num(greatest) / max(pushes[0], pushes[1]) * 0.99
	_, _, ok = impl.ForcesOfRotor(r, 1, 1, 0, most)
	want(t, "forces that are finite", ok, true)
	got, ok := impl.ThrustOf(r, 1, 1, 0, most)
	wantNoSum(t, "thrust", got, ok)
	got, ok = impl.BendingOf(r, 1, 1, 0, most)
	want(t, "bending that is finite", ok && got > 0, true)
	got, ok = impl.ThrustOf(r, 1, 1, 0, most/4)
	want(t, "less thrust", ok && got > 0, true)
}

func TestSumsNearTheGreatestNumber(t *testing.T) {
	// Long arms and many blades make the sums greater than the forces.
	wide := changed(smallMill(1, 0), func(r *impl.Rotor) { r.Count, r.Tip, r.Stations[1].Radius = impl.MaxBlades, 100, 90 })
	pushes, pulls, ok := impl.ForcesOfRotor(wide, 100, 2, 0, 1)
	want(t, "success", ok, true)
	thrust, torque, bending, power := sumsOf(wide, 100, 2, 0, 1)
	for _, c := range []struct {
		what string
		unit float32
		sum  func(r impl.Rotor, wind, speed, pitch, density float32) (float32, bool)
	}{
		{"thrust", thrust, impl.ThrustOf}, {"torque", torque, impl.TorqueOf}, {"bending", bending, impl.BendingOf}, {"power", power, impl.RotorPower},
	} {
		density := num(greatest) / c.unit
		want(t, "finite forces", density*max(pushes[0], pushes[1], pulls[0], pulls[1]) < num(greatest), true)
		got, ok := c.sum(wide, 100, 2, 0, density*0.99)
		want(t, c.what+" just below the greatest number", ok && got > num(greatest)*0.98, true)
		got, ok = c.sum(wide, 100, 2, 0, density*1.01)
		wantNoSum(t, c.what+" just above the greatest number", got, ok)
	}
	// The torque is finite, but not the power.
	got, ok := impl.TorqueOf(wide, 100, 2, 0, num(greatest)/power*1.01)
	want(t, "torque", ok && got > num(greatest)*0.5, true)
}

// sumsOf returns thrust, torque, bending and power.
func sumsOf(r impl.Rotor, wind, speed, pitch, density float32) (float32, float32, float32, float32) {
	thrust, _ := impl.ThrustOf(r, wind, speed, pitch, density)
	torque, _ := impl.TorqueOf(r, wind, speed, pitch, density)
	bending, _ := impl.BendingOf(r, wind, speed, pitch, density)
	power, _ := impl.RotorPower(r, wind, speed, pitch, density)
	return thrust, torque, bending, power
}

func TestSumsWithoutForces(t *testing.T) {
	one, two, three, four := sumsOf(smallMill(0, 0), 2, 1, 0, 1)
	for _, x := range []float32{one, two, three, four} {
		wantBits(t, "sum of nothing", x, plusZero)
	}
	got, ok := impl.RotorPower(smallMill(0, 0), 2, 1, 0, 1)
	wantNumber(t, "power of nothing", got, ok, plusZero)
}

func TestSumsByHand(t *testing.T) {
	for _, r := range []impl.Rotor{mill(), fullMill(), smallMill(1, 0.1), evenMill(7)} {
		pushes, pulls, ok := impl.ForcesOfRotor(r, 3, 1.3, 0.02, 1.1)
		want(t, "success", ok, true)
		var thrust, torque, bending float32
		for i := range len(pushes) - 1 {
			a, b := r.Stations[i].Radius, r.Stations[i+1].Radius
			thrust += float32((b - a) * (0.5 * (pushes[i] + pushes[i+1])))
			torque += float32((b - a) * (0.5 * (float32(pulls[i]*a) + float32(pulls[i+1]*b))))
			bending += float32((b - a) * (0.5 * (float32(pushes[i]*(a-r.Hub)) + float32(pushes[i+1]*(b-r.Hub)))))
		}
		one, two, three, four := sumsOf(r, 3, 1.3, 0.02, 1.1)
		count := float32(r.Count)
		wantBits(t, "thrust", one, bitsOf(count*thrust))
		wantBits(t, "torque", two, bitsOf(count*torque))
		wantBits(t, "bending", three, bitsOf(bending))
		wantBits(t, "power", four, bitsOf(float32(count*torque)*1.3))
	}
}

func TestWindThrough(t *testing.T) {
	with := func(tip float32) impl.Rotor {
		return changed(smallMill(0, 0), func(r *impl.Rotor) {
			r.Tip, r.Stations[0].Radius, r.Stations[1].Radius = tip, tip/4, tip/2
		})
	}
	got, ok := impl.WindThrough(with(1), 2, 2)
	wantNumber(t, "the example", got, ok, bitsOf(25.132742))
	for _, c := range []struct {
		tip, wind, density float32
		want               uint32
	}{
		{1, 1, 2, 0x40490fdb}, {2, 1, 2, 0x41490fdb}, {1, 2, 1, 0x41490fdb}, {1, 1, num(leastSub), plusZero}, {1, 1, num(2), 0x00000003},
		// From left to right: a density that is small at first, a wind that is small at last.
		{0x1p70, 1, 0x1p-100, 0x53c90fdb}, {0x1p-70, 1, 0x1p100, 0x2bc90fdb}, {0x1p60, 0x1p-100, 1, plusZero}, {1, 0x1p-100, 1, plusZero}, {0x1p60, 0x1p-60, 1, 0x21c90fdb},
	} {
		got, ok := impl.WindThrough(with(c.tip), c.wind, c.density)
		wantNumber(t, "wind through", got, ok, c.want)
	}
	for _, c := range [][3]float32{{0x1p70, 1, 1}, {1, 0x1p50, 1}, {0x1p64, 0x1p-60, 1}, {1, 2, num(greatest)}, {1, 1, num(greatest)}} {
		got, ok := impl.WindThrough(with(c[0]), c[1], c[2])
		wantNoSum(t, "wind through that is not finite", got, ok)
	}
}

func TestTipRatio(t *testing.T) {
	for _, c := range []struct {
		wind, speed float32
		want        uint32
	}{
		{2, 4, bitsOf(8)}, {1, 1, bitsOf(4)}, {3, 0.1, 0x3e088889}, {num(greatest), 1, leastNorm + 1}, {1, num(leastSub), 4}, {8, num(leastSub), plusZero},
	} {
		got, ok := impl.TipRatio(smallMill(0, 0), c.wind, c.speed)
		wantNumber(t, "tip ratio", got, ok, c.want)
	}
	for _, c := range [][2]float32{{num(greatest), num(greatest)}, {num(leastSub), 1}, {0.5, 0x1p126}} {
		got, ok := impl.TipRatio(smallMill(0, 0), c[0], c[1])
		wantNoSum(t, "tip ratio that is not finite", got, ok)
	}
}

// someNumbers returns a list of numbers that grow from the first one on.
func someNumbers(first float32, count int) []float32 {
	var list []float32
	for k := range count {
		list = append(list, first+float32(k)/16)
	}
	return list
}

func TestPowerCurve(t *testing.T) {
	for _, r := range []impl.Rotor{mill(), fullMill(), smallMill(1, 0.1)} {
		for _, count := range []int{0, 1, 2, impl.MaxList - 1, impl.MaxList} {
			winds := someNumbers(2, count)
			got, ok := impl.PowerCurve(r, winds, 1.3, 0.02, 1.1)
			want(t, "success", ok && len(got) == count, true)
			for k, x := range got {
				power, _ := impl.RotorPower(r, winds[k], 1.3, 0.02, 1.1)
				wantBits(t, "power", x, bitsOf(power))
			}
		}
	}
	got, ok := impl.PowerCurve(mill(), []float32{7.1, 7.1}, 1.9, 0.01, 1.2)
	want(t, "success", ok && sameNumbers(got, nums(0x445fa63a, 0x445fa63a)), true)
}

func TestPowerCurveOfWrongArguments(t *testing.T) {
	none := func(what string, winds []float32, speed, pitch, density float32) {
		t.Helper()
		got, ok := impl.PowerCurve(mill(), winds, speed, pitch, density)
		want(t, "no curve for "+what, !ok && len(got) == 0, true)
	}
	none("too many winds", someNumbers(2, impl.MaxList+1), 1, 0, 1)
	none("many winds", someNumbers(2, 1000), 1, 0, 1)
	for _, x := range notPositive() {
		for i := range 3 {
			winds := []float32{1, 2, 3}
			winds[i] = x
			none("a wrong wind", winds, 1, 0, 1)
		}
		for _, winds := range [][]float32{nil, {2}} {
			none("a wrong speed", winds, x, 0, 1)
			none("a wrong density", winds, 1, 0, x)
		}
	}
	for _, x := range notFinite() {
		none("a wrong pitch without any wind", nil, 1, x, 1)
		none("a wrong pitch", []float32{2}, 1, x, 1)
	}
	none("a power that is not finite", []float32{1, 0x1p70, 1}, 1, 0, 1)
	for _, r := range wrongRotors() {
		got, ok := impl.PowerCurve(r, nil, 1, 0, 1)
		want(t, "no curve of a wrong rotor without any wind", !ok && len(got) == 0, true)
	}
}

func TestBestTwist(t *testing.T) {
	pitches := []float32{-0.3, -0.2, -0.1, -0.05, 0, 0.05, 0.1, 0.2, 0.3}
	for _, c := range []struct {
		r           impl.Rotor
		wind, speed float32
		best        int64
		most        uint32
	}{
		{mill(), 7.1, 1.9, 5, 0x448d84a8}, {mill(), 3.3, 0.7, 5, 0x429e9dfe}, {fullMill(), 7.1, 1.9, 2, 0x458c5b19}, {fullMill(), 0.6, 5.2, 0, 0xc55675b7},
	} {
		best, most, ok := impl.BestTwist(c.r, c.wind, c.speed, pitches, 1.2)
		wantKnot(t, "best pitch", best, most, ok, c.best, c.most)
		wantGreatest(t, pitches, best, most, func(pitch float32) (float32, bool) {
			return impl.RotorPower(c.r, c.wind, c.speed, pitch, 1.2)
		})
	}
	one, _ := impl.RotorPower(mill(), 3, 1, 0.02, 1)
	for _, count := range []int{1, 2, impl.MaxList - 1, impl.MaxList} {
		best, most, ok := impl.BestTwist(mill(), 3, 1, slices.Repeat([]float32{0.02}, count), 1)
		wantKnot(t, "the first one of several", best, most, ok, 0, bitsOf(one))
	}
	best, most, ok := impl.BestTwist(mill(), 3, 1, append(slices.Repeat([]float32{-0.3}, impl.MaxList-1), 0.02), 1)
	wantKnot(t, "the last one of all", best, most, ok, impl.MaxList-1, bitsOf(one))
	// All powers are less than nothing.
	best, most, ok = impl.BestTwist(smallMill(0, 1), 3, 1, []float32{0.1, 0.2}, 1)
	want(t, "a power that is less than nothing", ok && best == 0 && most < 0, true)
}

// wantGreatest checks that no power is greater, and no one before as great.
func wantGreatest(t *testing.T, list []float32, best int64, most float32, power func(x float32) (float32, bool)) {
	t.Helper()
	for i, x := range list {
		got, ok := power(x)
		want(t, "success", ok, true)
		want(t, "a greater power, or as great a one before", got > most || got == most && int64(i) < best, false)
		if int64(i) == best {
			wantBits(t, "its power", got, bitsOf(most))
		}
	}
}

func TestBestSpeed(t *testing.T) {
	speeds := []float32{0.1, 0.5, 0.9, 1.3, 1.7, 2.1, 2.9, 4, 9}
	for _, c := range []struct {
		r           impl.Rotor
		wind, pitch float32
		best        int64
		most        uint32
	}{
		{mill(), 7.1, 0.01, 8, 0x45aa88b2}, {mill(), 3.3, -0.06, 6, 0x430ace66}, {fullMill(), 7.1, 0.01, 2, 0x446894f1}, {fullMill(), 3.3, 12.34, 0, 0xc1de1678},
	} {
		best, most, ok := impl.BestSpeed(c.r, c.wind, speeds, c.pitch, 1.2)
		wantKnot(t, "best speed", best, most, ok, c.best, c.most)
		wantGreatest(t, speeds, best, most, func(speed float32) (float32, bool) {
			return impl.RotorPower(c.r, c.wind, speed, c.pitch, 1.2)
		})
	}
	one, _ := impl.RotorPower(mill(), 3, 1, 0.02, 1)
	for _, count := range []int{1, 2, impl.MaxList - 1, impl.MaxList} {
		best, most, ok := impl.BestSpeed(mill(), 3, ones(count), 0.02, 1)
		wantKnot(t, "the first one of several", best, most, ok, 0, bitsOf(one))
	}
	best, most, ok := impl.BestSpeed(mill(), 3, append(slices.Repeat([]float32{9}, impl.MaxList-1), 1), 0.02, 1)
	wantKnot(t, "the last one of all", best, most, ok, impl.MaxList-1, bitsOf(one))
}

func TestBestOfWrongArguments(t *testing.T) {
	twist := func(what string, r impl.Rotor, wind, speed float32, pitches []float32, density float32) {
		t.Helper()
		best, most, ok := impl.BestTwist(r, wind, speed, pitches, density)
		wantNoKnot(t, "best pitch: "+what, best, most, ok)
	}
	speed := func(what string, r impl.Rotor, wind float32, speeds []float32, pitch, density float32) {
		t.Helper()
		best, most, ok := impl.BestSpeed(r, wind, speeds, pitch, density)
		wantNoKnot(t, "best speed: "+what, best, most, ok)
	}
	for _, list := range [][]float32{nil, {}, ones(impl.MaxList + 1), ones(1000)} {
		twist("a wrong number", mill(), 3, 1, list, 1)
		speed("a wrong number", mill(), 3, list, 0, 1)
	}
	for _, x := range notPositive() {
		twist("a wrong wind", mill(), x, 1, []float32{0}, 1)
		twist("a wrong speed", mill(), 3, x, []float32{0}, 1)
		twist("a wrong density", mill(), 3, 1, []float32{0}, x)
		speed("a wrong wind", mill(), x, []float32{1}, 0, 1)
		speed("a wrong density", mill(), 3, []float32{1}, 0, x)
		for i := range 3 {
			list := ones(3)
			list[i] = x
			speed("a wrong speed", mill(), 3, list, 0, 1)
		}
	}
	for _, x := range notFinite() {
		speed("a wrong pitch", mill(), 3, []float32{1}, x, 1)
		for i := range 3 {
			list := ones(3)
			list[i] = x
			twist("a wrong pitch", mill(), 3, 1, list, 1)
		}
	}
	// One power that fails is enough, wherever it is.
	for i := range 3 {
		list := ones(3)
		list[i] = num(greatest)
		twist("a power that fails", failingAt(mill(), 1), 3, 1, list, 1)
		list[i] = 0x1p70
		speed("a power that is not finite", mill(), 3, list, 0, 1)
	}
}
