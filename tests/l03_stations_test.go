package tests

import (
	"math"
	"testing"

	"loop.example/g01256/impl"
)

// The bits of the least and the greatest flow, 0.001 and 0.249.
const (
	leastFlow    = 0x3a83126f
	greatestFlow = 0x3e7ef9db
)

// wrongIndices are no indices of four stations.
func wrongIndices() []int64 {
	return []int64{-1, 4, 5, 1 << 32, math.MinInt64, math.MaxInt64}
}

// wrongFlows are those just beyond the bounds, and others.
func wrongFlows() []float32 {
	return nums(leastFlow-1, greatestFlow+1, plusZero, minusZero, leastSub, leastFlow|minusZero, 0x3dcccccd|minusZero, 0x3e800000, 0x3f800000, greatest, plusInf, minusInf, aNaN)
}

// notPositive has numbers that are not finite or not greater than 0.
func notPositive() []float32 {
	return nums(plusZero, minusZero, leastSub|minusZero, 0xbf800000, greatest|minusZero, plusInf, minusInf, aNaN, 0x7f800001)
}

func notFinite() []float32 {
	return nums(plusInf, minusInf, aNaN, 0xffffffff)
}

func wantTwo(t *testing.T, what string, x, y float32, ok bool, first, second uint32) {
	t.Helper()
	wantNumber(t, what+", first", x, ok, first)
	wantNumber(t, what+", second", y, ok, second)
}

func wantNoTwo(t *testing.T, what string, x, y float32, ok bool) {
	t.Helper()
	if ok || bitsOf(x) != plusZero || bitsOf(y) != plusZero {
		t.Errorf("%s: got %v %v %v, want none", what, x, y, ok)
	}
}

// sines returns the sine of a flow, and that of a quarter of a turn more.
func sines(flow float32) (float32, float32) {
	return impl.SineTurns(flow), impl.SineTurns(flow + 0.25)
}

type stationCase struct {
	i                                              int64
	flow, wind, speed, pitch, density              uint32
	solidity, share, push, pull, balance, balanced uint32
	slowed, turned, firstForce, secondForce        uint32
}

func millCases() []stationCase {
	return []stationCase{
		{0, 0x3e051eb8, 0x40e33333, 0x3ff33333, 0x3c23d70a, 0x3f99999a, 0x3e5ebb67, 0x3f6c7bf5, 0x3f5d3ee8, 0x3f5bab0f, 0xbfe0be80, 0x3e4f48ae, 0x3d14a19d, 0x3e6e9f84, 0x40e648b8, 0x41321678},
		{1, 0x3d8f5c29, 0x40e33333, 0x3ff33333, 0x3c23d70a, 0x3f99999a, 0x3da9dc65, 0x3f5ee3ac, 0x3f4fef78, 0x3eb1553e, 0xbf8a861d, 0x3e2650fd, 0x3ce18057, 0x3d3f481c, 0x41322d74, 0x412c4c7d},
		{2, 0x3cfdf3b6, 0x40e33333, 0x3ff33333, 0x3c23d70a, 0x3f99999a, 0x3d18df01, 0x3f56b827, 0x3f3833b3, 0x3de8c4f8, 0xbf3f27fa, 0x3df9450c, 0x3cf18191, 0x3c99bd39, 0x417efd3a, 0x41212804},
		{3, 0x3c4985f0, 0x40e33333, 0x3ff33333, 0x3c23d70a, 0x3f99999a, 0x3c6166f9, 0x3efe70af, 0x3f3e9fd6, 0x3cf01ce1, 0xbef8c1ac, 0x3da4dbd8, 0x3dd2d9a8, 0x3cd3ded6, 0x41963bff, 0x40ee5949},
		{3, 0x3e4ccccd, 0x40533333, 0x3f333333, 0xbd75c28f, 0x3f8ccccd, 0x3c6166f9, 0x3d980c51, 0x3f60610d, 0x3dbffb10, 0x3f401fbe, 0x3dcdc522, 0x3d9cfb93, 0x3c15ced8, 0x4019776d, 0x3eb7499b},
		{1, 0x3a83126f, 0x413b3333, 0x40133333, 0x3eb33333, 0x3f666666, 0x3da9dc65, 0x3f7f70a7, 0xbdf2b361, 0xbf315ed9, 0xc103f1a6, 0x3e42f1f2, 0xbb27d7c7, 0xbd6fccbd, 0xc0085b96, 0xc1a32576},
		{2, 0x3e7ef9db, 0x40a00000, 0x408ccccd, 0xbf333333, 0x3fa66666, 0x3d18df01, 0x3f006e5b, 0x3c52eda9, 0xbde366bf, 0x3f7f66d2, 0x3d56c58e, 0xbdb90b84, 0xbcbe55ce, 0xc216a024, 0xc1fce91d},
		{0, 0x3de353f8, 0x3f19999a, 0x40a66666, 0x414570a4, 0x3c23d70a, 0x3e5ebb67, 0x3f6ea5fc, 0xbe39e204, 0xbf3d646c, 0x3f04d586, 0x3cd4682c, 0xbd02311c, 0xbe47eb62, 0xb9e525a1, 0xbcab89b9},
	}
}

func fullMillCases() []stationCase {
	return []stationCase{
		{0, 0x3e051eb8, 0x40e33333, 0x3ff33333, 0x3c23d70a, 0x3f99999a, 0x3ef47645, 0x3f7beb49, 0x3fcf3dad, 0xbf9a0f53, 0xc0b3aa1d, 0x3e591c25, 0x3e674e55, 0x3ed094f2, 0x412d7c1a, 0x4027754e},
		{1, 0x3d8f5c29, 0x40e33333, 0x3ff33333, 0x3c23d70a, 0x3f99999a, 0x3e4bb7e4, 0x3f7a3084, 0x3f4ae02e, 0xbe544854, 0xc0244ed5, 0x3e47e7a1, 0x3df5f6b4, 0x3d4354f0, 0x4165390d, 0x3fdb36bc},
		{2, 0x3cfdf3b6, 0x40e33333, 0x3ff33333, 0x3c23d70a, 0x3f99999a, 0x3df47644, 0x3f7b7520, 0x3eac0ed0, 0xbca452f0, 0xbfed7d46, 0x3e336366, 0x3db2a8c8, 0xbc1f9024, 0x41826276, 0xbf5a22b1},
		{3, 0x3c4985f0, 0x40e33333, 0x3ff33333, 0x3c23d70a, 0x3f99999a, 0x3da74372, 0x3f7d3f8a, 0x3e1f2760, 0xbddb9084, 0xbfbf5dc8, 0x3e1ffa6c, 0x3d91e51d, 0xbcbed26a, 0x418e953d, 0xc06d0d6c},
		{11, 0x3e4ccccd, 0x40533333, 0x3f333333, 0xbd75c28f, 0x3f8ccccd, 0x3c25bca8, 0x3e57ff0c, 0x3eeae730, 0x3f8b5150, 0x3f44a0db, 0x3da986c2, 0x3daac601, 0x3cbd3778, 0x40992955, 0x4004bda8},
		{1, 0x3a83126f, 0x413b3333, 0x40133333, 0x3eb33333, 0x3f666666, 0x3e4bb7e4, 0x3f7fe98c, 0x3fc06d3c, 0xbe85680c, 0xbff86788, 0x3e60c14d, 0x3d58c82f, 0xbe2cd499, 0x415cf915, 0xc11bd826},
		{10, 0x3e7ef9db, 0x40a00000, 0x408ccccd, 0xbf333333, 0x3fa66666, 0x3c594caf, 0x3eb6dc07, 0x3fc1e366, 0x3eb51576, 0x3f81bba0, 0x3ce948bc, 0xbd2e1a05, 0xbcf28d5f, 0xc176b739, 0xc27f357b},
		// A balance that is greater than nothing everywhere.
		{0, 0x3de353f8, 0x3f19999a, 0x40a66666, 0x414570a4, 0x3c23d70a, 0x3ef47645, 0x3f7c65d0, 0x3f9649f4, 0xbe16145c, 0x3f2e29ee, leastFlow, 0x3f7ff1f0, 0xbf500566, 0x39efbe27, 0xb88e0895},
	}
}

func TestStations(t *testing.T) {
	check := func(r impl.Rotor, cases []stationCase) {
		for _, c := range cases {
			flow, wind, speed, pitch, density := num(c.flow), num(c.wind), num(c.speed), num(c.pitch), num(c.density)
			got, ok := impl.SolidityAt(r, c.i)
			wantNumber(t, "solidity", got, ok, c.solidity)
			got, ok = impl.TipShareAt(r, c.i, flow)
			wantNumber(t, "tip share", got, ok, c.share)
			push, pull, ok := impl.PushesAt(r, c.i, flow, pitch)
			wantTwo(t, "pushes", push, pull, ok, c.push, c.pull)
			got, ok = impl.BalanceOf(r, c.i, flow, wind, speed, pitch)
			wantNumber(t, "balance", got, ok, c.balance)
			got, ok = impl.FlowAt(r, c.i, wind, speed, pitch)
			wantNumber(t, "flow", got, ok, c.balanced)
			slowed, turned, ok := impl.InductionAt(r, c.i, wind, speed, pitch)
			wantTwo(t, "induction", slowed, turned, ok, c.slowed, c.turned)
			push, pull, ok = impl.StationForces(r, c.i, wind, speed, pitch, density)
			wantTwo(t, "forces", push, pull, ok, c.firstForce, c.secondForce)
		}
	}
	check(mill(), millCases())
	check(fullMill(), fullMillCases())
}

func TestSolidityAt(t *testing.T) {
	example := changed(smallMill(1, 0), func(r *impl.Rotor) { r.Count = 2 })
	got, ok := impl.SolidityAt(example, 0)
	wantNumber(t, "two blades with the chord 1 at the radius 1", got, ok, bitsOf(0.31830987))
	with := func(count int64, radius, chord float32) impl.Rotor {
		return changed(smallMill(1, 0), func(r *impl.Rotor) {
			r.Count, r.Tip, r.Stations[0].Radius, r.Stations[1].Radius, r.Stations[1].Chord = count, num(greatest), radius/2, radius, chord
		})
	}
	for _, c := range []struct {
		r    impl.Rotor
		want uint32
	}{
		{with(1, 1, 6.2831855), 0x3f800000}, {with(6, 1, 6.2831855), 0x40c00000}, {with(3, 4, 6.2831855), 0x3f400000},
		// The product of a number of blades and the chord is rounded, and so is that of the radius.
		{with(3, 2, num(leastSub)), plusZero}, {with(1, 2*num(leastSub), num(leastSub)), 0x3d9d89d9}, {with(1, 0x1p126, 1), plusZero}, {with(1, 0x1p100, 0x1p120), 0x4822f983}, {with(1, 8, num(greatest)), 0x7ca2f982},
	} {
		got, ok := impl.SolidityAt(c.r, 1)
		wantNumber(t, "solidity", got, ok, c.want)
	}
	for _, r := range []impl.Rotor{with(2, 4, num(greatest)), with(6, 4, 0x1p126), with(1, 2*num(leastSub), 1), with(1, 0x1p-120, 0x1p20)} {
		got, ok := impl.SolidityAt(r, 1)
		wantNoSum(t, "solidity that is not finite", got, ok)
	}
	for _, i := range wrongIndices() {
		got, ok := impl.SolidityAt(mill(), i)
		wantNoSum(t, "solidity of no station", got, ok)
	}
}

func TestTipShareAt(t *testing.T) {
	with := func(count int64, radius, tip float32) impl.Rotor {
		return changed(smallMill(1, 0), func(r *impl.Rotor) {
			r.Count, r.Tip, r.Stations[0].Radius, r.Stations[1].Radius = count, tip, radius/2, radius
		})
	}
	for _, c := range []struct {
		r    impl.Rotor
		flow uint32
		want uint32
	}{
		{with(2, 1, 3), leastFlow, 0x3f7f32c3}, {with(2, 1, 3), greatestFlow, 0x3f2aaaf4}, {with(2, 1, 3), 0x3e000000, 0x3f3d21be},
		// Just below the tip, nearly nothing is left, and far from it, all.
		{with(3, 5.9, math.Nextafter32(5.9, 9)), leastFlow, 0x37a1d9b5}, {with(3, 5.9, math.Nextafter32(5.9, 9)), greatestFlow, 0x34022c0b}, {with(1, math.Nextafter32(1, 0), 1), 0x3dcccccd, 0x3359c441},
		{with(6, 0x1p-60, 1), greatestFlow, 0x3f800000}, {with(1, 1, num(greatest)), greatestFlow, 0x3f800000}, {with(1, num(greatest-1), num(greatest)), leastFlow, plusZero}, {with(6, num(greatest-1), num(greatest)), greatestFlow, plusZero},
	} {
		got, ok := impl.TipShareAt(c.r, 1, num(c.flow))
		wantNumber(t, "tip share", got, ok, c.want)
	}
	for _, r := range []impl.Rotor{with(2, 1, num(greatest)), with(1, 2*num(leastSub), 1), with(6, 0x1p-100, 0x1p30)} {
		got, ok := impl.TipShareAt(r, 1, 0.1)
		wantNoSum(t, "tip share that is not finite", got, ok)
	}
	for _, flow := range wrongFlows() {
		got, ok := impl.TipShareAt(mill(), 0, flow)
		wantNoSum(t, "tip share of a wrong flow", got, ok)
	}
	for _, i := range wrongIndices() {
		got, ok := impl.TipShareAt(mill(), i, 0.1)
		wantNoSum(t, "tip share of no station", got, ok)
	}
}

func TestPushesAt(t *testing.T) {
	for _, bits := range []uint32{leastFlow, leastFlow + 1, 0x3dcccccd, 0x3e000000, greatestFlow - 1, greatestFlow} {
		s, c := sines(num(bits))
		push, pull, ok := impl.PushesAt(smallMill(3, 0), 0, num(bits), 0)
		wantTwo(t, "lift alone", push, pull, ok, bitsOf(3*c), bitsOf(3*s))
		push, pull, ok = impl.PushesAt(smallMill(-3, 0), 1, num(bits), -7)
		wantTwo(t, "lift downward", push, pull, ok, bitsOf(-3*c), bitsOf(-3*s))
		push, pull, ok = impl.PushesAt(smallMill(0, 3), 0, num(bits), 0.3)
		wantTwo(t, "drag alone", push, pull, ok, bitsOf(3*s), bitsOf(-3*c))
		push, pull, ok = impl.PushesAt(smallMill(0, 0), 0, num(bits), 0.3)
		wantTwo(t, "neither", push, pull, ok, plusZero, plusZero)
		push, pull, ok = impl.PushesAt(smallMill(5, 2), 0, num(bits), 0.3)
		wantTwo(t, "both", push, pull, ok, bitsOf(float32(5*c)+float32(2*s)), bitsOf(float32(5*s)-float32(2*c)))
	}
}

func TestPushesAtAngles(t *testing.T) {
	// The lift of this profile is four times the angle, up to a quarter of a turn, and its drag nothing.
	with := func(twist float32) impl.Rotor {
		return changed(smallMill(0, 0), func(r *impl.Rotor) {
			r.Profile = flatTo(0, 1, 0, 0)
			r.Stations[1].Twist = twist
		})
	}
	s, c := sines(0.125)
	for _, a := range []struct {
		twist, pitch, lift float32
	}{
		{0, 0, 0.5}, {0.125, 0, 0}, {0, 0.125, 0}, {0.0625, 0.0625, 0}, {0.0625, 0, 0.25}, {0, 0.0625, 0.25}, {-0.125, 0, 1}, {0, -0.125, 1}, {0.5, -0.5, 0.5}, {1, 2, 0.5}, {-7, 0.0625, 0.25},
		// The twist is taken away first.
		{0x1p30, -0x1p30, 0}, {0x1p22, -0x1p22, 0}, {-0x1p30, 0x1p30, 0}, {num(greatest), -num(greatest), 0}, {0x1p20, -0x1p20, 0.5},
	} {
		push, pull, ok := impl.PushesAt(with(a.twist), 1, 0.125, a.pitch)
		wantTwo(t, "pushes", push, pull, ok, bitsOf(a.lift*c), bitsOf(a.lift*s))
	}
}

func TestPushesAtWrongArguments(t *testing.T) {
	most := num(greatest)
	for _, flow := range wrongFlows() {
		push, pull, ok := impl.PushesAt(mill(), 0, flow, 0)
		wantNoTwo(t, "pushes of a wrong flow", push, pull, ok)
	}
	for _, pitch := range notFinite() {
		push, pull, ok := impl.PushesAt(mill(), 0, 0.1, pitch)
		wantNoTwo(t, "pushes of a wrong pitch", push, pull, ok)
	}
	for _, i := range wrongIndices() {
		push, pull, ok := impl.PushesAt(mill(), i, 0.1, 0)
		wantNoTwo(t, "pushes of no station", push, pull, ok)
	}
	twisted := changed(mill(), func(r *impl.Rotor) { r.Stations[2].Twist = most })
	push, pull, ok := impl.PushesAt(twisted, 2, 0.1, most)
	wantNoTwo(t, "an angle that is not finite", push, pull, ok)
	push, pull, ok = impl.PushesAt(twisted, 1, 0.1, most)
	want(t, "an angle that is far away", ok && push != 0 && pull != 0, true)
	for _, p := range []impl.Profile{
		flatTo(most, most, most, most), flatTo(-most, -most, most, most), flatTo(most, -most, 0, 0), flatTo(-most, most, 0, 0),
	} {
		r := changed(smallMill(0, 0), func(r *impl.Rotor) { r.Profile = p })
		push, pull, ok := impl.PushesAt(r, 0, 0.125, 0)
		wantNoTwo(t, "a push or a pull that is not finite", push, pull, ok)
	}
}

func TestBalanceOf(t *testing.T) {
	// Without lift and drag, it is the sine less the wind by the speed there times the cosine.
	for _, bits := range []uint32{leastFlow, leastFlow + 1, 0x3dcccccd, 0x3e000000, greatestFlow - 1, greatestFlow} {
		flow := num(bits)
		s, c := sines(flow)
		for _, a := range [][2]float32{{1, 1}, {0.3, 1.7}, {7.1, 0.9}, {0x1p-100, 1}, {1, 0x1p-100}, {num(greatest), num(greatest)}} {
			got, ok := impl.BalanceOf(smallMill(0, 0), 0, flow, a[0], a[1], 0.3)
			wantNumber(t, "balance without forces", got, ok, bitsOf(s-float32(a[0]/a[1]*c)))
			got, ok = impl.BalanceOf(smallMill(0, 0), 1, flow, a[0], a[1]/4, 0.3)
			wantNumber(t, "balance without forces at the radius 2", got, ok, bitsOf(s-float32(a[0]/(a[1]/4*2)*c)))
		}
		// A speed there that is beyond all numbers, to which the wind is nothing.
		got, ok := impl.BalanceOf(smallMill(0, 0), 1, flow, 1, num(greatest), 0)
		wantNumber(t, "balance at no wind", got, ok, bitsOf(s))
	}
	got, ok := impl.BalanceOf(smallMill(0, 0), 0, 0.125, 3, 3, 0)
	wantNumber(t, "nothing", got, ok, plusZero)
}

func TestBalanceOfWrongArguments(t *testing.T) {
	none := func(what string, r impl.Rotor, i int64, flow, wind, speed, pitch float32) {
		t.Helper()
		got, ok := impl.BalanceOf(r, i, flow, wind, speed, pitch)
		wantNoSum(t, what, got, ok)
	}
	for _, flow := range wrongFlows() {
		none("a wrong flow", mill(), 0, flow, 1, 1, 0)
	}
	for _, x := range notPositive() {
		none("a wrong wind", mill(), 0, 0.1, x, 1, 0)
		none("a wrong speed", mill(), 0, 0.1, 1, x, 0)
	}
	for _, pitch := range notFinite() {
		none("a wrong pitch", mill(), 0, 0.1, 1, 1, pitch)
	}
	for _, i := range wrongIndices() {
		none("no station", mill(), i, 0.1, 1, 1, 0)
	}
	none("a speed there that is nothing", changed(smallMill(0, 0), func(r *impl.Rotor) { r.Stations[0].Radius = 0.25 }), 0, 0.1, 1, num(leastSub), 0)
	none("a wind by a speed that is not finite", smallMill(0, 0), 0, 0.1, 0x1p100, 0x1p-100, 0)
	none("an angle that is not finite", changed(mill(), func(r *impl.Rotor) { r.Stations[0].Twist = num(greatest) }), 0, 0.1, 1, 1, num(greatest))
	none("a solidity that is not finite", changed(smallMill(0, 0), func(r *impl.Rotor) { r.Count, r.Stations[0].Chord = 2, num(greatest) }), 0, 0.1, 1, 1, 0)
	none("a tip share that is not finite", changed(smallMill(0, 0), func(r *impl.Rotor) { r.Count, r.Tip = 2, num(greatest) }), 0, 0.1, 1, 1, 0)
	atTip := func(r *impl.Rotor) { r.Tip, r.Stations[1].Radius = num(greatest), num(greatest-1) }
	none("a tip share of nothing, without forces", changed(smallMill(0, 0), atTip), 1, 0.1, 1, 1, 0)
	none("a tip share of nothing", changed(smallMill(1, 0), atTip), 1, 0.1, 1, 1, 0)
	none("pushes that are not finite together", smallMill(num(greatest), 0), 0, 0.001, 1, 1, 0)
}

func TestFlowAt(t *testing.T) {
	for _, c := range []struct {
		wind, speed float32
		want        uint32
	}{
		// Where the balance is nothing, low is put there.
		{1, 1, 0x3e000000}, {0x1p60, 0x1p60, 0x3e000000},
		// Balances that are greater than nothing everywhere, or nowhere.
		{num(leastSub), 1, leastFlow}, {0.006, 1, leastFlow}, {1, num(greatest), leastFlow}, {1000, 1, greatestFlow - 1}, {1, 0x1p-120, greatestFlow - 1},
		// Just within the bounds.
		{0.006284, 1, 0x3a8315e7}, {159, 1, 0x3e7ef99a},
	} {
		got, ok := impl.FlowAt(smallMill(0, 0), 0, c.wind, c.speed, 0.3)
		wantNumber(t, "flow without forces", got, ok, c.want)
	}
	n := noise(20)
	for range 2000 {
		wind, speed := 1.1+n.between(), 1.1+n.between()
		got, ok := impl.FlowAt(smallMill(0, 0), 1, wind, speed, n.between())
		if wanted := impl.AngleTurns(wind, 2*speed); !ok || math.Abs(float64(got-wanted)) > 1e-6 {
			t.Errorf("wind %v, speed %v: got %v %v, want nearly %v", wind, speed, got, ok, wanted)
		}
	}
}

func TestFlowAtWrongArguments(t *testing.T) {
	for _, a := range wrongCourses() {
		got, ok := impl.FlowAt(a.r, a.i, a.wind, a.speed, a.pitch)
		wantNoSum(t, "flow of "+a.what, got, ok)
		slowed, turned, ok := impl.InductionAt(a.r, a.i, a.wind, a.speed, a.pitch)
		wantNoTwo(t, "induction of "+a.what, slowed, turned, ok)
		push, pull, ok := impl.StationForces(a.r, a.i, a.wind, a.speed, a.pitch, 1)
		wantNoTwo(t, "forces of "+a.what, push, pull, ok)
	}
}

type wrongCourse struct {
	what               string
	r                  impl.Rotor
	i                  int64
	wind, speed, pitch float32
}

// wrongCourses has stations and courses without flows.
func wrongCourses() []wrongCourse {
	list := []wrongCourse{
		{"an angle that is not finite", changed(mill(), func(r *impl.Rotor) { r.Stations[0].Twist = num(greatest) }), 0, 1, 1, num(greatest)},
		{"a speed there that is nothing", changed(smallMill(0, 0), func(r *impl.Rotor) { r.Stations[0].Radius = 0.25 }), 0, 1, num(leastSub), 0},
		{"a wind by a speed that is not finite", smallMill(0, 0), 0, 0x1p100, 0x1p-100, 0},
		{"a tip share of nothing", changed(smallMill(1, 0), func(r *impl.Rotor) { r.Tip, r.Stations[1].Radius = num(greatest), num(greatest-1) }), 1, 1, 1, 0},
		// One balance among those that are told, near to the end.
		{"a lift that is not finite somewhere", changed(smallMill(0, 0), func(r *impl.Rotor) {
			most := num(greatest)
			r.Profile = impl.Profile{Angles: []float32{-0.25, 0.1475, 0.1477, 0.25}, Lifts: []float32{0, -most, most, 0}, Drags: make([]float32, 4)}
			r.Stations[0].Chord = num(leastNorm)
		}), 0, 4, 3, 0},
	}
	for _, x := range notPositive() {
		list = append(list, wrongCourse{"a wrong wind", mill(), 0, x, 1, 0}, wrongCourse{"a wrong speed", mill(), 0, 1, x, 0})
	}
	for _, x := range notFinite() {
		list = append(list, wrongCourse{"a wrong pitch", mill(), 0, 1, 1, x})
	}
	for _, i := range wrongIndices() {
		list = append(list, wrongCourse{"no station", mill(), i, 1, 1, 0})
	}
	return list
}

func TestFlowAtItsLowestBound(t *testing.T) {
	// The balance is told at none of both bounds; only at 0.001, there is no lift.
	most := num(greatest)
	r := changed(smallMill(0, 0), func(r *impl.Rotor) {
		r.Profile = impl.Profile{Angles: []float32{-0.25, num(leastFlow + 1), 0.25}, Lifts: []float32{-most, most, 0}, Drags: make([]float32, 3)}
		r.Stations[0].Chord = num(leastNorm)
	})
	got, ok := impl.FlowAt(r, 0, 0.001, 1, 0)
	wantNumber(t, "flow", got, ok, leastFlow)
	balance, ok := impl.BalanceOf(r, 0, num(leastFlow), 0.001, 1, 0)
	wantNoSum(t, "balance", balance, ok)
	slowed, turned, ok := impl.InductionAt(r, 0, 0.001, 1, 0)
	wantNoTwo(t, "induction", slowed, turned, ok)
	push, pull, ok := impl.StationForces(r, 0, 0.001, 1, 0, 1)
	wantNoTwo(t, "forces", push, pull, ok)
}

func TestInductionAt(t *testing.T) {
	slowed, turned, ok := impl.InductionAt(smallMill(0, 0), 0, 2, 1, 0)
	wantTwo(t, "without forces", slowed, turned, ok, plusZero, plusZero)
	// Lift slows the wind and turns the air, and drag turns it the other way.
	slowed, turned, ok = impl.InductionAt(smallMill(1, 0), 0, 2, 1, 0)
	want(t, "lift", ok && slowed > 0 && slowed < 1 && turned > 0, true)
	slowed, turned, ok = impl.InductionAt(smallMill(0, 1), 0, 2, 1, 0)
	want(t, "drag", ok && slowed > 0 && slowed < 1 && turned < 0, true)
	slowed, turned, ok = impl.InductionAt(smallMill(-0.25, 0), 0, 2, 1, 0)
	want(t, "lift downward", ok && slowed < 0 && turned < 0, true)
}

func TestStationForces(t *testing.T) {
	push, pull, ok := impl.StationForces(smallMill(0, 0), 0, 2, 1, 0, 1)
	wantTwo(t, "without forces", push, pull, ok, plusZero, plusZero)
	one, two, ok := impl.StationForces(smallMill(1, 0.5), 0, 2, 1, 0, 0.75)
	want(t, "forces", ok && one > 0 && two > 0, true)
	push, pull, ok = impl.StationForces(smallMill(1, 0.5), 0, 2, 1, 0, 3)
	wantTwo(t, "four times as dense", push, pull, ok, bitsOf(4*one), bitsOf(4*two))
	push, pull, ok = impl.StationForces(smallMill(1, 0.5), 0, 2, 1, 0, num(leastSub))
	wantTwo(t, "half of the least density", push, pull, ok, plusZero, plusZero)
	for _, density := range notPositive() {
		push, pull, ok = impl.StationForces(mill(), 0, 2, 1, 0, density)
		wantNoTwo(t, "a wrong density", push, pull, ok)
	}
	push, pull, ok = impl.StationForces(smallMill(1, 0.5), 0, 2, 1, 0, num(greatest))
	wantNoTwo(t, "a force that is not finite", push, pull, ok)
	push, pull, ok = impl.StationForces(smallMill(0, 0), 0, 0x1p70, 1, 0, 1)
	wantNoTwo(t, "a square of a wind that is not finite", push, pull, ok)
	push, pull, ok = impl.StationForces(smallMill(0, 0), 0, 1, 0x1p70, 0, 1)
	wantNoTwo(t, "a square of a speed that is not finite", push, pull, ok)
	// Half of the density comes before the squares, and the chord behind them.
	push, pull, ok = impl.StationForces(changed(smallMill(1, 0), func(r *impl.Rotor) { r.Stations[0].Chord = 0x1p-60 }), 0, 0x1p50, 0x1p50, 0, 0x1p60)
	wantNoTwo(t, "a product that is not finite before the chord", push, pull, ok)
	push, pull, ok = impl.StationForces(changed(smallMill(1, 0), func(r *impl.Rotor) { r.Stations[0].Chord = 0x1p60 }), 0, 0x1p-50, 0x1p-50, 0, 0x1p-60)
	wantTwo(t, "a product that is nothing before the chord", push, pull, ok, plusZero, plusZero)
}
