package tests

import (
	"math"
	"slices"
	"testing"

	"loop.example/g01256/impl"
)

func towerOf(mass, drag, stiff float32) impl.Tower {
	return impl.Tower{Mass: mass, Drag: drag, Stiff: stiff}
}

// bare is the tower of the chapter's example; mast, stump and reed are towers without any simple number.
func bare() impl.Tower { return towerOf(1, 0, 4) }

func mast() impl.Tower { return towerOf(3.7, 0.31, 5.3) }

func stump() impl.Tower { return towerOf(0.013, 2.9, 771.3) }

func reed() impl.Tower { return towerOf(4321.9, 0.7, 0.33) }

// oddTowers returns valid towers with numbers at their bounds.
func oddTowers() []impl.Tower {
	tiny, most := num(leastSub), num(greatest)
	return []impl.Tower{
		towerOf(1, num(minusZero), 1), towerOf(tiny, tiny, tiny), towerOf(most, most, most), towerOf(tiny, 0, most), towerOf(most, 0, tiny), towerOf(1, most, 1), towerOf(num(mostSub), num(mostSub), num(leastNorm)), towerOf(1, 0, tiny),
	}
}

// wrongTowers returns towers each of which has one number that a valid one has not.
func wrongTowers() []impl.Tower {
	list := []impl.Tower{{}, {Mass: 1}, {Stiff: 1}, {Drag: 1}}
	for _, x := range notPositive() {
		list = append(list, towerOf(x, 0, 4), towerOf(1, 0, x), towerOf(x, 2.9, 771.3), towerOf(3.7, 0.31, x))
	}
	for _, x := range notAmounts() {
		list = append(list, towerOf(1, x, 4), towerOf(3.7, x, 5.3))
	}
	return list
}

func TestValidTower(t *testing.T) {
	for _, tower := range append(oddTowers(), bare(), mast(), stump(), reed()) {
		if !impl.ValidTower(tower) {
			t.Errorf("%v is valid", tower)
		}
	}
	for _, tower := range wrongTowers() {
		if impl.ValidTower(tower) {
			t.Errorf("%v is not valid", tower)
		}
	}
}

func TestTowersOfWrongNumbers(t *testing.T) {
	for _, tower := range wrongTowers() {
		x, ok := impl.TowerRate(tower)
		wantNoSum(t, "rate", x, ok)
		answer, ok := impl.AnswerOf(tower, 0.1)
		wantNoSum(t, "answer", answer, ok)
		x, ok = impl.GainOf(tower, 0.1)
		wantNoSum(t, "gain", x, ok)
		place, speed, ok := impl.StepTower(tower, 1, 2, 3, 0.25)
		wantNoTwo(t, "step", place, speed, ok)
		for _, forces := range [][]float32{nil, {1, 2}} {
			places, ok := impl.RunTower(tower, 1, 2, forces, 0.25)
			wantNoLists(t, "run", places, nil, ok)
		}
		x, ok = impl.EnergyOfTower(tower, 1, 2)
		wantNoSum(t, "energy", x, ok)
		x, ok = impl.EnergyOfTower(tower, 0, 0)
		wantNoSum(t, "no energy", x, ok)
		for _, speeds := range [][]float32{nil, {0, 7}} {
			pairs, ok := impl.CrossingsOf(tower, []int64{1}, speeds)
			wantNoPairs(t, "crossings", pairs, ok)
		}
	}
}

func TestTowerRate(t *testing.T) {
	tiny, most := num(leastSub), num(greatest)
	for _, c := range []struct {
		tower  impl.Tower
		wanted uint32
	}{
		{bare(), 0x3ea2f983}, {mast(), 0x3e430e16}, {stump(), 0x421b1137}, {reed(), 0x3ab648d3}, {towerOf(1, 99, 4), 0x3ea2f983}, {towerOf(1, 0, 1), 0x3e22f983},
		// At the bounds of numbers; a quotient of nothing leaves no rate, but is one.
		{towerOf(1, 0, most), 0x5e22f982}, {towerOf(most, 0, 1), 0x1e22f983}, {towerOf(tiny, 0, tiny), 0x3e22f983}, {towerOf(most, most, most), 0x3e22f983}, {towerOf(1, 0, tiny), 0x18e67b21}, {towerOf(tiny, 0, 1e-8), 0x5cbccf5d}, {towerOf(1e30, 0, 1e-30), plusZero}, {towerOf(most, 0, tiny), plusZero},
	} {
		got, ok := impl.TowerRate(c.tower)
		wantNumber(t, "rate", got, ok, c.wanted)
	}
	for _, tower := range []impl.Tower{towerOf(1e-30, 0, 1e30), towerOf(tiny, 0, 1), towerOf(tiny, 0, most), towerOf(0.5, 1, most)} {
		got, ok := impl.TowerRate(tower)
		wantNoSum(t, "a rate beyond all numbers", got, ok)
	}
}

type answerCase struct {
	tower               impl.Tower
	rate                float32
	along, across, gain uint32
}

func answerCases() []answerCase {
	zero, tiny, most := num(minusZero), num(leastSub), num(greatest)
	return []answerCase{
		{bare(), 0.0001, 0x3e800001, 0x00000000, 0x3e800001}, {bare(), 0.1, 0x3e8e0437, 0x00000000, 0x3e8e0437}, {bare(), 0.32, 0xc1bbd63f, 0x80000000, 0x41bbd63f}, {bare(), 1.7, 0xbc14d1f4, 0x80000000, 0x3c14d1f4}, {bare(), 1000, 0xb2d995e9, 0x80000000, 0x32d995e9},
		{mast(), 0.0001, 0x3e413525, 0xb6e8ab74, 0x3e413525}, {mast(), 0.1, 0x3e8503ed, 0xbc57f1b1, 0x3e852fb8}, {mast(), 0.19, 0x3e47d45f, 0xc02c076f, 0x402c7b58}, {mast(), 0.32, 0xbdd32e83, 0xbbda125a, 0x3dd39efd}, {mast(), 1.7, 0xbb1d35c5, 0xb79fd934, 0x3b1d370a}, {mast(), 38.7, 0xb6996205, 0xb0d87ab6, 0x36996206},
		{stump(), 0.19, 0x3aa9efe8, 0xb6c3466d, 0x3aa9f058}, {stump(), 0.32, 0x3aa9f037, 0xb724735b, 0x3aa9f175}, {stump(), 38.7, 0x36b33d71, 0xbab9df56, 0x3ab9dfac}, {stump(), 1000, 0xb602cac1, 0xb394d1bb, 0x3602dfea},
		{reed(), 0.0001, 0x4042f26d, 0xbb85b8bd, 0x4042f278}, {reed(), 0.1, 0xba19ab8d, 0xb42248cf, 0x3a19ab8d}, {reed(), 38.7, 0xb18675c9, 0xa73bd377, 0x318675c9},
		// A Drag of nothing leaves a zero, whose sign tells on which side of the rate of the tower it is.
		{towerOf(1, 0, 2), 0.5, 0xbe021ef3, minusZero, 0x3e021ef3}, {towerOf(1, zero, 2), 0.5, 0xbe021ef3, plusZero, 0x3e021ef3}, {towerOf(1, 0, 200), 0.5, 0x3bac584a, plusZero, 0x3bac584a}, {towerOf(1, zero, 200), 0.5, 0x3bac584a, plusZero, 0x3bac584a},
		// At its own rate, only the Drag answers; just beside it, without any Drag, the answer is great.
		{towerOf(1, 1, ownStiff()), 1, plusZero, 0xbe22f983, 0x3e22f983}, {towerOf(1, 0, below(ownStiff())), 1, 0xc8800000, minusZero, 0x48800000}, {towerOf(1, 0, above(ownStiff())), 1, 0x48800000, plusZero, 0x48800000},
		// Products go from left to right.
		{towerOf(1e-30, 1, 1), 1e20, 0x8da2425f, 0x9cf08215, 0x1cf08215},
		// At the bounds of numbers.
		{towerOf(1, 0, 1), 1e18, 0x8109e947, minusZero, 0x0109e947}, {towerOf(1, 0, 1), 2e18, 0x8044f4a3, minusZero, 0x0044f4a3}, {towerOf(1, 1e38, 1), 0.1, plusZero, 0x80ad4dec, 0x00ad4dec}, {towerOf(tiny, 0, 1e-38), tiny, 0x7e96769a, plusZero, 0x7e96769a}, {towerOf(tiny, 2.2e-39, 2.2e-39), 0.15915494, 0x7f2afb26, 0xff2afb2d, 0x7f71cdc5},
		{towerOf(1, 0, 1), tiny, 0x3f800000, plusZero, 0x3f800000}, {towerOf(1, 1, 1), tiny, 0x3f800000, 0x80000006, 0x3f800000}, {towerOf(most, 0, most), 0.1, 0x0034dfab, plusZero, 0x0034dfab}, {towerOf(1, most, 1), 0.01, plusZero, 0x817ea5de, 0x017ea5de},
	}
}

// ownStiff is the Stiff of a tower with the Mass 1 that swings once, to the last bit.
func ownStiff() float32 {
	w := float32(6.2831855)
	return w * w
}

func TestAnswerOfAndGainOf(t *testing.T) {
	for _, c := range answerCases() {
		answer, ok := impl.AnswerOf(c.tower, c.rate)
		wantForce(t, "answer", answer, ok, c.along, c.across)
		gain, ok := impl.GainOf(c.tower, c.rate)
		wantNumber(t, "gain", gain, ok, c.gain)
	}
}

func TestGainExample(t *testing.T) {
	for _, rate := range []float32{1e-4, 1e-5, 1e-10, num(leastSub)} {
		gain, ok := impl.GainOf(bare(), rate)
		want(t, "nearly 1/4", ok && math.Abs(float64(gain)-0.25) < 1e-6, true)
	}
}

func TestAnswerThatIsNone(t *testing.T) {
	tiny, most := num(leastSub), num(greatest)
	for _, c := range []answerCase{
		// At its own rate, without any Drag, there is no quotient.
		{tower: towerOf(1, 0, ownStiff()), rate: 1}, {tower: towerOf(1, num(minusZero), ownStiff()), rate: 1},
		// Beyond all numbers are the rate in radians, what the Mass or the Drag does, and the answer.
		{tower: towerOf(1, 0, 1), rate: most}, {tower: mast(), rate: 1e38}, {tower: towerOf(tiny, 2, 3), rate: 6e37}, {tower: towerOf(1, 0, 1), rate: 1e19}, {tower: mast(), rate: 1e19}, {tower: towerOf(1, most, 1), rate: 1}, {tower: towerOf(tiny, 0, tiny), rate: tiny}, {tower: towerOf(tiny, 0, 2e-39), rate: 0.1},
	} {
		answer, ok := impl.AnswerOf(c.tower, c.rate)
		wantNoSum(t, "answer", answer, ok)
		gain, ok := impl.GainOf(c.tower, c.rate)
		wantNoSum(t, "gain", gain, ok)
	}
	for _, rate := range notPositive() {
		for _, tower := range append(oddTowers(), bare(), mast()) {
			answer, ok := impl.AnswerOf(tower, rate)
			wantNoSum(t, "the answer to a wrong rate", answer, ok)
			gain, ok := impl.GainOf(tower, rate)
			wantNoSum(t, "the gain at a wrong rate", gain, ok)
		}
	}
	// Both parts of an answer are finite, but its length is not.
	great := towerOf(tiny, 2e-39, 2e-39)
	answer, ok := impl.AnswerOf(great, 0.15915494)
	wantForce(t, "a great answer", answer, ok, 0x7f3c143d, 0xff3c1446)
	gain, ok := impl.GainOf(great, 0.15915494)
	wantNoSum(t, "a gain beyond all numbers", gain, ok)
}

type swingCase struct {
	tower                     impl.Tower
	place, speed, force, tick float32
	nextPlace, nextSpeed      uint32
}

func swingCases() []swingCase {
	zero, tiny, most := num(minusZero), num(leastSub), num(greatest)
	return []swingCase{
		{bare(), 1, 0, 2, 0.5, 0x3f000000, 0xbf800000}, {bare(), 0.3, -0.7, 1.9, 0.013, 0x3e95005a, 0xbf30ded2}, {bare(), -3.1, 2.2, -0.1, 0.37, 0xbf1a2534, 0x40d80830}, {bare(), 17.7, 0.1, 100.3, 0.0007, 0x418d99c6, 0x3df71759},
		{mast(), 1, 0, 2, 0.5, 0x3f46eb3e, 0xbee45308}, {mast(), 0.3, -0.7, 1.9, 0.013, 0x3e94f400, 0xbf32b9da}, {mast(), -3.1, 2.2, -0.1, 0.37, 0xbfda7fc2, 0x4070f27c}, {mast(), 17.7, 0.1, 100.3, 0.0007, 0x418d99bf, 0x3dcf4d77},
		{stump(), 1, 0, 2, 0.5, 0xc66724ec, 0xc6e728ec}, {stump(), 0.3, -0.7, 1.9, 0.013, 0xc02aa10f, 0xc36428f7}, {stump(), -3.1, 2.2, -0.1, 0.37, 0x46c429b8, 0x47848f14}, {stump(), 17.7, 0.1, 100.3, 0.0007, 0x4189839d, 0xc43667e1},
		{reed(), 1, 0, 2, 0.5, 0x3f80032a, 0x394a9649}, {reed(), 0.3, -0.7, 1.9, 0.013, 0x3e94f0dc, 0xbf3332bf}, {reed(), -3.1, 2.2, -0.1, 0.37, 0xc0124e24, 0x400ccbef}, {reed(), 17.7, 0.1, 100.3, 0.0007, 0x418d99bf, 0x3dccd4d1},
		{towerOf(1, 3, 5), 0.7, 0.9, 11.3, 0.21, 0x3f8e949a, 0x3ffc49bb}, {towerOf(1, 3, 5), 0.7, 0.9, 6.2, 0.21, 0x3f639581, 0x3f666666},
		// Zeros with signs, and a tower that stays.
		{towerOf(1, 0, 1), zero, zero, zero, 1, plusZero, plusZero}, {towerOf(1, zero, 1), 0, zero, zero, 1, plusZero, minusZero}, {towerOf(1, zero, 1), zero, zero, zero, 1, plusZero, plusZero}, {bare(), 0, 0, 0, 1, plusZero, plusZero}, {bare(), 1, 0, 4, 7, 0x3f800000, plusZero}, {towerOf(1, 1, 1), zero, 0, zero, 1, plusZero, plusZero},
		// Each product is rounded on its own: so there is nothing left that pushes.
		{towerOf(1, 1+0x1p-12, 1), 0, 1 + 0x1p-12, 1 + 0x1p-11, 4, 0x40800800, 0x3f800800}, {towerOf(1, 0, 1+0x1p-12), 1 + 0x1p-12, 1, 1 + 0x1p-11, 4, 0x40a00200, 0x3f800000},
		// What pushes is divided first.
		{towerOf(1e30, 0, 1), 0, 0, 1e30, 1e10, 0x60ad78ec, 0x501502f9},
		// At the bounds of numbers.
		{towerOf(1, 0, 1e-38), most, -most, 0, 1, plusZero, 0xff7fffff}, {towerOf(1, 0, 1), 0, 0, most, 1, greatest, greatest}, {towerOf(tiny, 0, 1), 0, 0, tiny, tiny, plusZero, leastSub}, {towerOf(1, 0, tiny), tiny, tiny, tiny, 1, 3, 2}, {towerOf(1, 0, 1), 1, 1, 1, most, greatest, 0x3f800000},
	}
}

func TestStepTower(t *testing.T) {
	for _, c := range swingCases() {
		place, speed, ok := impl.StepTower(c.tower, c.place, c.speed, c.force, c.tick)
		if !ok || bitsOf(place) != c.nextPlace || bitsOf(speed) != c.nextSpeed {
			t.Errorf("%v: got %08x %08x %v", c, bitsOf(place), bitsOf(speed), ok)
		}
		places, ok := impl.RunTower(c.tower, c.place, c.speed, []float32{c.force}, c.tick)
		wantLists(t, "a run of one step", places, nil, ok, nums(c.nextPlace), nil)
	}
}

func TestStepThatIsNone(t *testing.T) {
	tiny, most := num(leastSub), num(greatest)
	none := func(what string, c swingCase) {
		t.Helper()
		place, speed, ok := impl.StepTower(c.tower, c.place, c.speed, c.force, c.tick)
		wantNoTwo(t, what, place, speed, ok)
		places, ok := impl.RunTower(c.tower, c.place, c.speed, []float32{c.force}, c.tick)
		wantNoLists(t, what, places, nil, ok)
	}
	for _, c := range swingCases() {
		for _, x := range notFinite() {
			for _, place := range []*float32{&c.place, &c.speed, &c.force} {
				kept := *place
				*place = x
				none("a wrong number", c)
				*place = kept
			}
		}
		for _, x := range notPositive() {
			c.tick = x
			none("a wrong tick", c)
		}
	}
	for _, c := range []swingCase{
		// Beyond all numbers are what Stiff or Drag do, both of them against one another, the quotient, the speed, and the place alone.
		{tower: bare(), place: most, tick: 1}, {tower: towerOf(1, 2, 1), speed: most, tick: 1}, {tower: towerOf(1, 2, 2), place: -most, speed: most, tick: 1}, {tower: towerOf(1, 2, 2), place: most, speed: -most, tick: 0.5}, {tower: towerOf(tiny, 0, 1), force: 1, tick: tiny},
		{tower: towerOf(1, 0, 1), speed: most, force: most, tick: 1}, {tower: towerOf(1, 0, 1), force: 1, tick: 1e20}, {tower: towerOf(1, 0, 1e-38), place: most, speed: most, tick: 1}, {tower: towerOf(1, 0, 1e-38), place: -most, speed: -1e32, tick: 1},
	} {
		none("a step beyond all numbers", c)
	}
}

// someForces returns count forces.
func someForces(count int) []float32 {
	n := noise(74)
	list := make([]float32, count)
	for i := range list {
		list[i] = 3 * n.between()
	}
	return list
}

func TestRunTower(t *testing.T) {
	for _, c := range []struct {
		tower  impl.Tower
		wanted []float32
	}{
		{bare(), nums(0x3e951aef, 0x3e9091f8, 0x3e8cbdfd, 0x3e887030, 0x3e843b82, 0x3e80b2e0, 0x3e7a2c5f)}, {mast(), nums(0x3e94fb30, 0x3e905904, 0x3e8be6de, 0x3e8752f3, 0x3e82c517, 0x3e7cca2a, 0x3e73fe1e)},
		{stump(), nums(0xc029a178, 0x41ec5337, 0xc3a3d9ee, 0x45634d7e, 0xc71daa08, 0x48dab8c0, 0xca97b652)}, {reed(), nums(0x3e94f0dd, 0x3e904822, 0x3e8b9f73, 0x3e86f6bf, 0x3e824e0f, 0x3e7b4ad5, 0x3e71f98e)},
	} {
		got, ok := impl.RunTower(c.tower, 0.3, -0.7, gusty()[:7], 0.013)
		wantLists(t, "run", got, nil, ok, c.wanted, nil)
	}
	got, ok := impl.RunTower(bare(), 1, 0, []float32{2, 4}, 0.5)
	wantLists(t, "run", got, nil, ok, []float32{0.5, 0.5}, nil)
}

func TestRunTowerOfAnyCount(t *testing.T) {
	for count := range impl.MaxLoads + 5 {
		forces := someForces(count)
		got, ok := impl.RunTower(mast(), 0.3, -0.7, forces, 0.125)
		if count > impl.MaxLoads {
			wantNoLists(t, "too many forces", got, nil, ok)
			continue
		}
		var wanted []float32
		place, speed := float32(0.3), float32(-0.7)
		for _, force := range forces {
			place, speed, _ = impl.StepTower(mast(), place, speed, force, 0.125)
			wanted = append(wanted, place)
		}
		wantLists(t, "step by step", got, nil, ok, wanted, nil)
		for i := range forces {
			for _, x := range notFinite() {
				kept := forces[i]
				forces[i] = x
				got, ok = impl.RunTower(mast(), 0.3, -0.7, forces, 0.125)
				wantNoLists(t, "a wrong force", got, nil, ok)
				forces[i] = kept
			}
		}
	}
}

func TestRunTowerThatIsNone(t *testing.T) {
	for _, forces := range [][]float32{nil, {1}, someForces(impl.MaxLoads)} {
		for _, x := range notFinite() {
			got, ok := impl.RunTower(mast(), x, 0, forces, 0.125)
			wantNoLists(t, "a wrong place", got, nil, ok)
			got, ok = impl.RunTower(mast(), 0, x, forces, 0.125)
			wantNoLists(t, "a wrong speed", got, nil, ok)
		}
		for _, x := range notPositive() {
			got, ok := impl.RunTower(mast(), 0, 0, forces, x)
			wantNoLists(t, "a wrong tick", got, nil, ok)
		}
	}
	// A tower that swings more and more comes beyond all numbers in some step.
	last := 0
	for count := range impl.MaxLoads + 1 {
		got, ok := impl.RunTower(stump(), 1, 0, make([]float32, count), 0.5)
		if ok {
			last = count
			want(t, "as many places as forces", len(got), count)
			continue
		}
		wantNoLists(t, "beyond all numbers", got, nil, ok)
	}
	want(t, "the last step that is told", last, 9)
}

func TestEnergyOfTower(t *testing.T) {
	zero, tiny, most := num(minusZero), num(leastSub), num(greatest)
	for _, c := range []struct {
		tower        impl.Tower
		place, speed float32
		wanted       uint32
	}{
		{bare(), 1, 0, 0x40000000}, {bare(), 1, 2, 0x40800000}, {bare(), -1, -2, 0x40800000}, {bare(), 0.3, -0.7, 0x3ed9999a}, {bare(), -3.1, 2.2, 0x41ad1eb8}, {bare(), 17.7, 0.1, 0x441ca572}, {mast(), 1, 0, 0x4029999a}, {mast(), 0.3, -0.7, 0x3f928f5c}, {mast(), -3.1, 2.2, 0x4209ae98}, {mast(), 17.7, 0.1, 0x444f8f2c},
		{stump(), 1, 0, 0x43c0d333}, {stump(), 0.3, -0.7, 0x420ad8c4}, {stump(), -3.1, 2.2, 0x4567a20a}, {stump(), 17.7, 0.1, 0x47ebfa26}, {reed(), 1, 0, 0x3e28f5c3}, {reed(), 0.3, -0.7, 0x44845c2c}, {reed(), -3.1, 2.2, 0x46237256}, {reed(), 17.7, 0.1, 0x42929ace}, {towerOf(1, 3, 5), 0.7, 0.9, 0x3fd0a3d7},
		// Products go from left to right, each one is rounded on its own, and a zero has no sign.
		{towerOf(1e-30, 0, 1), 0, 1e25, 0x602d78eb}, {towerOf(1, 0, 1e-30), 1e25, 0, 0x602d78eb}, {bare(), 0, 0, plusZero}, {bare(), zero, zero, plusZero}, {towerOf(tiny, 0, 1), 0, 1, plusZero}, {towerOf(num(3), 0, tiny), 1, 1, 2},
		// At the bounds of numbers.
		{towerOf(1, 0, 1), 1.8e19, 1.8e19, 0x7f73c022}, {towerOf(most, most, most), 1, 1, greatest}, {towerOf(most, 0, most), 0, 1, 0x7effffff},
	} {
		got, ok := impl.EnergyOfTower(c.tower, c.place, c.speed)
		wantNumber(t, "energy", got, ok, c.wanted)
	}
	for _, c := range []swingCase{
		{tower: towerOf(1, 0, 1), place: 2e19, speed: 2e19}, {tower: towerOf(1, 0, 1), place: 3e19}, {tower: towerOf(1, 0, 1), speed: 3e19}, {tower: towerOf(most, 0, 1), speed: 1.5}, {tower: towerOf(1, 0, most), place: -1.5}, {tower: towerOf(most, 0, most), place: 1.25, speed: 1.25},
	} {
		got, ok := impl.EnergyOfTower(c.tower, c.place, c.speed)
		wantNoSum(t, "an energy beyond all numbers", got, ok)
	}
	for _, x := range notFinite() {
		for _, tower := range append(oddTowers(), bare()) {
			got, ok := impl.EnergyOfTower(tower, x, 0)
			wantNoSum(t, "a wrong place", got, ok)
			got, ok = impl.EnergyOfTower(tower, 0, x)
			wantNoSum(t, "a wrong speed", got, ok)
		}
	}
}

func samePairs(a, b [][]int64) bool {
	return slices.EqualFunc(a, b, func(x, y []int64) bool { return slices.Equal(x, y) })
}

func wantPairs(t *testing.T, what string, got [][]int64, ok bool, wanted ...[]int64) {
	t.Helper()
	if !ok || !samePairs(got, wanted) {
		t.Errorf("%s: got %v %v, want %v", what, got, ok, wanted)
	}
}

func wantNoPairs(t *testing.T, what string, got [][]int64, ok bool) {
	t.Helper()
	if ok || len(got) > 0 {
		t.Errorf("%s: got %v %v, want none", what, got, ok)
	}
}

type crossCase struct {
	tower     impl.Tower
	multiples []int64
	speeds    []float32
	wanted    [][]int64
}

func crossCases() []crossCase {
	r, zero, tiny, most := num(0x3ea2f983), num(minusZero), num(leastSub), num(greatest)
	still := towerOf(1e30, 0, 1e-30)
	one := [][]int64{{0, 0}}
	return []crossCase{
		{bare(), []int64{1, 2}, []float32{0.1, 0.2, 0.4}, [][]int64{{0, 1}, {1, 0}}}, {bare(), []int64{2, 1}, []float32{0.1, 0.2, 0.4}, [][]int64{{0, 0}, {1, 1}}}, {bare(), []int64{1, 2}, []float32{0.4, 0.2, 0.1}, [][]int64{{0, 0}, {1, 1}}},
		{mast(), []int64{1, 3, 6, 12, 2}, []float32{0, 0.1, 0.03, 0.2, 0.05, 0.01, -3}, [][]int64{{0, 2}, {0, 3}, {1, 0}, {1, 1}, {1, 2}, {1, 3}, {2, 0}, {2, 1}, {2, 2}, {2, 4}, {3, 0}, {3, 4}, {4, 0}, {4, 1}, {4, 2}, {4, 3}}},
		// Without any multiple, or any speed but one, there are no pairs.
		{bare(), nil, nil, nil}, {bare(), nil, []float32{0, 1, 0}, nil}, {bare(), []int64{1}, nil, nil}, {bare(), []int64{1, 12}, []float32{7}, nil}, {bare(), []int64{1}, []float32{r}, nil}, {bare(), []int64{1}, []float32{0}, nil},
		// A product that is equal to the rate, from both sides.
		{bare(), []int64{1}, []float32{below(r), r}, one}, {bare(), []int64{1}, []float32{r, below(r)}, one}, {bare(), []int64{1}, []float32{r, above(r)}, nil}, {bare(), []int64{1}, []float32{above(r), r}, nil}, {bare(), []int64{1}, []float32{r, r}, nil}, {bare(), []int64{1}, []float32{below(r), below(r)}, nil},
		{bare(), []int64{1}, []float32{below(r), above(r)}, one}, {bare(), []int64{1}, []float32{above(r), below(r)}, one}, {bare(), []int64{1}, []float32{0, r, 0, r, r, 0}, [][]int64{{0, 0}, {0, 1}, {0, 2}, {0, 4}}}, {bare(), []int64{2}, []float32{below(r / 2), r / 2, below(r / 2), above(r / 2)}, [][]int64{{0, 0}, {0, 1}, {0, 2}}}, {bare(), []int64{8}, []float32{r / 8, below(r / 8), r / 8, r / 8}, [][]int64{{0, 0}, {0, 1}}},
		// A product that is rounded up to the rate is equal to it.
		{bare(), []int64{7}, nums(0x3d3a41b9, 0x3d3a41ba, 0x3d3a41b9), [][]int64{{0, 0}, {0, 1}}}, {bare(), []int64{7}, nums(0x3d3a41ba, 0x3d3a41bb), nil}, {stump(), []int64{5, 10}, nums(0x40f81b8b, 0x40f81b8a, 0x40f81b8b), [][]int64{{0, 0}, {0, 1}}},
		// Multiples that come again, and speeds below 0.
		{bare(), []int64{1, 1, 12, 1}, []float32{0, 1}, [][]int64{{0, 0}, {1, 0}, {2, 0}, {3, 0}}}, {bare(), []int64{1}, []float32{-1, -2, 1, -1}, [][]int64{{0, 1}, {0, 2}}}, {bare(), []int64{12}, []float32{-most, most, -most}, [][]int64{{0, 0}, {0, 1}}}, {bare(), []int64{12}, []float32{most, 1e38}, nil},
		// A rate of nothing, whose zeros are equal whatever their signs are.
		{still, []int64{1}, []float32{-1, 0, zero, -tiny, zero, tiny}, [][]int64{{0, 0}, {0, 2}, {0, 3}}}, {still, []int64{12, 5}, []float32{zero, 0, 7}, nil},
	}
}

func TestCrossingsOf(t *testing.T) {
	for _, c := range crossCases() {
		got, ok := impl.CrossingsOf(c.tower, c.multiples, c.speeds)
		wantPairs(t, "crossings", got, ok, c.wanted...)
	}
}

func TestCrossingsOfAny(t *testing.T) {
	n := noise(75)
	for range 400 {
		tower := towerOf(2+n.between(), 1+n.between(), 5+4*n.between())
		rate, ok := impl.TowerRate(tower)
		want(t, "success", ok, true)
		multiples, speeds := make([]int64, n.next()%(impl.MaxBins+1)), make([]float32, n.next()%(impl.MaxLoads+1))
		for i := range multiples {
			multiples[i] = int64(1 + n.next()%12)
		}
		for k := range speeds {
			speeds[k] = rate * float32(1+n.next()%24) / float32(1+n.next()%12)
		}
		var wanted [][]int64
		for i, multiple := range multiples {
			for k := 0; k+1 < len(speeds); k++ {
				first, second := float32(multiple)*speeds[k], float32(multiple)*speeds[k+1]
				if first < rate && second >= rate || first >= rate && second < rate {
					wanted = append(wanted, []int64{int64(i), int64(k)})
				}
			}
		}
		got, ok := impl.CrossingsOf(tower, multiples, speeds)
		wantPairs(t, "crossings", got, ok, wanted...)
	}
}

func TestCrossingsOfAnyCount(t *testing.T) {
	for count := range impl.MaxBins + 4 {
		for _, size := range []int{0, 1, 2, 3, impl.MaxLoads - 1, impl.MaxLoads, impl.MaxLoads + 1, 300} {
			got, ok := impl.CrossingsOf(bare(), slices.Repeat([]int64{12}, count), zigzag(size, 0, 1))
			if count > impl.MaxBins || size > impl.MaxLoads {
				wantNoPairs(t, "too many multiples or speeds", got, ok)
				continue
			}
			want(t, "each multiple in each step", ok && len(got) == count*max(size-1, 0), true)
		}
	}
}

func TestCrossingsThatAreNone(t *testing.T) {
	for _, n := range []int64{0, 13, -1, -12, 14, 1 << 32, 1<<32 + 1, math.MaxInt64, math.MinInt64} {
		for _, multiples := range [][]int64{{n}, {1, n}, {n, 1}, append(slices.Repeat([]int64{1}, impl.MaxBins-1), n)} {
			for _, speeds := range [][]float32{nil, {1}, {0, 1}} {
				got, ok := impl.CrossingsOf(bare(), multiples, speeds)
				wantNoPairs(t, "a wrong multiple", got, ok)
			}
		}
	}
	for _, x := range notFinite() {
		for _, speeds := range [][]float32{{x}, {x, 1}, {1, x}, {0, x, 0}, append(ones(impl.MaxLoads-1), x)} {
			for _, multiples := range [][]int64{nil, {1}, {2, 3}} {
				got, ok := impl.CrossingsOf(bare(), multiples, speeds)
				wantNoPairs(t, "a wrong speed", got, ok)
			}
		}
	}
	// Towers that have no rate.
	for _, tower := range []impl.Tower{towerOf(1e-30, 0, 1e30), towerOf(num(leastSub), 0, 1)} {
		for _, speeds := range [][]float32{nil, {1}, {0, num(greatest)}} {
			got, ok := impl.CrossingsOf(tower, []int64{1, 12}, speeds)
			wantNoPairs(t, "no rate", got, ok)
		}
	}
}
