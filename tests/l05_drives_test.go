package tests

import (
	"math"
	"testing"

	"loop.example/g01256/impl"
)

// The expected bits in the tables of this chapter were computed from the document by a second implementation, in another language.

// simple is a plant of small numbers, with which nothing is rounded; grinder and pump have none of them.
func simple() impl.Plant {
	return impl.Plant{Inertia: 1, Drag: 0.5, Rated: 4, Least: 1, Most: 2, Start: 1, Cut: 4, Ease: 0.5}
}

func grinder() impl.Plant {
	return impl.Plant{Inertia: 3.7, Drag: 0.23, Rated: 41.3, Least: 0.91, Most: 2.3, Start: 3.3, Cut: 19.7, Ease: 0.17}
}

func pump() impl.Plant {
	return impl.Plant{Inertia: 0.61, Drag: 1.3, Rated: 7.1, Least: 1.7, Most: 5.9, Start: 2.9, Cut: 11.3, Ease: 0.71}
}

// somePlants has valid plants, in the first place those with simple numbers.
func somePlants() []impl.Plant {
	return append([]impl.Plant{simple(), grinder(), pump()}, oddPlants()...)
}

func driveOf(p impl.Plant, state int64, speed, pitch, energy float32) impl.Drive {
	return impl.Drive{Plant: p, State: state, Speed: speed, Pitch: pitch, Energy: energy}
}

// running returns a drive that runs at a speed, halfway feathered.
func running(p impl.Plant, speed float32) impl.Drive {
	return driveOf(p, impl.DriveRunning, speed, 0.5, 1)
}

// above and below return the next numbers to either side.
func above(x float32) float32 { return math.Nextafter32(x, num(plusInf)) }

func below(x float32) float32 { return math.Nextafter32(x, num(minusInf)) }

func placesOfPlant(p *impl.Plant) []*float32 {
	return []*float32{&p.Inertia, &p.Drag, &p.Rated, &p.Least, &p.Most, &p.Start, &p.Cut, &p.Ease}
}

// withPlace returns a plant with another number in one place.
func withPlace(p impl.Plant, place int, x float32) impl.Plant {
	*placesOfPlant(&p)[place] = x
	return p
}

// wrongPlants returns plants each of which has one thing that a valid one has not.
func wrongPlants() []impl.Plant {
	list := []impl.Plant{{}}
	for _, p := range []impl.Plant{grinder(), simple()} {
		for place := range 8 {
			wrong := notPositive()
			if place == 1 {
				wrong = notAmounts()
			}
			for _, x := range wrong {
				list = append(list, withPlace(p, place, x))
			}
		}
		list = append(list,
			withPlace(p, 4, p.Least), withPlace(p, 4, below(p.Least)), withPlace(p, 4, num(leastSub)), withPlace(p, 3, p.Most), withPlace(p, 3, num(greatest)),
			withPlace(p, 6, p.Start), withPlace(p, 6, below(p.Start)), withPlace(p, 6, num(leastSub)), withPlace(p, 5, p.Cut), withPlace(p, 5, num(greatest)),
		)
	}
	return list
}

// oddPlants returns valid plants with numbers at their bounds.
func oddPlants() []impl.Plant {
	least, most := num(leastSub), num(greatest)
	return []impl.Plant{
		withPlace(grinder(), 1, 0), withPlace(grinder(), 1, num(minusZero)), withPlace(simple(), 1, least),
		withPlace(grinder(), 4, above(grinder().Least)), withPlace(grinder(), 6, above(grinder().Start)), withPlace(grinder(), 3, below(grinder().Most)), withPlace(grinder(), 5, below(grinder().Cut)),
		{Inertia: least, Drag: 0, Rated: least, Least: least, Most: num(2), Start: least, Cut: num(2), Ease: least},
		{Inertia: most, Drag: most, Rated: most, Least: below(most), Most: most, Start: below(most), Cut: most, Ease: most},
		withPlace(pump(), 3, least), withPlace(pump(), 4, most), withPlace(pump(), 5, least), withPlace(pump(), 6, most),
		withPlace(simple(), 0, least), withPlace(simple(), 0, most), withPlace(simple(), 2, least), withPlace(simple(), 2, most), withPlace(simple(), 7, least), withPlace(simple(), 7, most),
	}
}

func wrongStates() []int64 {
	return []int64{-1, 5, 6, 255, 256, 1 << 32, 1<<32 + 2, -1 << 32, math.MaxInt64, math.MinInt64}
}

// wrongDrives returns drives each of which has one thing that a valid one has not.
func wrongDrives() []impl.Drive {
	list := []impl.Drive{{}}
	for i, p := range wrongPlants() {
		list = append(list, driveOf(p, int64(i%5), 1.5, 0.5, 1))
	}
	for _, state := range wrongStates() {
		list = append(list, driveOf(grinder(), state, 1.5, 0.5, 1))
	}
	for i, x := range notAmounts() {
		list = append(list, driveOf(grinder(), int64(i%5), x, 0.5, 1), driveOf(simple(), impl.DriveRunning, x, 0.5, 1))
	}
	for i, x := range notShares() {
		list = append(list, driveOf(grinder(), int64(i%5), 1.5, x, 1), driveOf(simple(), impl.DriveRunning, 1.5, x, 1))
	}
	for i, x := range notFinite() {
		list = append(list, driveOf(grinder(), int64(i%5), 1.5, 0.5, x), driveOf(simple(), impl.DriveRunning, 1.5, 0.5, x))
	}
	return list
}

// oddDrives returns valid drives of every state, with numbers at their bounds.
func oddDrives() []impl.Drive {
	var list []impl.Drive
	for i, p := range somePlants() {
		for state := range int64(5) {
			list = append(list, driveOf(p, state, 1.5, 0.5, 1), driveOf(p, state, p.Least, 0.25, num(greatest)))
			speed := []float32{0, num(minusZero), num(leastSub), num(greatest), p.Most, 0.5 * p.Least, 0.01}[(i+int(state))%7]
			list = append(list, driveOf(p, state, speed, []float32{0, num(minusZero), num(leastSub), num(0x3f7fffff), 1}[i%5], []float32{0, num(minusZero), -num(greatest)}[i%3]))
		}
	}
	return list
}

// sameDrives does not use the program, so that a wrong SameDrive is not held against itself.
func sameDrives(a, b impl.Drive) bool { return toldDrive(a, true) == toldDrive(b, true) }

func wantDrive(t *testing.T, what string, got impl.Drive, ok bool, wanted impl.Drive) {
	t.Helper()
	if !ok || !sameDrives(got, wanted) {
		t.Errorf("%s: got %v %v, want %v", what, got, ok, wanted)
	}
}

func wantNoDrive(t *testing.T, what string, got impl.Drive, ok bool) {
	t.Helper()
	if ok || !sameDrives(got, impl.Drive{}) {
		t.Errorf("%s: got %v %v, want none", what, got, ok)
	}
}

func wantInteger(t *testing.T, what string, got int64, ok bool, wanted int64) {
	t.Helper()
	if !ok || got != wanted {
		t.Errorf("%s: got %v %v, want %v", what, got, ok, wanted)
	}
}

func TestLimitsOfDrives(t *testing.T) {
	want(t, "MaxRun", int64(impl.MaxRun), 128)
	for i, state := range []int64{impl.DriveStill, impl.DriveStarting, impl.DriveRunning, impl.DriveStopping, impl.DriveHeld} {
		want(t, "state", state, int64(i))
	}
}

func TestValidPlant(t *testing.T) {
	for _, p := range somePlants() {
		want(t, "a valid plant", impl.ValidPlant(p), true)
	}
	for _, p := range wrongPlants() {
		if impl.ValidPlant(p) {
			t.Errorf("%v is not valid", p)
		}
	}
}

func TestValidDrive(t *testing.T) {
	for _, d := range oddDrives() {
		if !impl.ValidDrive(d) {
			t.Errorf("%v is valid", d)
		}
	}
	for _, d := range wrongDrives() {
		if impl.ValidDrive(d) {
			t.Errorf("%v is not valid", d)
		}
	}
}

func TestWrongDrivesAreRefused(t *testing.T) {
	for _, p := range wrongPlants() {
		d, ok := impl.NewDrive(p)
		wantNoDrive(t, "a new drive", d, ok)
	}
	for _, d := range wrongDrives() {
		got, ok := impl.HoldDrive(d)
		wantNoDrive(t, "held", got, ok)
		got, ok = impl.ReleaseDrive(d)
		wantNoDrive(t, "released", got, ok)
		state, ok := impl.NextState(d, 5)
		wantNoSum(t, "state", state, ok)
		x, ok := impl.NextPitch(d, 0.1)
		wantNoSum(t, "pitch", x, ok)
		x, ok = impl.GridTorque(d)
		wantNoSum(t, "torque of the grid", x, ok)
		x, ok = impl.DrivePower(d)
		wantNoSum(t, "power", x, ok)
		x, ok = impl.NetTorque(d, 3)
		wantNoSum(t, "torque that is left", x, ok)
		got, ok = impl.StepDrive(d, 5, 3, 0.1)
		wantNoDrive(t, "behind a step", got, ok)
		for _, winds := range [][]float32{nil, {5}, {5, 6}} {
			got, states, ok := impl.RunDrive(d, winds, winds, 0.1)
			wantNoRun(t, "behind a run", got, states, ok)
		}
		x, ok = impl.ShareOfRated(d, 3)
		wantNoSum(t, "share", x, ok)
	}
}

func TestWrongHeldDrivesAreNotReleased(t *testing.T) {
	for _, d := range wrongDrives() {
		if d.State < 0 || d.State > impl.DriveHeld {
			continue
		}
		d.State = impl.DriveHeld
		got, ok := impl.ReleaseDrive(d)
		wantNoDrive(t, "released", got, ok)
	}
}

func TestSamePlant(t *testing.T) {
	odd := nums(plusZero, minusZero, leastSub, 0x3f800000, 0x3f800001, greatest, plusInf, minusInf, aNaN)
	for _, p := range append(wrongPlants(), somePlants()...) {
		want(t, "same as itself", impl.SamePlant(p, p), true)
		for i := range 8 {
			for _, x := range odd {
				q := withPlace(p, i, x)
				wanted := bitsOf(*placesOfPlant(&p)[i]) == bitsOf(x)
				want(t, "same with another number", impl.SamePlant(p, q), wanted)
				want(t, "same with another number, the other way", impl.SamePlant(q, p), wanted)
			}
		}
	}
	for i := range 8 {
		// All not-a-numbers are one value.
		want(t, "same with not-a-numbers", impl.SamePlant(withPlace(pump(), i, num(0xff800001)), withPlace(pump(), i, num(0x7fffffff))), true)
		for j := range i {
			// Two numbers in each other's places.
			p, q := withPlace(withPlace(impl.Plant{}, i, 1), j, 2), withPlace(withPlace(impl.Plant{}, i, 2), j, 1)
			want(t, "the same numbers in other places", impl.SamePlant(p, q), false)
		}
	}
}

func TestSameDrive(t *testing.T) {
	odd := nums(plusZero, minusZero, leastSub, 0x3f800000, 0x3f800001, greatest, plusInf, minusInf, aNaN)
	places := func(d *impl.Drive) []*float32 {
		return append(placesOfPlant(&d.Plant), &d.Speed, &d.Pitch, &d.Energy)
	}
	for _, d := range append(wrongDrives(), oddDrives()...) {
		want(t, "same as itself", impl.SameDrive(d, d), true)
		for i := range 11 {
			for _, x := range odd {
				e := d
				*places(&e)[i] = x
				wanted := bitsOf(*places(&d)[i]) == bitsOf(x)
				want(t, "same with another number", impl.SameDrive(d, e), wanted)
				want(t, "same with another number, the other way", impl.SameDrive(e, d), wanted)
			}
		}
		for _, state := range append(wrongStates(), 0, 1, 2, 3, 4) {
			e := d
			e.State = state
			want(t, "same with another state", impl.SameDrive(d, e), d.State == state)
		}
	}
	for i := range 11 {
		d, e := running(pump(), 3), running(pump(), 3)
		*places(&d)[i], *places(&e)[i] = num(0xff800001), num(0x7fffffff)
		want(t, "same with not-a-numbers", impl.SameDrive(d, e), true)
	}
	want(t, "the same numbers in other places", impl.SameDrive(driveOf(pump(), 1, 1, 0.5, 0.25), driveOf(pump(), 1, 0.5, 1, 0.25)), false)
	want(t, "the same numbers in still other places", impl.SameDrive(driveOf(pump(), 1, 1, 0.5, 0.25), driveOf(pump(), 1, 1, 0.25, 0.5)), false)
}

func TestNewDrive(t *testing.T) {
	for _, p := range somePlants() {
		got, ok := impl.NewDrive(p)
		wantDrive(t, "a new drive", got, ok, driveOf(p, impl.DriveStill, 0, 1, 0))
		want(t, "a new drive is valid", impl.ValidDrive(got), true)
	}
}

func TestHoldAndReleaseDrive(t *testing.T) {
	for _, d := range oddDrives() {
		held, ok := impl.HoldDrive(d)
		wanted := d
		wanted.State = impl.DriveHeld
		wantDrive(t, "held", held, ok, wanted)
		again, ok := impl.HoldDrive(held)
		wantDrive(t, "held once more", again, ok, held)
		free, ok := impl.ReleaseDrive(held)
		wanted.State = impl.DriveStopping
		if d.Speed == 0 {
			wanted.State = impl.DriveStill
		}
		wantDrive(t, "released", free, ok, wanted)
		again, ok = impl.ReleaseDrive(free)
		wantDrive(t, "released once more", again, ok, free)
		if d.State != impl.DriveHeld {
			got, ok := impl.ReleaseDrive(d)
			wantDrive(t, "one that is not held", got, ok, d)
		}
	}
}

func TestReleaseDriveAtSpeeds(t *testing.T) {
	for _, c := range []struct {
		speed float32
		want  int64
	}{
		{0, impl.DriveStill}, {num(minusZero), impl.DriveStill}, {num(leastSub), impl.DriveStopping}, {num(leastNorm), impl.DriveStopping}, {0.005, impl.DriveStopping},
		{0.01, impl.DriveStopping}, {1, impl.DriveStopping}, {num(greatest), impl.DriveStopping},
	} {
		got, ok := impl.ReleaseDrive(driveOf(grinder(), impl.DriveHeld, c.speed, 0.75, -3))
		wantDrive(t, "released", got, ok, driveOf(grinder(), c.want, c.speed, 0.75, -3))
	}
}

// powerCase is a running drive, halfway feathered, with what it gives.
type powerCase struct {
	plant                  impl.Plant
	speed, grid, power, at uint32
}

// powerCases has in at the torque that is left of a pull of 9.7.
func powerCases() []powerCase {
	return []powerCase{
		{grinder(), plusZero, plusZero, plusZero, 0x40d947ae},
		{grinder(), minusZero, minusZero, plusZero, 0x40d947ae},
		{grinder(), 0x3ebd70a4, 0x4038dfc5, 0x3f88ce8d, 0x40743d50},
		{grinder(), 0x3f68f5c3, 0x40e3585e, 0x40cee256, 0xbf061a30},
		{grinder(), 0x3f9e064b, 0x411a3742, 0x413e63ca, 0xc04879ea},
		{grinder(), 0x401322d1, 0x418f96f8, 0x42250e6f, 0xc13afff1},
		{grinder(), 0x40133332, 0x418fa6f4, 0x42253331, 0xc13b20da},
		{grinder(), 0x40133333, 0x418fa6f5, 0x42253333, 0xc13b20dc},
		{grinder(), 0x40133334, 0x418fa6f4, 0x42253333, 0xc13b20da},
		{grinder(), 0x40466666, 0x4155294a, 0x42253333, 0xc0e7dbcb},
		{grinder(), 0x40b9999a, 0x40e3dcb0, 0x42253333, 0xbfd5148c},
		{grinder(), 0x40bccccc, 0x40e00001, 0x42253333, 0xbfc89379},
		{grinder(), 0x40bccccd, 0x40dfffff, 0x42253333, 0xbfc89371},
		{grinder(), 0x40bcccce, 0x40dffffe, 0x42253333, 0xbfc8936e},
		{grinder(), 0x40c33333, 0x40d8a7de, 0x42253333, 0xbfb11641},
		{grinder(), 0x429b6666, 0x3f081274, 0x42253334, 0xc139ccee},
		{grinder(), 0x60ad78ec, 0x20f3cacb, 0x42253333, 0xdf9f9835},
		{grinder(), leastSub, 0x00000008, plusZero, 0x40d947ae},
		{grinder(), 0x00000123, 0x000008e0, plusZero, 0x40d947ae},
		{pump(), plusZero, plusZero, plusZero, 0x40d947ae},
		{pump(), minusZero, minusZero, plusZero, 0x40d947ae},
		{pump(), 0x3ebd70a4, 0x3d9a8e59, 0x3ce4be32, 0x40c7791b},
		{pump(), 0x3f68f5c3, 0x3e3e0fea, 0x3e2cf4e2, 0x40ad7c0c},
		{pump(), 0x3f9e064b, 0x3e80ecf0, 0x3e9f2acf, 0x409ddd3a},
		{pump(), 0x401322d1, 0x3ef01583, 0x3f89fd01, 0x405545d0},
		{pump(), 0x40133332, 0x3ef0303c, 0x3f8a1bbb, 0x40552d2d},
		{pump(), 0x40133333, 0x3ef0303e, 0x3f8a1bbd, 0x40552d2c},
		{pump(), 0x40133334, 0x3ef03040, 0x3f8a1bbf, 0x40552d2a},
		{pump(), 0x40466666, 0x3f21ddb9, 0x3ffae478, 0x40082c6a},
		{pump(), 0x40b9999a, 0x3f976c54, 0x40db9047, 0xbff76c54},
		{pump(), 0x40bccccc, 0x3f9a08ac, 0x40e33330, 0xc005563e},
		{pump(), 0x40bccccd, 0x3f9a08ad, 0x40e33333, 0xc0055642},
		{pump(), 0x40bcccce, 0x3f9a08ac, 0x40e33332, 0xc0055644},
		{pump(), 0x40c33333, 0x3f94fbce, 0x40e33334, 0xc01373a8},
		{pump(), 0x429b6666, 0x3dbb23ea, 0x40e33333, 0xc2bc9f6c},
		{pump(), 0x60ad78ec, 0x1fa7a4dd, 0x40e33332, 0xe0e18399},
		{pump(), leastSub, plusZero, plusZero, 0x40d947ae},
		{pump(), 0x00000123, 0x0000003b, plusZero, 0x40d947ae},
	}
}

func TestGridTorque(t *testing.T) {
	for _, c := range powerCases() {
		got, ok := impl.GridTorque(running(c.plant, num(c.speed)))
		wantNumber(t, "torque", got, ok, c.grid)
	}
	// No other state takes anything, whatever the drive does.
	for _, d := range oddDrives() {
		if d.State == impl.DriveRunning {
			continue
		}
		got, ok := impl.GridTorque(d)
		wantNumber(t, "torque of one that does not run", got, ok, plusZero)
	}
}

func TestGridTorqueAtTheMost(t *testing.T) {
	// At the Most and below it, the torque grows with the speed; above it, the power stays.
	for _, c := range []struct {
		speed float32
		want  uint32
	}{
		{2, bitsOf(2)}, {below(2), 0x3fffffff}, {above(2), 0x3ffffffe}, {1, bitsOf(1)}, {0.5, bitsOf(0.5)}, {4, bitsOf(1)}, {8, bitsOf(0.5)}, {0, plusZero}, {num(minusZero), minusZero},
		{num(leastSub), leastSub}, {num(greatest), 0x00800001},
	} {
		got, ok := impl.GridTorque(running(simple(), c.speed))
		wantNumber(t, "torque", got, ok, c.want)
	}
}

func TestGridTorqueThatIsNotFinite(t *testing.T) {
	with := func(rated, most, speed float32) impl.Drive {
		p := withPlace(withPlace(simple(), 2, rated), 4, most)
		return running(withPlace(p, 3, num(leastSub)), speed)
	}
	for what, d := range map[string]impl.Drive{
		"a product that is not finite":       with(num(greatest), 4, 2),
		"two products that are not":          with(num(greatest), 1e30, 1e29),
		"a square of nothing":                with(1, 1e-30, 1e-30),
		"a square of nothing at the speed 0": with(1, 1e-30, 0),
		"nothing by a square of nothing":     with(num(leastSub), 1e-30, 1e-30),
		"a quotient by a small square":       with(1e25, 1e-15, 1e-15),
		"a quotient that is not finite":      with(num(greatest), 0.25, 0.5),
		"a quotient by nearly nothing":       with(1, num(2), num(3)),
	} {
		got, ok := impl.GridTorque(d)
		wantNoSum(t, "torque of "+what, got, ok)
		got, ok = impl.DrivePower(d)
		wantNoSum(t, "power of "+what, got, ok)
		got, ok = impl.NetTorque(d, 1)
		wantNoSum(t, "what is left of "+what, got, ok)
		still, ok := impl.StepDrive(d, 2, 1, 0)
		wantNoDrive(t, "behind a step of "+what, still, ok)
		d.State = impl.DriveStopping
		got, ok = impl.GridTorque(d)
		wantNumber(t, "torque of one that stops, with "+what, got, ok, plusZero)
	}
	// A square that is not finite leaves nothing of a torque that is.
	got, ok := impl.GridTorque(with(3, 1e30, 5))
	wantNumber(t, "torque by a square that is not finite", got, ok, plusZero)
	got, ok = impl.GridTorque(with(0x1p120, 0x1p-3, 0x1p-3))
	wantNumber(t, "a great torque", got, ok, bitsOf(0x1p123))
}

func TestDrivePower(t *testing.T) {
	for _, c := range powerCases() {
		got, ok := impl.DrivePower(running(c.plant, num(c.speed)))
		wantNumber(t, "power", got, ok, c.power)
	}
	// What does not run gives nothing, with the sign of its speed.
	for _, d := range oddDrives() {
		if d.State == impl.DriveRunning {
			continue
		}
		wanted := uint32(plusZero)
		if math.Signbit(float64(d.Speed)) {
			wanted = minusZero
		}
		got, ok := impl.DrivePower(d)
		wantNumber(t, "power of one that does not run", got, ok, wanted)
	}
	got, ok := impl.DrivePower(running(simple(), num(minusZero)))
	wantNumber(t, "power at no speed, with a sign", got, ok, plusZero)
	got, ok = impl.DrivePower(running(withPlace(simple(), 2, num(greatest)), 3))
	wantNumber(t, "the greatest power", got, ok, greatest)
	// The torque is rounded up, so that its product with the speed is beyond all numbers.
	d := running(withPlace(simple(), 2, num(greatest)), 25)
	got, ok = impl.GridTorque(d)
	wantNumber(t, "the torque of too much power", got, ok, 0x7d23d70a)
	got, ok = impl.DrivePower(d)
	wantNoSum(t, "too much power", got, ok)
	for _, tick := range []float32{0, num(leastSub), 1} {
		next, ok := impl.StepDrive(d, 2, 1, tick)
		wantNoDrive(t, "behind a step with too much power", next, ok)
	}
}

func TestExampleOfDrives(t *testing.T) {
	// A drive that runs at its Most gives Rated; here, nothing is rounded.
	for _, rated := range []float32{1, 4, 7, 1000, num(leastNorm), 0x1p126} {
		got, ok := impl.DrivePower(running(withPlace(simple(), 2, rated), 2))
		wantNumber(t, "power of the example", got, ok, bitsOf(rated))
	}
}

func TestNetTorque(t *testing.T) {
	for _, c := range powerCases() {
		d := running(c.plant, num(c.speed))
		d.Pitch = 0.3
		got, ok := impl.NetTorque(d, 9.7)
		wantNumber(t, "what is left", got, ok, c.at)
	}
	for _, c := range []struct {
		plant              impl.Plant
		state              int64
		speed, pitch, pull float32
		want               uint32
	}{
		{grinder(), 0, 1.23, 0.37, 9.7, 0x40ba7fcc}, {grinder(), 0, 3.3, 0, -2.1, 0xc036f9db}, {grinder(), 0, 0.77, 1, 33.3, 0xbe3559b4}, {grinder(), 0, 2.2, 0.999, 0, 0xbf018938},
		{grinder(), 1, 1.23, 0.37, 9.7, 0x40ba7fcc}, {grinder(), 1, 3.3, 0, -2.1, 0xc036f9db}, {grinder(), 1, 0.77, 1, 33.3, 0xbe3559b4}, {grinder(), 1, 2.2, 0.999, 0, 0xbf018938},
		{grinder(), 2, 1.23, 0.37, 9.7, 0xc0719545}, {grinder(), 2, 3.3, 0, -2.1, 0xc175fc85}, {grinder(), 2, 0.77, 1, 33.3, 0xc0c60944}, {grinder(), 2, 2.2, 0.999, 0, 0xc18d7456},
		{grinder(), 3, 1.23, 0.37, 9.7, 0x40ba7fcc}, {grinder(), 3, 3.3, 0, -2.1, 0xc036f9db}, {grinder(), 3, 0.77, 1, 33.3, 0xbe3559b4}, {grinder(), 3, 2.2, 0.999, 0, 0xbf018938},
		{grinder(), 4, 1.23, 0.37, 9.7, 0x40ba7fcc}, {grinder(), 4, 3.3, 0, -2.1, 0xc036f9db}, {grinder(), 4, 0.77, 1, 33.3, 0xbe3559b4}, {grinder(), 4, 2.2, 0.999, 0, 0xbf018938},
		{pump(), 0, 1.23, 0.37, 9.7, 0x4090624e}, {pump(), 0, 3.3, 0, -2.1, 0xc0cc7ae1}, {pump(), 0, 0.77, 1, 33.3, 0xbf8020c4}, {pump(), 0, 2.2, 0.999, 0, 0xc0370a3d},
		{pump(), 1, 1.23, 0.37, 9.7, 0x4090624e}, {pump(), 1, 3.3, 0, -2.1, 0xc0cc7ae1}, {pump(), 1, 0.77, 1, 33.3, 0xbf8020c4}, {pump(), 1, 2.2, 0.999, 0, 0xc0370a3d},
		{pump(), 2, 1.23, 0.37, 9.7, 0x40885b21}, {pump(), 2, 3.3, 0, -2.1, 0xc0e204c5}, {pump(), 2, 0.77, 1, 33.3, 0xbf943b10}, {pump(), 2, 2.2, 0.999, 0, 0xc053c218},
		{pump(), 3, 1.23, 0.37, 9.7, 0x4090624e}, {pump(), 3, 3.3, 0, -2.1, 0xc0cc7ae1}, {pump(), 3, 0.77, 1, 33.3, 0xbf8020c4}, {pump(), 3, 2.2, 0.999, 0, 0xc0370a3d},
		{pump(), 4, 1.23, 0.37, 9.7, 0x4090624e}, {pump(), 4, 3.3, 0, -2.1, 0xc0cc7ae1}, {pump(), 4, 0.77, 1, 33.3, 0xbf8020c4}, {pump(), 4, 2.2, 0.999, 0, 0xc0370a3d},
	} {
		got, ok := impl.NetTorque(driveOf(c.plant, c.state, c.speed, c.pitch, 2.5), c.pull)
		wantNumber(t, "what is left", got, ok, c.want)
	}
}

func TestNetTorqueOfNothing(t *testing.T) {
	free := withPlace(simple(), 1, 0)
	for _, c := range []struct {
		plant              impl.Plant
		speed, pitch, pull float32
		want               uint32
	}{
		{free, 1, 1, 5, plusZero}, {free, 1, 1, -5, minusZero}, {free, 1, 0, num(minusZero), minusZero}, {free, 1, 0, 0, plusZero}, {free, num(minusZero), 0, num(minusZero), plusZero},
		{free, num(greatest), 0, 3, bitsOf(3)}, {free, 1, 0, num(greatest), greatest}, {free, 1, 0, -num(greatest), greatest | minusZero}, {free, 1, num(leastSub), num(greatest), greatest},
		{free, 1, num(0x3f7fffff), 0x1p24, bitsOf(1)}, {free, 1, 0.5, num(leastSub), plusZero}, {simple(), 0, 0, 3, bitsOf(3)}, {simple(), 4, 0, 2, plusZero}, {simple(), 4, 1, -2, bitsOf(-2)},
	} {
		got, ok := impl.NetTorque(driveOf(c.plant, impl.DriveStarting, c.speed, c.pitch, 0), c.pull)
		wantNumber(t, "what is left", got, ok, c.want)
	}
}

func TestNetTorqueThatIsNotFinite(t *testing.T) {
	for state := range int64(5) {
		for _, pitch := range []float32{0, 0.5, 1} {
			for _, pull := range notFinite() {
				got, ok := impl.NetTorque(driveOf(grinder(), state, 1.5, pitch, 1), pull)
				wantNoSum(t, "what is left of a wrong pull", got, ok)
			}
		}
		heavy := withPlace(grinder(), 1, num(greatest))
		got, ok := impl.NetTorque(driveOf(heavy, state, 1.5, 0.5, 1), 1)
		wantNoSum(t, "what is left of a drag that is not finite", got, ok)
		got, ok = impl.NetTorque(driveOf(heavy, state, 1, 0.5, 1), -num(greatest))
		wantNoSum(t, "what is left of a pull to the other side", got, ok)
	}
	// The product of drag and speed is rounded before it is taken away, so that it is beyond all numbers on its own.
	got, ok := impl.NetTorque(driveOf(withPlace(grinder(), 1, 0x1p127), impl.DriveHeld, 2, 0, 1), num(greatest))
	wantNoSum(t, "what is left of a product that is not finite", got, ok)
}

func TestDragIsRoundedOnItsOwn(t *testing.T) {
	// The product of 1 + 2^-12 with itself is rounded to 1 + 2^-11; what is cut off would be left otherwise.
	d := driveOf(withPlace(simple(), 1, 1+0x1p-12), impl.DriveStarting, 1+0x1p-12, 0, 0)
	got, ok := impl.NetTorque(d, 1+0x1p-11)
	wantNumber(t, "what is left of a drag", got, ok, plusZero)
}
