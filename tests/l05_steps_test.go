package tests

import (
	"math"
	"slices"
	"testing"

	"loop.example/g01256/impl"
)

func wantNoRun(t *testing.T, what string, d impl.Drive, states []int64, ok bool) {
	t.Helper()
	wantNoDrive(t, what, d, ok)
	if len(states) > 0 {
		t.Errorf("%s: got the states %v, want none", what, states)
	}
}

// windsOf returns winds below the Start of a plant, from there on, and from its Cut on, with those just beside both.
func windsOf(p impl.Plant) [3][]float32 {
	return [3][]float32{
		{0, num(minusZero), num(leastSub), 0.5 * p.Start, below(p.Start)},
		{p.Start, above(p.Start), 0.5 * (p.Start + p.Cut), below(p.Cut)},
		{p.Cut, above(p.Cut), 2 * p.Cut, num(greatest)},
	}
}

// speedsOf returns speeds up to 0.01, below half of the Least of a plant, from there on, and from its Least on, with those just beside all of these.
func speedsOf(p impl.Plant) [4][]float32 {
	return [4][]float32{
		{0, num(minusZero), num(leastSub), 0.005, below(0.01), 0.01},
		{above(0.01), 0.25 * p.Least, below(0.5 * p.Least)},
		{0.5 * p.Least, above(0.5 * p.Least), 0.75 * p.Least, below(p.Least)},
		{p.Least, above(p.Least), p.Most, above(p.Most), num(greatest)},
	}
}

// stateTable has for each state, and each kind of winds, the state that comes behind it at each kind of speeds.
func stateTable() [5][3][4]int64 {
	const still, starting, running, stopping, held = impl.DriveStill, impl.DriveStarting, impl.DriveRunning, impl.DriveStopping, impl.DriveHeld
	all := func(state int64) [4]int64 { return [4]int64{state, state, state, state} }
	starts := [4]int64{starting, starting, starting, running}
	runs := [4]int64{stopping, stopping, running, running}
	stops := [4]int64{still, stopping, stopping, stopping}
	return [5][3][4]int64{
		{all(still), all(starting), all(still)},
		{starts, starts, all(stopping)},
		{runs, runs, all(stopping)},
		{stops, stops, stops},
		{all(held), all(held), all(held)},
	}
}

func TestNextState(t *testing.T) {
	for _, p := range []impl.Plant{simple(), grinder(), pump(), withPlace(pump(), 1, 0)} {
		for state, rows := range stateTable() {
			for i, winds := range windsOf(p) {
				for j, speeds := range speedsOf(p) {
					for _, wind := range winds {
						for k, speed := range speeds {
							d := driveOf(p, int64(state), speed, []float32{0, 0.3, 1}[k%3], -2)
							got, ok := impl.NextState(d, wind)
							if !ok || got != rows[i][j] {
								t.Errorf("%v in the wind %v: got %v %v, want %v", d, wind, got, ok, rows[i][j])
							}
						}
					}
				}
			}
		}
	}
}

func TestNextStateOfOddPlants(t *testing.T) {
	// Half of the least number there is, is rounded to nothing, so that no speed is too slow for it; of three times it, it is twice it.
	least := withPlace(simple(), 3, num(leastSub))
	third := withPlace(simple(), 3, num(3))
	// Half of this Least is less than 0.01, and the Cut comes just behind the Start.
	slow := withPlace(withPlace(simple(), 3, 0.005), 6, above(1))
	for _, c := range []struct {
		plant       impl.Plant
		state       int64
		speed, wind float32
		want        int64
	}{
		{least, impl.DriveRunning, 0, 2, impl.DriveRunning}, {least, impl.DriveRunning, num(minusZero), 0, impl.DriveRunning}, {least, impl.DriveStarting, 0, 2, impl.DriveStarting}, {least, impl.DriveStarting, num(leastSub), 2, impl.DriveRunning},
		{third, impl.DriveRunning, num(1), 2, impl.DriveStopping}, {third, impl.DriveRunning, num(2), 2, impl.DriveRunning}, {third, impl.DriveStarting, num(2), 2, impl.DriveStarting}, {third, impl.DriveStarting, num(3), 2, impl.DriveRunning},
		{slow, impl.DriveRunning, 0.0025, 1, impl.DriveRunning}, {slow, impl.DriveRunning, below(0.0025), 1, impl.DriveStopping}, {slow, impl.DriveStopping, 0.0025, 1, impl.DriveStill}, {slow, impl.DriveStarting, 0.005, 1, impl.DriveRunning},
		{slow, impl.DriveStill, 0.005, 1, impl.DriveStarting}, {slow, impl.DriveStill, 0.005, above(1), impl.DriveStill}, {slow, impl.DriveStill, 0.005, below(1), impl.DriveStill}, {slow, impl.DriveRunning, 3, above(1), impl.DriveStopping},
	} {
		got, ok := impl.NextState(driveOf(c.plant, c.state, c.speed, 0.5, 0), c.wind)
		wantInteger(t, "state", got, ok, c.want)
	}
}

func TestNextStateInWrongWinds(t *testing.T) {
	for _, d := range oddDrives() {
		for _, wind := range notAmounts() {
			got, ok := impl.NextState(d, wind)
			wantNoSum(t, "state", got, ok)
		}
	}
}

func TestNextPitch(t *testing.T) {
	for _, c := range []struct {
		plant                 impl.Plant
		pitch, tick, down, up uint32
	}{
		{grinder(), 0x3ebd70a4, 0x3e99999a, 0x3ea353f8, 0x3ed78d50},
		{grinder(), 0x3c23d70a, 0x3dcccccd, plusZero, 0x3cdd2f1b},
		{grinder(), 0x3f7d70a4, 0x3d4ccccd, 0x3f7b4396, 0x3f7f9db2},
		{grinder(), 0x3f000000, 0x3f451eb8, 0x3ebcfaad, 0x3f2182aa},
		{grinder(), 0x3f7fffff, 0x33d6bf95, 0x3f7fffff, 0x3f7fffff},
		{grinder(), leastSub, 0x00000002, leastSub, leastSub},
		{grinder(), 0x33800000, 0x34a10fb0, 0x3213d3a0, 0x33ed858c},
		{grinder(), 0x3f35c28f, 0x3fa66666, 0x3efa5e34, 0x3f6e5604},
		{pump(), 0x3ebd70a4, 0x3e99999a, 0x3e20c49c, 0x3f153f7d},
		{pump(), 0x3c23d70a, 0x3dcccccd, plusZero, 0x3da5e354},
		{pump(), 0x3f7d70a4, 0x3d4ccccd, 0x3f745a1d, 0x3f800000},
		{pump(), 0x3f000000, 0x3f451eb8, plusZero, 0x3f800000},
		{pump(), 0x3f7fffff, 0x33d6bf95, 0x3f7ffffe, 0x3f800000},
		{pump(), leastSub, 0x00000002, plusZero, 0x00000002},
		{pump(), 0x33800000, 0x34a10fb0, plusZero, 0x34925a80},
		{pump(), 0x3f35c28f, 0x3fa66666, plusZero, 0x3f800000},
	} {
		p := c.plant
		for _, d := range []impl.Drive{driveOf(p, impl.DriveStarting, 0, 0, 1), driveOf(p, impl.DriveStarting, 100, 0, 1), driveOf(p, impl.DriveRunning, 0, 0, 1), driveOf(p, impl.DriveRunning, p.Most, 0, 1)} {
			d.Pitch = num(c.pitch)
			got, ok := impl.NextPitch(d, num(c.tick))
			wantNumber(t, "pitch that goes to 0", got, ok, c.down)
		}
		for _, d := range []impl.Drive{
			driveOf(p, impl.DriveStill, 0, 0, 1), driveOf(p, impl.DriveStill, 1, 0, 1), driveOf(p, impl.DriveStopping, p.Most, 0, 1), driveOf(p, impl.DriveHeld, 1, 0, 1),
			driveOf(p, impl.DriveRunning, above(p.Most), 0, 1), driveOf(p, impl.DriveRunning, num(greatest), 0, 1),
		} {
			d.Pitch = num(c.pitch)
			got, ok := impl.NextPitch(d, num(c.tick))
			wantNumber(t, "pitch that goes to 1", got, ok, c.up)
		}
	}
}

func TestNextPitchAtBounds(t *testing.T) {
	most := num(greatest)
	for _, c := range []struct {
		ease, pitch, tick float32
		down, up          uint32
	}{
		// No tick changes nothing but the sign of a zero.
		{0.5, 0.25, 0, bitsOf(0.25), bitsOf(0.25)}, {0.5, 0.25, num(minusZero), bitsOf(0.25), bitsOf(0.25)}, {0.5, num(minusZero), 0, plusZero, plusZero}, {0.5, num(minusZero), num(minusZero), plusZero, plusZero},
		{0.5, 0, num(minusZero), plusZero, plusZero}, {0.5, 0, 0, plusZero, plusZero}, {0.5, 1, 0, bitsOf(1), bitsOf(1)}, {most, 1, num(minusZero), bitsOf(1), bitsOf(1)}, {0.5, num(leastSub), 0, leastSub, leastSub}, {0.5, num(0x3f7fffff), 0, 0x3f7fffff, 0x3f7fffff},
		// To the bounds, just not as far, and beyond.
		{0.5, 0.25, 0.5, plusZero, bitsOf(0.5)}, {0.5, 0.75, 0.5, bitsOf(0.5), bitsOf(1)}, {0.5, 0.5, 1, plusZero, bitsOf(1)}, {0.5, 0.5, below(1), 0x33000000, bitsOf(1)}, {0.5, 0.5, below(below(1)), 0x33800000, 0x3f7fffff}, {0.5, 0.5, above(1), plusZero, bitsOf(1)},
		{0.5, 1, 2, plusZero, bitsOf(1)}, {0.5, 1, below(2), 0x33800000, bitsOf(1)}, {0.5, 0, 2, plusZero, bitsOf(1)}, {0.5, 0, below(2), plusZero, 0x3f7fffff}, {0.5, 0, above(2), plusZero, bitsOf(1)}, {1, num(leastSub), num(leastSub), plusZero, 0x00000002},
		{1, num(0x3f7fffff), 0x1p-24, 0x3f7ffffe, bitsOf(1)}, {1, num(0x3f7fffff), 0x1p-26, 0x3f7fffff, 0x3f7fffff}, {1, num(0x3f7fffff), 0x1p-25, 0x3f7ffffe, bitsOf(1)}, {1, 1, 0x1p-25, bitsOf(1), bitsOf(1)}, {1, 1, 0x1p-24, 0x3f7fffff, bitsOf(1)},
		// Far beyond, and by a product of nothing.
		{0.5, 0.5, most, plusZero, bitsOf(1)}, {most, 0.5, most, plusZero, bitsOf(1)}, {most, 0, most, plusZero, bitsOf(1)}, {most, 1, most, plusZero, bitsOf(1)}, {most, 0.5, num(leastSub), 0x3efffff0, 0x3f000008},
		{num(leastSub), 0.5, num(leastSub), bitsOf(0.5), bitsOf(0.5)}, {num(leastSub), 0, num(leastSub), plusZero, plusZero}, {num(leastSub), 0, 1, plusZero, leastSub}, {num(leastSub), num(minusZero), 0.5, plusZero, plusZero},
	} {
		p := withPlace(simple(), 7, c.ease)
		got, ok := impl.NextPitch(driveOf(p, impl.DriveStarting, 1, c.pitch, 0), c.tick)
		wantNumber(t, "pitch that goes to 0", got, ok, c.down)
		got, ok = impl.NextPitch(driveOf(p, impl.DriveHeld, 1, c.pitch, 0), c.tick)
		wantNumber(t, "pitch that goes to 1", got, ok, c.up)
	}
	for _, d := range oddDrives() {
		for _, tick := range notAmounts() {
			got, ok := impl.NextPitch(d, tick)
			wantNoSum(t, "pitch behind a wrong tick", got, ok)
		}
	}
}

// stepCase is a drive with what comes to it, and the numbers of the drive behind this step.
type stepCase struct {
	plant                                  impl.Plant
	state                                  int64
	speed, pitch, energy, wind, pull, tick float32
	next                                   int64
	nextSpeed, nextPitch, nextEnergy       uint32
}

func stepCases() []stepCase {
	return []stepCase{
		{grinder(), 0, 0, 1, 0, 7.7, 9.1, 0.3, 1, 0x3d1a21a2, 0x3f72f1aa, plusZero},
		{grinder(), 0, 0.37, 0.83, 1.7, 2.2, 9.1, 0.3, 0, 0x3ee6dcb9, 0x3f618937, 0x3fd9999a},
		{grinder(), 0, 0.006, 0.41, -3.3, 21.3, 5.5, 0.7, 0, 0x3efddde4, 0x3f076c8b, 0xc0533333},
		{grinder(), 1, 0.23, 0.71, 0.3, 7.7, 9.1, 0.3, 1, 0x3ef46271, 0x3f28b439, 0x3e99999a},
		{grinder(), 1, 1.93, 0.22, 0.3, 8.8, 9.1, 0.13, 2, 0x3fd21af2, 0x3e4aa64c, 0x408293ad},
		{grinder(), 1, 1.1, 0.05, 5.5, 33.3, -7.7, 0.9, 3, plusZero, 0x3e4fdf3b, 0x40b00000},
		{grinder(), 2, 1.3, 0.37, 2.9, 9.9, 17.3, 0.21, 2, 0x3fae292d, 0x3eab295f, 0x40b576f1},
		{grinder(), 2, 1.3, 0.03, 2.9, 9.9, 17.3, 0.21, 2, 0x3fd82d28, plusZero, 0x40b576f1},
		{grinder(), 2, 6.6, 0.37, 2.9, 9.9, 17.3, 0.21, 2, 0x40d7c048, 0x3ecfb7e9, 0x41392b02},
		{grinder(), 2, 1.3, 0.37, 2.9, 22.2, 17.3, 0.21, 3, 0x3feeebb4, 0x3ecfb7e9, 0x4039999a},
		{grinder(), 2, 0.4, 0.37, 2.9, 9.9, 17.3, 0.21, 3, 0x3f7a72f6, 0x3ecfb7e9, 0x4039999a},
		{grinder(), 2, 3.1, 0, -7.1, 9.9, -3.3, 1.7, 2, plusZero, 0x3e93f7cf, 0x427c70a4},
		{grinder(), 2, 1.9, 0.11, 1e+06, 9.9, 3.3, 0.1, 2, 0x3fc8b9f0, 0x3dbe76c8, 0x4974242d},
		{grinder(), 3, 1.7, 0.43, 3.1, 9.9, 1.3, 0.31, 3, 0x3fdc9e69, 0x3ef72475, 0x40466666},
		{grinder(), 3, 0.009, 0.43, 3.1, 9.9, 1.3, 0.31, 0, 0x3d857804, 0x3ef72475, 0x40466666},
		{grinder(), 3, 2.7, 0.93, 3.1, 9.9, -77.7, 0.31, 3, 0x40224321, 0x3f7b923a, 0x40466666},
		{grinder(), 4, 1.7, 0.43, 3.1, 9.9, 1.3, 0.31, 4, 0x3fd2daba, 0x3ef72475, 0x40466666},
		{grinder(), 4, 0.11, 0.13, 3.1, 9.9, 111.3, 0.77, 4, plusZero, 0x3e8594af, 0x40466666},
		{grinder(), 4, 2.3, 0.91, -3.1, 99.9, 111.3, 0.077, 4, 0x40125cbc, 0x3f6c4fa1, 0xc0466666},
		{pump(), 0, 0, 1, 0, 7.7, 9.1, 0.3, 1, 0x3f740900, 0x3f4978d5, plusZero},
		{pump(), 0, 0.37, 0.83, 1.7, 2.2, 9.1, 0.3, 0, 0x3e08a530, 0x3f800000, 0x3fd9999a},
		{pump(), 0, 0.006, 0.41, -3.3, 21.3, 5.5, 0.7, 0, 0x3f15821e, 0x3f683126, 0xc0533333},
		{pump(), 1, 0.23, 0.71, 0.3, 7.7, 9.1, 0.3, 1, 0x4015619b, 0x3efe76c8, 0x3e99999a},
		{pump(), 1, 1.93, 0.22, 0.3, 8.8, 9.1, 0.13, 2, 0x404032aa, 0x3e02c3ca, 0x3ecc2b34},
		{pump(), 1, 1.1, 0.05, 5.5, 33.3, -7.7, 0.9, 3, plusZero, 0x3f30624d, 0x40b00000},
		{pump(), 2, 1.3, 0.37, 2.9, 9.9, 17.3, 0.21, 2, 0x40a88b82, 0x3e62339d, 0x403e3b97},
		{pump(), 2, 1.3, 0.03, 2.9, 9.9, 17.3, 0.21, 2, 0x40d2a516, plusZero, 0x403e3b97},
		{pump(), 2, 6.6, 0.37, 2.9, 9.9, 17.3, 0.21, 2, 0x40c47ae3, 0x3f04e3bd, 0x408c8313},
		{pump(), 2, 1.3, 0.37, 2.9, 22.2, 17.3, 0.21, 3, 0x40654494, 0x3f04e3bd, 0x4039999a},
		{pump(), 2, 0.4, 0.37, 2.9, 9.9, 17.3, 0.21, 3, 0x4045723e, 0x3f04e3bd, 0x4039999a},
		{pump(), 2, 3.1, 0, -7.1, 9.9, -3.3, 1.7, 2, plusZero, plusZero, 0xc0712433},
		{pump(), 2, 1.9, 0.11, 1e+06, 9.9, 3.3, 0.1, 2, 0x3ff9c8b3, 0x3d1fbe76, 0x49742401},
		{pump(), 3, 1.7, 0.43, 3.1, 9.9, 1.3, 0.31, 3, 0x3f4edc48, 0x3f266cf4, 0x40466666},
		{pump(), 3, 0.009, 0.43, 3.1, 9.9, 1.3, 0.31, 0, 0x3e6fd6b8, 0x3f266cf4, 0x40466666},
		{pump(), 3, 2.7, 0.93, 3.1, 9.9, -77.7, 0.31, 3, 0x3f6a8e04, 0x3f800000, 0x40466666},
		{pump(), 4, 1.7, 0.43, 3.1, 9.9, 1.3, 0.31, 4, 0x3fbd6d5d, 0x3f266cf4, 0x40466666},
		{pump(), 4, 0.11, 0.13, 3.1, 9.9, 111.3, 0.77, 4, plusZero, 0x3f2d3c35, 0x40466666},
		{pump(), 4, 2.3, 0.91, -3.1, 99.9, 111.3, 0.077, 4, 0x400fb37c, 0x3f76f49d, 0xc0466666},
	}
}

func TestStepDrive(t *testing.T) {
	for _, c := range stepCases() {
		got, ok := impl.StepDrive(driveOf(c.plant, c.state, c.speed, c.pitch, c.energy), c.wind, c.pull, c.tick)
		wantDrive(t, "behind a step", got, ok, driveOf(c.plant, c.next, num(c.nextSpeed), num(c.nextPitch), num(c.nextEnergy)))
	}
}

func TestStepDriveWithoutATick(t *testing.T) {
	for _, tick := range []float32{0, num(minusZero)} {
		for _, c := range stepCases() {
			d := driveOf(c.plant, c.state, c.speed, c.pitch, c.energy)
			got, ok := impl.StepDrive(d, c.wind, c.pull, tick)
			d.State = c.next
			wantDrive(t, "behind a step of no tick", got, ok, d)
		}
		// Zeros lose their signs, but for that of an Energy to which nothing with this sign is added.
		got, ok := impl.StepDrive(driveOf(simple(), impl.DriveStill, num(minusZero), num(minusZero), num(minusZero)), 0, 1, tick)
		wanted := driveOf(simple(), impl.DriveStill, 0, 0, 0)
		if !math.Signbit(float64(tick)) {
			wanted.Energy = num(minusZero)
		}
		wantDrive(t, "behind a step of nothing", got, ok, wanted)
	}
}

func TestStepDriveByHand(t *testing.T) {
	p := simple()
	for _, c := range []struct {
		d                impl.Drive
		wind, pull, tick float32
		want             impl.Drive
	}{
		// The pitch follows the new state: a drive that begins to start takes wind at once, and one that stops turns away at once.
		{driveOf(p, impl.DriveStill, 0, 1, 0), 2, 4, 1, driveOf(p, impl.DriveStarting, 2, 0.5, 0)},
		{driveOf(p, impl.DriveStill, 0, 0.5, 0), 0.5, 4, 1, driveOf(p, impl.DriveStill, 0, 1, 0)},
		{driveOf(p, impl.DriveStarting, 1, 0.5, 0), 4, 4, 0.5, driveOf(p, impl.DriveStopping, 1.25, 0.75, 0)},
		{driveOf(p, impl.DriveStopping, 0, 0.5, 3), 2, 4, 0.5, driveOf(p, impl.DriveStill, 0.5, 0.75, 3)},
		// So do the torques: a drive that begins to run gives something at once, and one that stops nothing any more.
		{driveOf(p, impl.DriveStarting, 1, 0.5, 0), 2, 4, 0.5, driveOf(p, impl.DriveRunning, 1.75, 0.25, 0.5)},
		{driveOf(p, impl.DriveRunning, 2, 0.5, 1), 4, 4, 0.5, driveOf(p, impl.DriveStopping, 2, 0.75, 1)},
		{driveOf(p, impl.DriveRunning, 2, 0.5, 1), 2, 8, 0.5, driveOf(p, impl.DriveRunning, 3.5, 0.25, 3)},
		// The Energy is that of the speed before, and is taken from nothing and less.
		{driveOf(p, impl.DriveRunning, 1, 0, -8), 2, 5.5, 1, driveOf(p, impl.DriveRunning, 5, 0, -7)},
		{driveOf(p, impl.DriveRunning, 4, 0, 0), 2, 2, 2, driveOf(p, impl.DriveRunning, 0, 1, 8)},
		// A speed that comes to nothing, or below it.
		{driveOf(p, impl.DriveStopping, 1, 1, 0), 2, 77, 2, driveOf(p, impl.DriveStopping, 0, 1, 0)},
		{driveOf(p, impl.DriveStopping, 1, 1, 0), 2, 77, 3, driveOf(p, impl.DriveStopping, 0, 1, 0)},
		{driveOf(p, impl.DriveStopping, 1, 1, 0), 2, 77, below(2), driveOf(p, impl.DriveStopping, 0x1p-24, 1, 0)},
		{driveOf(p, impl.DriveStarting, 0.5, 0, 0), 2, -100, 1, driveOf(p, impl.DriveStarting, 0, 0, 0)},
		// A drive that is held is slowed down by its Ease, and no torque counts.
		{driveOf(p, impl.DriveHeld, 2, 0.5, 1), 2, 8, 1, driveOf(p, impl.DriveHeld, 1.5, 1, 1)},
		{driveOf(p, impl.DriveHeld, 2, 0.5, 1), 99, -8, 0.5, driveOf(p, impl.DriveHeld, 1.75, 0.75, 1)},
		{driveOf(p, impl.DriveHeld, 0.5, 0, 1), 2, 8, 1, driveOf(p, impl.DriveHeld, 0, 0.5, 1)},
		{driveOf(p, impl.DriveHeld, 0.5, 0, 1), 2, 8, 3, driveOf(p, impl.DriveHeld, 0, 1, 1)},
		{driveOf(p, impl.DriveHeld, 0, 1, 1), 2, 8, 1, driveOf(p, impl.DriveHeld, 0, 1, 1)},
		{driveOf(p, impl.DriveHeld, num(minusZero), 1, 1), 2, 8, 0, driveOf(p, impl.DriveHeld, 0, 1, 1)},
		// A speed far below nothing is nothing.
		{driveOf(withPlace(p, 7, num(greatest)), impl.DriveHeld, num(greatest), 0, 1), 2, 8, 3, driveOf(withPlace(p, 7, num(greatest)), impl.DriveHeld, 0, 1, 1)},
		{driveOf(withPlace(p, 0, num(leastSub)), impl.DriveStopping, 1, 1, 1), 2, 8, 3, driveOf(withPlace(p, 0, num(leastSub)), impl.DriveStopping, 0, 1, 1)},
		{driveOf(p, impl.DriveStopping, 1, 0, 1), 2, -num(greatest), 2, driveOf(p, impl.DriveStopping, 0, 1, 1)},
	} {
		got, ok := impl.StepDrive(c.d, c.wind, c.pull, c.tick)
		wantDrive(t, "behind a step", got, ok, c.want)
	}
}

func TestStepDriveAtTheMostSpeed(t *testing.T) {
	most := num(greatest)
	free := withPlace(simple(), 1, 0)
	// The greatest speed and the greatest Energy are just there.
	got, ok := impl.StepDrive(driveOf(free, impl.DriveStarting, 0, 0, 0), 2, most, 1)
	wantDrive(t, "the greatest speed", got, ok, driveOf(free, impl.DriveStarting, most, 0, 0))
	fast := free
	fast.Least, fast.Most = 0x1p120, 0x1p121
	got, ok = impl.StepDrive(driveOf(fast, impl.DriveStarting, 0x1p102, 0, 0), 2, most, 1)
	wantDrive(t, "a speed that is rounded to the greatest", got, ok, driveOf(fast, impl.DriveStarting, most, 0, 0))
	got, ok = impl.StepDrive(driveOf(fast, impl.DriveStarting, 0x1p103, 0, 0), 2, most, 1)
	wantNoDrive(t, "a speed that is rounded to more than that", got, ok)
	got, ok = impl.StepDrive(driveOf(free, impl.DriveRunning, 2, 0.5, most), 2, 8, 1)
	wantDrive(t, "the greatest Energy", got, ok, driveOf(free, impl.DriveRunning, 8, 0, most))
}

func TestStepDriveThatIsNotFinite(t *testing.T) {
	most, least := num(greatest), num(leastSub)
	p, free := simple(), withPlace(simple(), 1, 0)
	light := withPlace(free, 0, least)
	heavy := withPlace(p, 1, most)
	for what, c := range map[string]struct {
		d          impl.Drive
		pull, tick float32
	}{
		"a speed that is not finite":               {driveOf(free, impl.DriveStarting, 0, 0, 0), most, 1.5},
		"a quotient that is not finite":            {driveOf(light, impl.DriveStarting, 0, 0, 0), 1, 1},
		"a quotient that is not finite, by 0":      {driveOf(light, impl.DriveStarting, 0, 0, 0), 1, 0},
		"one that is less than nothing, by 0":      {driveOf(light, impl.DriveStarting, 0, 0, 0), -1, 0},
		"an Energy that is not finite":             {driveOf(withPlace(free, 2, most), impl.DriveRunning, 3, 0, most), 1, 1},
		"an Energy by a tick that is too great":    {driveOf(withPlace(free, 2, most), impl.DriveRunning, 3, 0, 0), 0, 1.5},
		"a torque of the grid":                     {driveOf(withPlace(withPlace(free, 2, most), 4, 5), impl.DriveRunning, 4, 0, 0), 0, 0},
		"a drag that is not finite":                {driveOf(heavy, impl.DriveStarting, 2, 0, 0), 1, 1},
		"a drag that is not finite, behind":        {driveOf(heavy, impl.DriveStopping, 2, 1, 0), 1, 0},
		"a drag that is not finite, of one held":   {driveOf(heavy, impl.DriveHeld, 2, 1, 0), 1, 1},
		"such a drag, of one held, without a tick": {driveOf(heavy, impl.DriveHeld, 2, 1, 0), 1, 0},
		"a pull and a drag that are too much":      {driveOf(withPlace(free, 1, most), impl.DriveHeld, 1, 0.5, 0), -most, 0},
	} {
		got, ok := impl.StepDrive(c.d, 2, c.pull, c.tick)
		wantNoDrive(t, "behind a step with "+what, got, ok)
		got, states, ok := impl.RunDrive(c.d, []float32{2}, []float32{c.pull}, c.tick)
		wantNoRun(t, "behind a run with "+what, got, states, ok)
	}
	// One that is held does not mind what its torque would make of it, nor does one that does not run mind the grid.
	got, ok := impl.StepDrive(driveOf(light, impl.DriveHeld, 1, 1, 0), 2, 8, 1)
	wantDrive(t, "one held, with a great quotient", got, ok, driveOf(light, impl.DriveHeld, 0.5, 1, 0))
	grid := withPlace(withPlace(p, 2, most), 4, 5)
	got, ok = impl.StepDrive(driveOf(grid, impl.DriveRunning, 4, 1, 0), 4, 8, 1)
	wantDrive(t, "one that stops, with a great torque of the grid", got, ok, driveOf(grid, impl.DriveStopping, 2, 1, 0))
}

func TestStepDriveOfWrongArguments(t *testing.T) {
	for _, d := range oddDrives() {
		for _, x := range notAmounts() {
			got, ok := impl.StepDrive(d, x, 1, 0.1)
			wantNoDrive(t, "behind a wrong wind", got, ok)
			got, ok = impl.StepDrive(d, 5, 1, x)
			wantNoDrive(t, "behind a wrong tick", got, ok)
		}
		for _, x := range notFinite() {
			got, ok := impl.StepDrive(d, 5, x, 0.1)
			wantNoDrive(t, "behind a wrong pull", got, ok)
		}
	}
	for state := range int64(5) {
		for _, pull := range notFinite() {
			for _, pitch := range []float32{0, 0.5, 1} {
				got, ok := impl.StepDrive(driveOf(simple(), state, 0, pitch, 0), 0, pull, 0)
				wantNoDrive(t, "behind a wrong pull that does nothing", got, ok)
			}
		}
	}
}

func TestProductsOfStepsAreRoundedOnTheirOwn(t *testing.T) {
	// The product of 1 + 2^-12 with itself is rounded to 1 + 2^-11; what is cut off would be told otherwise.
	x, square := float32(1+0x1p-12), float32(1+0x1p-11)
	p := withPlace(withPlace(simple(), 1, 0), 2, x)
	// At the speed 4, the torque of the grid is a quarter of x, and the power x.
	got, ok := impl.StepDrive(driveOf(p, impl.DriveRunning, 4, 1, -square), 2, 0, x)
	want(t, "success", ok, true)
	wantBits(t, "Energy behind a rounded product", got.Energy, plusZero)
	p.Least, p.Most, p.Ease = 3, 4, x
	got, ok = impl.StepDrive(driveOf(p, impl.DriveStarting, above(square), 0, 0), 2, -x, x)
	want(t, "success", ok, true)
	wantBits(t, "speed behind a rounded product", got.Speed, bitsOf(0x1p-23))
	got, ok = impl.StepDrive(driveOf(p, impl.DriveHeld, above(square), 1, 0), 2, 0, x)
	want(t, "success", ok, true)
	wantBits(t, "speed of one held behind a rounded product", got.Speed, bitsOf(0x1p-23))
	p.Ease = 0.5 * x
	pitch, ok := impl.NextPitch(driveOf(p, impl.DriveStarting, 1, above(0.5*square), 0), x)
	wantNumber(t, "pitch behind a rounded product", pitch, ok, bitsOf(0x1p-24))
}

// somePulls returns pulls that often turn a drive, and sometimes slow it down.
func somePulls(n *noise, count int) []float32 {
	list := make([]float32, count)
	for i := range list {
		list[i] = 10 + 25*n.between()
	}
	return list
}

func TestRunDriveIsManySteps(t *testing.T) {
	n := noise(43)
	for k, count := range []int{0, 1, 2, 3, 7, 50, 127, impl.MaxRun} {
		for _, d := range []impl.Drive{driveOf(grinder(), impl.DriveStill, 0, 1, 0), driveOf(pump(), impl.DriveRunning, 3, 0.2, -5), driveOf(pump(), impl.DriveHeld, 3, 0.2, 5)} {
			winds, pulls := anyWinds(&n, count), somePulls(&n, count)
			tick := []float32{0.3, 0.05, 0}[k%3]
			wanted := d
			var states []int64
			for i, wind := range winds {
				next, ok := impl.StepDrive(wanted, wind, pulls[i], tick)
				want(t, "success of a step", ok, true)
				wanted = next
				states = append(states, next.State)
			}
			got, list, ok := impl.RunDrive(d, winds, pulls, tick)
			wantDrive(t, "behind a run", got, ok, wanted)
			want(t, "states of a run", slices.Equal(list, states), true)
		}
	}
}

func TestRunDriveThroughAllStates(t *testing.T) {
	winds := []float32{5.5, 6.6, 7.7, 8.8, 9.9, 10.1, 9.3, 25.5, 12.1, 6.1, 0, 3.3}
	pulls := []float32{11.1, 22.2, 13.3, 44.4, 35.5, 26.6, 17.7, 8.8, -19.9, -31.1, 0.7, 3.1}
	for _, c := range []struct {
		d      impl.Drive
		tick   float32
		want   impl.Drive
		states []int64
	}{
		{driveOf(grinder(), impl.DriveStill, 0, 1, 0), 0.9, driveOf(grinder(), impl.DriveStopping, num(0x403df414), num(0x3f800000), num(0x41ea7a97)), []int64{1, 1, 2, 3, 3, 3, 3, 3, 3, 3, 3, 3}},
		{driveOf(pump(), impl.DriveStill, 0, 1, 0), 0.3, driveOf(pump(), impl.DriveStopping, num(0x3d12bc8c), num(0x3f800000), num(0x411d05f2)), []int64{1, 1, 2, 2, 2, 2, 2, 3, 3, 3, 3, 3}},
		{driveOf(grinder(), impl.DriveHeld, 2.9, 0.3, 7.7), 1.1, driveOf(grinder(), impl.DriveHeld, num(0x3f27ef98), num(0x3f800000), num(0x40f66666)), []int64{4, 4, 4, 4, 4, 4, 4, 4, 4, 4, 4, 4}},
		{driveOf(pump(), impl.DriveRunning, 3.3, 0.2, -1), 0.11, driveOf(pump(), impl.DriveStopping, num(0x3fe28e62), num(0x3f532616), num(0x40627026)), []int64{2, 2, 2, 2, 2, 2, 2, 3, 3, 3, 3, 3}},
	} {
		got, states, ok := impl.RunDrive(c.d, winds, pulls, c.tick)
		wantDrive(t, "behind a run", got, ok, c.want)
		want(t, "the states of a run", slices.Equal(states, c.states), true)
	}
	// With simple numbers, a drive starts, runs, has too much speed and stops in a storm, until it is still.
	winds = []float32{0, 2, 2, 2, 5, 2, 2, 2, 2, 0}
	got, states, ok := impl.RunDrive(driveOf(simple(), impl.DriveStill, 0, 1, 0), winds, []float32{0, 4, 4, 0, 0, 0, 0, 0, 8, 0}, 1)
	wantDrive(t, "behind a run of simple numbers", got, ok, driveOf(simple(), impl.DriveStill, num(0x3b2aaaa0), 1, 8))
	want(t, "the states of a run of simple numbers", slices.Equal(states, []int64{0, 1, 2, 2, 3, 3, 3, 3, 3, 0}), true)
}

func TestRunDriveOfNothing(t *testing.T) {
	for _, d := range oddDrives() {
		// Nothing is changed, not even the sign of a zero.
		for _, winds := range [][]float32{nil, {}} {
			got, states, ok := impl.RunDrive(d, winds, nil, 0.5)
			wantDrive(t, "behind a run of no wind", got, ok, d)
			want(t, "the number of states", len(states), 0)
		}
		for _, tick := range notAmounts() {
			got, states, ok := impl.RunDrive(d, nil, nil, tick)
			wantNoRun(t, "behind a run of no wind, and a wrong tick", got, states, ok)
		}
	}
}

func TestRunDriveOfWrongLists(t *testing.T) {
	d := driveOf(grinder(), impl.DriveRunning, 1.5, 0.5, 1)
	full := slices.Repeat([]float32{5}, impl.MaxRun)
	_, states, ok := impl.RunDrive(d, full, full, 0.01)
	want(t, "a run of MaxRun winds", ok && len(states) == impl.MaxRun, true)
	for what, lists := range map[string][2][]float32{
		"one more":           {append(full, 5), append(full, 5)},
		"many more":          {slices.Repeat(full, 9), slices.Repeat(full, 9)},
		"one wind more":      {append(full, 5), full},
		"one pull more":      {full, append(full, 5)},
		"one wind less":      {full[1:], full},
		"one pull less":      {full, full[1:]},
		"no wind":            {nil, {5}},
		"no pull":            {{5}, nil},
		"two pulls too many": {{5, 6}, {5, 6, 7, 8}},
	} {
		got, states, ok := impl.RunDrive(d, lists[0], lists[1], 0.01)
		wantNoRun(t, "a run of "+what, got, states, ok)
	}
	for i := range 5 {
		for _, x := range notAmounts() {
			winds := []float32{5, 6, 7, 8, 9}
			winds[i] = x
			got, states, ok := impl.RunDrive(d, winds, full[:5], 0.01)
			wantNoRun(t, "a run with a wrong wind", got, states, ok)
		}
		for _, x := range notFinite() {
			pulls := []float32{5, 6, 7, 8, 9}
			pulls[i] = x
			got, states, ok := impl.RunDrive(d, full[:5], pulls, 0.01)
			wantNoRun(t, "a run with a wrong pull", got, states, ok)
		}
	}
	for _, x := range notAmounts() {
		got, states, ok := impl.RunDrive(d, full, full, x)
		wantNoRun(t, "a run with a wrong tick", got, states, ok)
	}
	// The step in the middle of a run makes a speed that is not finite.
	light := withPlace(simple(), 0, 0.125)
	got, states, ok := impl.RunDrive(driveOf(light, impl.DriveStarting, 0, 0, 0), []float32{2, 2, 2}, []float32{0, num(greatest), 0}, 0.5)
	wantNoRun(t, "a run that comes to a speed that is not finite", got, states, ok)
}
