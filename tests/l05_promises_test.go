package tests

import (
	"math"
	"slices"
	"strings"
	"testing"

	"loop.example/g01256/impl"
)

// plantNumbers has all numbers of a plant.
func plantNumbers(p impl.Plant) []float32 {
	var list []float32
	for _, x := range placesOfPlant(&p) {
		list = append(list, *x)
	}
	return list
}

func toldDrive(d impl.Drive, ok bool) string {
	numbers := append(plantNumbers(d.Plant), d.Speed, d.Pitch, d.Energy)
	return told(ok, d.State, numbers...)
}

func toldRun(d impl.Drive, states []int64, ok bool) string {
	return toldDrive(d, ok) + "; " + toldBins(states, ok)
}

// allOfDrive has what all functions with drives tell of one.
func allOfDrive(d, e impl.Drive, x, y, z float32) []string {
	return []string{
		told(true, flag(impl.ValidPlant(d.Plant))), told(true, flag(impl.SamePlant(d.Plant, e.Plant))), told(true, flag(impl.ValidDrive(d))), told(true, flag(impl.SameDrive(d, e))),
		toldDrive(impl.NewDrive(d.Plant)), toldDrive(impl.HoldDrive(d)), toldDrive(impl.ReleaseDrive(d)), toldSector(impl.NextState(d, x)), toldNumber(impl.NextPitch(d, x)),
		toldNumber(impl.GridTorque(d)), toldNumber(impl.DrivePower(d)), toldNumber(impl.NetTorque(d, x)), toldDrive(impl.StepDrive(d, x, y, z)), toldDrive(impl.StepDrive(d, y, z, x)), toldDrive(impl.StepDrive(d, z, x, y)),
		toldNumber(impl.ShareOfRated(d, x)), toldRun(impl.RunDrive(d, []float32{x, 5, y}, []float32{y, 9, x}, z)),
	}
}

// allOfTurns has what all functions of yaws tell of numbers and a list.
func allOfTurns(list []float32, x, y, z, near float32) []string {
	return []string{
		toldNumber(impl.YawStep(x, y, z, near)), toldList(impl.RunYaw(x, list, z, near)), toldNumber(impl.TurnedBy(list)),
	}
}

// allOfStates has what all functions with a list of states tell of it.
func allOfStates(list []int64, state int64) []string {
	return []string{toldBins(impl.CountStates(list)), toldSector(impl.ChangesIn(list)), toldSector(impl.LongestIn(list, state))}
}

// anyPlant returns a valid plant without a rule.
func anyPlant(n *noise) impl.Plant {
	p := impl.Plant{Inertia: 3 + 2*n.between(), Drag: 0.5 + 0.5*n.between(), Rated: 20 + 19*n.between(), Least: 1.1 + n.between(), Start: 4 + 3*n.between(), Ease: 0.6 + 0.5*n.between()}
	p.Most = p.Least + 2 + 1.9*n.between()
	p.Cut = p.Start + 8 + 7*n.between()
	return p
}

// anyDrive returns a valid drive without a rule, of any state.
func anyDrive(n *noise) impl.Drive {
	p := anyPlant(n)
	return driveOf(p, int64(n.next()%5), p.Most*(1+n.between()), 0.5+0.5*n.between(), 100*n.between())
}

// someDrives returns valid drives of all kinds, and all wrong ones.
func someDrives(seed noise) []impl.Drive {
	list := append(oddDrives(), wrongDrives()...)
	for range 50 {
		list = append(list, anyDrive(&seed))
	}
	return list
}

func TestPromise1DrivesReturnTheSameAgain(t *testing.T) {
	list := someDrives(47)
	odd := append(oddNumbers(), 0.25, 3, 7)
	within(t, func() {
		wantToldAgain(t, len(list), len(odd), func(i, j int) []string {
			d, e := list[i], list[(i+j)%len(list)]
			x, y, z := odd[j], odd[(i+3*j)%len(odd)], odd[(2*i+j)%len(odd)]
			// Ordinary numbers but for one.
			return append(allOfDrive(d, e, x, y, z), allOfDrive(d, d, x, 9, 0.25)...)
		})
	})
}

func TestPromise1YawsAndStatesReturnTheSameAgain(t *testing.T) {
	n := noise(48)
	turns := [][]float32{nil, {0.25}, {num(aNaN), 0}, {0, num(plusInf)}, {num(greatest), -num(greatest)}}
	states := append(wrongStateLists(), nil, []int64{4})
	for _, count := range []int{1, 2, 3, 50, 127, impl.MaxRun, impl.MaxRun + 1, 300} {
		turns = append(turns, anyTurns(&n, count))
		states = append(states, someStates(&n, count))
	}
	odd := append(oddNumbers(), 0.25, 0.375, -0.5)
	within(t, func() {
		wantToldAgain(t, len(turns), len(odd), func(i, j int) []string {
			x, y, z := odd[j], odd[(i+3*j)%len(odd)], odd[(2*i+5*j)%len(odd)]
			out := allOfTurns(turns[i], x, y, z, odd[(3*i+j)%len(odd)])
			out = append(out, allOfTurns(turns[i], x, 0.25, 0.125, 0.0625)...)
			return append(out, allOfTurns(turns[i], 0.25, x, y, 0.0625)...)
		})
		which := append(wrongStates(), 0, 1, 2, 3, 4)
		wantToldAgain(t, len(states), len(which), func(i, j int) []string { return allOfStates(states[i], which[j]) })
	})
}

func TestPromise1ListsOfRunsAreLeftAlone(t *testing.T) {
	n := noise(49)
	for _, count := range []int{0, 1, 2, 7, 127, impl.MaxRun, impl.MaxRun + 1} {
		for _, d := range []impl.Drive{anyDrive(&n), oddDrives()[0], wrongDrives()[3]} {
			winds, pulls := anyWinds(&n, count), somePulls(&n, count)
			roomOfWinds, roomOfPulls := spare(winds, 77), spare(pulls, 77)
			got := toldRun(impl.RunDrive(d, roomOfWinds, roomOfPulls, 0.25))
			want(t, "a run with room behind the lists", got, toldRun(impl.RunDrive(d, winds, pulls, 0.25)))
			want(t, "winds and pulls are left alone", listLeftAlone(roomOfWinds, winds) && listLeftAlone(roomOfPulls, pulls), true)
		}
		turns, states := anyTurns(&n, count), someStates(&n, count)
		roomOfTurns, roomOfStates := spare(turns, 77), spare(states, 3)
		want(t, "yaws with room behind the lists", slices.Equal(allOfTurns(roomOfTurns, 0.25, 0.5, 0.125, 0.0625), allOfTurns(turns, 0.25, 0.5, 0.125, 0.0625)), true)
		for state := range int64(5) {
			want(t, "states with room behind the list", slices.Equal(allOfStates(roomOfStates, state), allOfStates(states, state)), true)
		}
		want(t, "turns are left alone", listLeftAlone(roomOfTurns, turns), true)
		want(t, "states are left alone", slices.Equal(roomOfStates[:count+4], append(slices.Clone(states), 3, 3, 3, 3)), true)
	}
}

// overwriteIntegers changes a list, with the room behind it.
func overwriteIntegers(list []int64) {
	all := list[:cap(list)]
	for i := range all {
		all[i] = 55
	}
}

func TestPromise1ListsOfRunsShareNoMemory(t *testing.T) {
	n := noise(50)
	for _, count := range []int{1, 7, impl.MaxRun} {
		d, list := driveOf(grinder(), impl.DriveRunning, 1.5, 0.5, 1), anyTurns(&n, count)
		winds := anyWinds(&n, count)
		kept, room := slices.Clone(list), spare(list, 77)
		_, states, _ := impl.RunDrive(d, winds, winds, 0.1)
		wanted := slices.Clone(states)
		overwriteIntegers(states)
		_, states, ok := impl.RunDrive(d, winds, winds, 0.1)
		want(t, "states again", ok && slices.Equal(states, wanted), true)
		counts, _ := impl.CountStates(states)
		wantedCounts := slices.Clone(counts)
		overwriteIntegers(counts)
		want(t, "states after new counts", slices.Equal(states, wanted), true)
		counts, ok = impl.CountStates(states)
		wantCounts(t, "counts again", counts, ok, wantedCounts...)
		yaws, _ := impl.RunYaw(0.25, room, 0.125, 0.0625)
		wantedYaws := slices.Clone(yaws)
		overwrite(yaws)
		want(t, "winds after new yaws", listLeftAlone(room, kept), true)
		yaws, ok = impl.RunYaw(0.25, room, 0.125, 0.0625)
		want(t, "yaws again", ok && sameNumbers(yaws, wantedYaws), true)
	}
}

// mayFollow reports whether a state can come behind another one.
func mayFollow(before, next int64) bool {
	pairs := strings.Fields("00 01 11 12 13 22 23 33 30 44")
	return slices.Contains(pairs, string([]byte{'0' + byte(before), '0' + byte(next)}))
}

func TestPromise6DrivesKeepToTheirStates(t *testing.T) {
	n := noise(51)
	var seen [5][5]int
	for range 1500 {
		d := anyDrive(&n)
		winds, pulls := anyWinds(&n, impl.MaxRun), somePulls(&n, impl.MaxRun)
		tick := 0.3 + 0.29*n.between()
		_, states, ok := impl.RunDrive(d, winds, pulls, tick)
		want(t, "success", ok && len(states) == impl.MaxRun, true)
		for i, state := range states {
			// Each state is the one that the rules tell.
			before := d
			next, one := impl.NextState(before, winds[i])
			d, ok = impl.StepDrive(before, winds[i], pulls[i], tick)
			if !ok || !one || state != next || d.State != state || !mayFollow(before.State, state) {
				t.Fatalf("%v in the wind %v: got %v, with %v, want %v", before, winds[i], state, d, next)
			}
			seen[before.State][state]++
			if p := d.Plant; winds[i] >= p.Cut && (state == impl.DriveStarting || state == impl.DriveRunning) {
				t.Fatalf("%v runs in the wind %v", d, winds[i])
			}
			if state == impl.DriveRunning && before.Speed < 0.5*before.Plant.Least {
				t.Fatalf("%v runs with the speed %v", d, before.Speed)
			}
		}
	}
	for before := range seen {
		for next, count := range seen[before] {
			want(t, "some runs have each change of states", count > 0, mayFollow(int64(before), int64(next)))
		}
	}
}

func TestPromise6StepsAreThoseOfTheRules(t *testing.T) {
	n := noise(52)
	for range 20000 {
		d := anyDrive(&n)
		wind, pull, tick := 10+10*n.between(), 30*n.between(), 0.5+0.5*n.between()
		got, ok := impl.StepDrive(d, wind, pull, tick)
		then := d
		then.State, _ = impl.NextState(d, wind)
		then.Pitch, _ = impl.NextPitch(then, tick)
		grid, _ := impl.GridTorque(then)
		net, _ := impl.NetTorque(then, pull)
		then.Energy += float32(tick * float32(grid*d.Speed))
		change := float32(tick * float32(net/d.Plant.Inertia))
		if d.State == impl.DriveHeld {
			change = -float32(d.Plant.Ease * tick)
		}
		then.Speed = max(d.Speed+change, 0)
		wantDrive(t, "behind a step", got, ok, then)
		want(t, "the same plant, and a valid drive", impl.SamePlant(got.Plant, d.Plant) && impl.ValidDrive(got), true)
		if got.Energy < d.Energy || then.State != impl.DriveRunning && got.Energy != d.Energy {
			t.Fatalf("%v: got the Energy %v", d, got.Energy)
		}
	}
}

func TestPromise6PitchesGoTheirWay(t *testing.T) {
	n := noise(53)
	for range 20000 {
		d := anyDrive(&n)
		tick := abs(n.between())
		got, ok := impl.NextPitch(d, tick)
		want(t, "a pitch", ok && got >= 0 && got <= 1, true)
		far := math.Abs(float64(got-d.Pitch)) - float64(d.Plant.Ease*tick)
		down := d.State == impl.DriveStarting || d.State == impl.DriveRunning && d.Speed <= d.Plant.Most
		if far > 1e-6 || down && got > d.Pitch || !down && got < d.Pitch || far < -1e-6 && got != 0 && got != 1 {
			t.Fatalf("%v: got the pitch %v behind the tick %v", d, got, tick)
		}
		for range 2000 {
			d.Pitch, _ = impl.NextPitch(d, 0.01)
		}
		want(t, "the pitch in the end", d.Pitch == 0, down)
	}
}

func TestPromise6NoMoreIsGivenThanIsRated(t *testing.T) {
	n := noise(54)
	for range 30000 {
		d := anyDrive(&n)
		p := d.Plant
		most := p.Rated * 1.000001
		for _, speed := range []float32{0, p.Least, 0.5 * p.Most, below(p.Most), p.Most, above(p.Most), 2 * p.Most, 1e6, d.Speed} {
			d.Speed = speed
			grid, one := impl.GridTorque(d)
			power, two := impl.DrivePower(d)
			wanted := 0.0
			if d.State == impl.DriveRunning {
				share := min(float64(speed)/float64(p.Most), 1)
				wanted = float64(p.Rated) * share * share
			}
			if !one || !two || grid < 0 || power < 0 || power > most || math.Abs(float64(power)-wanted) > 1e-5*float64(p.Rated) || power != float32(grid*speed) {
				t.Fatalf("%v: got %v %v and %v %v, want %v", d, grid, one, power, two, wanted)
			}
		}
		d.State, d.Speed = impl.DriveRunning, p.Most
		power, _ := impl.DrivePower(d)
		want(t, "what is given at the Most is Rated, nearly", power > 0.999999*p.Rated && power <= most, true)
	}
}

func TestPromise6RunsGiveNoMoreThanIsRated(t *testing.T) {
	n := noise(55)
	gave := 0
	for range 1500 {
		d := anyDrive(&n)
		d.Energy = 0
		winds, pulls := anyWinds(&n, impl.MaxRun), somePulls(&n, impl.MaxRun)
		tick := 0.3 + 0.29*n.between()
		end, states, ok := impl.RunDrive(d, winds, pulls, tick)
		counts, _ := impl.CountStates(states)
		share, known := impl.ShareOfRated(end, tick*impl.MaxRun)
		// Nothing is given but in the steps in which the drive runs.
		ran := float32(counts[impl.DriveRunning]) / impl.MaxRun
		if !ok || !known || share < 0 || share > ran*1.0001 {
			t.Fatalf("%v: got %v with the share %v, ran %v", d, end, share, ran)
		}
		if share > 0.01 {
			gave++
		}
	}
	want(t, "many drives have given something", gave > 300, true)
}

func TestPromise6HeldDrivesComeToRest(t *testing.T) {
	n := noise(56)
	for range 500 {
		d, ok := impl.HoldDrive(anyDrive(&n))
		want(t, "success", ok, true)
		energy := d.Energy
		for range 20 {
			speed := d.Speed
			end, states, ok := impl.RunDrive(d, anyWinds(&n, impl.MaxRun), somePulls(&n, impl.MaxRun), 0.5)
			counts, _ := impl.CountStates(states)
			want(t, "held all the while", ok && counts[impl.DriveHeld] == impl.MaxRun && end.Speed <= speed, true)
			d = end
		}
		want(t, "at rest, with its Energy", d.Speed == 0 && d.Pitch == 1 && d.Energy == energy, true)
		free, ok := impl.ReleaseDrive(d)
		want(t, "still", ok && free.State == impl.DriveStill, true)
	}
}

// wayFrom returns the shorter way from one turn to another one.
func wayFrom(from, to float64) float64 {
	way := to - from
	return way - math.Floor(way+0.5)
}

func TestPromise6YawsTurnIntoTheWind(t *testing.T) {
	n := noise(57)
	for range 30000 {
		yaw, wind := 3*n.between(), 3*n.between()
		rate, near := 0.2*abs(n.between()), 0.1*abs(n.between())
		got, ok := impl.YawStep(yaw, wind, rate, near)
		before, after := wayFrom(float64(yaw), float64(wind)), wayFrom(float64(got), float64(wind))
		turned := wayFrom(float64(yaw), float64(got))
		switch {
		case !ok || got < -0.5 || got >= 0.5:
			t.Fatalf("%v %v %v %v: got %v %v", yaw, wind, rate, near, got, ok)
		case math.Abs(before) < float64(near)-1e-5 && math.Abs(turned) > 1e-5,
			math.Abs(before) > float64(near)+1e-5 && math.Abs(math.Abs(turned)-min(float64(rate), math.Abs(before))) > 1e-5,
			math.Abs(after) > math.Abs(before)+1e-5, math.Abs(turned) > float64(rate)+1e-5:
			t.Fatalf("%v in %v with %v and %v: got %v, turned by %v from %v to %v", yaw, wind, rate, near, got, turned, before, after)
		}
	}
}

func TestPromise6YawsTurnByTheirRateAtMost(t *testing.T) {
	n := noise(58)
	for range 3000 {
		count := 1 + int(n.next()%impl.MaxRun)
		rate := 0.2 * abs(n.between())
		yaws, one := impl.RunYaw(n.between(), anyTurns(&n, count), rate, 0.02)
		turned, two := impl.TurnedBy(yaws)
		want(t, "turned by the rate in each step at most", one && two && turned >= 0 && turned <= rate*float32(count-1)+1e-3, true)
		// In a wind that stays, a rotor turns there the shorter way.
		wind := n.between()
		yaws, one = impl.RunYaw(0, slices.Repeat([]float32{wind}, impl.MaxRun), 0.0625, 0)
		turned, two = impl.TurnedBy(append([]float32{0}, yaws[:impl.MaxRun-1]...))
		far := wayFrom(0, float64(wind))
		if !one || !two || math.Abs(wayFrom(float64(yaws[impl.MaxRun-1]), far)) > 1e-5 || math.Abs(float64(turned)-math.Abs(far)) > 1e-5 {
			t.Fatalf("the wind %v: got %v, turned by %v", wind, yaws, turned)
		}
	}
}
