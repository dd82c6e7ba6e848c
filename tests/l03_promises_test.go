package tests

import (
	"math"
	"slices"
	"strconv"
	"testing"

	"loop.example/g01256/impl"
)

func toldRotor(r impl.Rotor, ok bool) string {
	if !ok && !sameRotors(r, impl.Rotor{}) {
		return "failed with a rotor"
	}
	if !ok {
		return ""
	}
	return toldProfile(r.Profile, true) + told(true, r.Count, numbersOf(r)...)
}

func toldTwo(x, y float32, ok bool) string { return told(ok, 0, x, y) }

func toldLists(x, y []float32, ok bool) string {
	if !ok && len(x)+len(y) > 0 {
		return "failed with lists"
	}
	return told(ok, int64(len(x)), slices.Concat(x, y)...)
}

func toldList(x []float32, ok bool) string { return toldLists(x, nil, ok) }

// oneStation returns a station of a rotor, or any if it has none.
func oneStation(r impl.Rotor, i int64) impl.Station {
	if i < 0 || i >= int64(len(r.Stations)) {
		return impl.Station{Radius: 1, Chord: 1}
	}
	return r.Stations[i]
}

// allOfRotor has what all functions with a rotor that can fail tell of one.
func allOfRotor(r impl.Rotor, i int64, wind, speed, pitch, density float32) []string {
	return []string{
		toldRotor(impl.SetStation(r, i, oneStation(r, i))), toldRotor(impl.TwistRotor(r, pitch)), toldRotor(impl.ScaleRotor(r, speed)),
		toldNumber(impl.SolidityAt(r, i)), toldNumber(impl.TipShareAt(r, i, 0.1)), toldTwo(impl.PushesAt(r, i, 0.1, pitch)), toldNumber(impl.BalanceOf(r, i, 0.1, wind, speed, pitch)),
		toldNumber(impl.FlowAt(r, i, wind, speed, pitch)), toldTwo(impl.InductionAt(r, i, wind, speed, pitch)), toldTwo(impl.StationForces(r, i, wind, speed, pitch, density)),
		toldLists(impl.ForcesOfRotor(r, wind, speed, pitch, density)), toldLists(impl.ForcesShared(r, wind, speed, pitch, density, 3)),
		toldNumber(impl.ThrustOf(r, wind, speed, pitch, density)), toldNumber(impl.TorqueOf(r, wind, speed, pitch, density)),
		toldNumber(impl.BendingOf(r, wind, speed, pitch, density)), toldNumber(impl.RotorPower(r, wind, speed, pitch, density)),
		toldNumber(impl.WindThrough(r, wind, density)), toldNumber(impl.TipRatio(r, wind, speed)), toldList(impl.PowerCurve(r, []float32{wind, 1}, speed, pitch, density)),
		toldKnot(impl.BestTwist(r, wind, speed, []float32{pitch, 0}, density)), toldKnot(impl.BestSpeed(r, wind, []float32{speed, 1}, pitch, density)),
	}
}

// restOfRotors has what the other functions of the chapter tell.
func restOfRotors(r, q impl.Rotor, i int64, x, y float32) []string {
	even, ok := impl.EvenRotor(r.Profile, r.Count, int64(len(r.Stations)), r.Hub, r.Tip, abs(x), y)
	push, pull, two := impl.PushesAt(r, i, x, y)
	return []string{
		toldRotor(even, ok), told(true, flag(impl.ValidRotor(r))), told(true, flag(impl.SameRotor(r, q))), toldNumber(impl.TipShareAt(r, i, x)), toldTwo(push, pull, two),
		toldNumber(impl.BalanceOf(r, i, x, 1, 1, y)), toldRotor(impl.SetStation(r, i, impl.Station{Radius: x, Chord: y, Twist: x})), toldLists(impl.ForcesShared(r, 2, 1, y, 1, i)),
	}
}

// anyRotor returns a valid rotor with some stations, if they are not too many.
func anyRotor(n *noise, stations int) impl.Rotor {
	r := impl.Rotor{Profile: anyProfile(n, 2+stations), Count: 1 + int64(n.next()%impl.MaxBlades), Hub: 1 + n.between(), Tip: 9 + 3*n.between()}
	for k := range stations {
		radius := r.Hub + (r.Tip-r.Hub)*(float32(k)+0.5+0.4*n.between())/float32(stations)
		r.Stations = append(r.Stations, impl.Station{Radius: radius, Chord: 0.6 + 0.5*n.between(), Twist: 0.1 * n.between()})
	}
	return r
}

// someRotors returns valid rotors of any size, and all wrong ones.
func someRotors(seed noise) []impl.Rotor {
	list := append(wrongRotors(), mill(), fullMill(), failingAt(mill(), 1))
	for _, x := range nums(plusZero, leastSub, leastNorm, 0x3f800000, greatest) {
		list = append(list, smallMill(x, x), smallMill(-x, 0))
	}
	for size := 2; size <= impl.MaxStations; size++ {
		list = append(list, anyRotor(&seed, size))
	}
	return list
}

func TestPromise1RotorsReturnTheSameAgain(t *testing.T) {
	rotors := someRotors(21)
	odd := nums(plusZero, minusZero, leastSub, leastNorm, leastFlow, greatestFlow, 0x3f800000, 0xbf800000, 0x3dcccccd, greatest, plusInf, minusInf, aNaN)
	even := []float32{2, 0.7, 0.1, 1.3}
	within(t, func() {
		all := func(i, j int) []string {
			r, q := rotors[i], rotors[(i+j)%len(rotors)]
			// One argument is an odd number at a time, and then all of them.
			args := slices.Clone(even)
			for k := range args {
				if k == j%5 || j%5 == 4 {
					args[k] = odd[(i+j+k)%len(odd)]
				}
			}
			at := int64((i+j)%7) - 1
			return append(allOfRotor(r, at, args[0], args[1], args[2], args[3]), restOfRotors(r, q, at, odd[j], args[2])...)
		}
		wantToldAgain(t, len(rotors), len(odd), all)
	})
}

// spareRotor returns a copy of a rotor, whose lists have room behind them.
func spareRotor(r impl.Rotor) impl.Rotor {
	r.Profile = spareProfile(r.Profile)
	r.Stations = spare(r.Stations, impl.Station{Radius: 77, Chord: 77, Twist: 77})
	return r
}

// rotorLeftAlone reports whether a rotor has still its numbers, and what is in the room behind its lists.
func rotorLeftAlone(got, wanted impl.Rotor) bool {
	behind := spareRotor(wanted).Stations[:len(wanted.Stations)+4]
	now := impl.Rotor{Stations: got.Stations[:len(got.Stations)+4]}
	return leftAlone(got.Profile, wanted.Profile) && sameRotors(got, wanted) && sameNumbers(numbersOf(now), numbersOf(impl.Rotor{Stations: behind}))
}

func TestPromise1RotorsAreLeftAlone(t *testing.T) {
	n := noise(22)
	for k, r := range someRotors(23) {
		a, b := spareRotor(r), spareRotor(mill())
		at, pitch := int64(k%4), n.between()
		wanted := append(allOfRotor(r, at, 2, 0.7, pitch, 1), restOfRotors(r, mill(), at, 0.2, 0.1)...)
		got := append(allOfRotor(a, at, 2, 0.7, pitch, 1), restOfRotors(a, b, at, 0.2, 0.1)...)
		want(t, "the same with room behind the lists", slices.Equal(got, wanted), true)
		if !rotorLeftAlone(a, r) || !rotorLeftAlone(b, mill()) {
			t.Fatalf("%v has changed", r)
		}
	}
	numbers := []float32{0.3, 0.1, 0.2}
	room := spare(numbers, 77)
	_, one := impl.PowerCurve(mill(), room, 1, 0, 1)
	_, _, two := impl.BestTwist(mill(), 2, 1, room, 1)
	_, _, three := impl.BestSpeed(mill(), 2, room, 0, 1)
	want(t, "success", one && two && three, true)
	want(t, "winds, pitches and speeds are left alone", slices.Equal(room[:7], append(numbers, 77, 77, 77, 77)), true)
}

func overwriteStations(list []impl.Station) {
	all := list[:cap(list)]
	for i := range all {
		all[i] = impl.Station{Radius: 55, Chord: 55, Twist: 55}
	}
}

func TestPromise1RotorsShareNoMemory(t *testing.T) {
	for what, do := range map[string]func(r impl.Rotor) (impl.Rotor, bool){
		"even": func(r impl.Rotor) (impl.Rotor, bool) { return impl.EvenRotor(r.Profile, 2, 4, 1, 9, 0.5, 0) },
		"set first": func(r impl.Rotor) (impl.Rotor, bool) {
			return impl.SetStation(r, 0, impl.Station{Radius: 0.5, Chord: 1})
		},
		"set last": func(r impl.Rotor) (impl.Rotor, bool) {
			return impl.SetStation(r, 3, impl.Station{Radius: 6, Chord: 1})
		},
		"twist": func(r impl.Rotor) (impl.Rotor, bool) { return impl.TwistRotor(r, 0) },
		"scale": func(r impl.Rotor) (impl.Rotor, bool) { return impl.ScaleRotor(r, 1) },
	} {
		// The lists of the profile share memory with one another.
		r := spareRotor(mill())
		r.Profile.Lifts = r.Profile.Drags
		kept := copyOf(r)
		wanted, ok := do(kept)
		want(t, what, ok, true)
		wanted = copyOf(wanted)
		got, ok := do(r)
		wantRotor(t, what, got, ok, wanted)
		overwriteStations(got.Stations)
		want(t, what+": profile after new stations", sameProfiles(got.Profile, wanted.Profile), true)
		overwrite(got.Profile.Lifts)
		want(t, what+": drags after new lifts", sameNumbers(got.Profile.Drags, wanted.Profile.Drags), true)
		overwrite(got.Profile.Angles)
		overwrite(got.Profile.Drags)
		want(t, what+": arguments after new results", rotorLeftAlone(r, kept), true)
		again, ok := do(r)
		wantRotor(t, what+" again", again, ok, wanted)
	}
}

func TestPromise1ForcesShareNoMemory(t *testing.T) {
	for workers := range int64(impl.MaxWorkers + 1) {
		forces := func() ([]float32, []float32, bool) {
			if workers == 0 {
				return impl.ForcesOfRotor(fullMill(), 3, 1, 0.1, 1)
			}
			return impl.ForcesShared(fullMill(), 3, 1, 0.1, 1, workers)
		}
		pushes, pulls, _ := forces()
		first, second := slices.Clone(pushes), slices.Clone(pulls)
		overwrite(pushes)
		want(t, "pulls after new pushes", sameNumbers(pulls, second), true)
		overwrite(pulls)
		pushes, pulls, ok := forces()
		wantLists(t, "forces again", pushes, pulls, ok, first, second)
	}
	winds := []float32{1, 2, 3}
	got, _ := impl.PowerCurve(mill(), winds, 1, 0, 1)
	kept := slices.Clone(got)
	overwrite(got)
	want(t, "winds after new powers", slices.Equal(winds, []float32{1, 2, 3}), true)
	got, ok := impl.PowerCurve(mill(), winds, 1, 0, 1)
	want(t, "powers again", ok && sameNumbers(got, kept), true)
}

// courseOf returns a wind, a speed and a pitch.
func courseOf(n *noise) (float32, float32, float32) {
	return 4 + 3.9*n.between(), 1 + 0.95*n.between(), 0.3 * n.between()
}

func TestPromise4FlowsAreToldWhereBalancesAreNotGreater(t *testing.T) {
	n := noise(24)
	inside := 0
	for k := range 600 {
		r := anyRotor(&n, 2+k%(impl.MaxStations-1))
		wind, speed, pitch := courseOf(&n)
		for i := range int64(len(r.Stations)) {
			flow, ok := impl.FlowAt(r, i, wind, speed, pitch)
			balance, known := impl.BalanceOf(r, i, flow, wind, speed, pitch)
			if !ok || !known || bitsOf(flow) != leastFlow && balance > 0 {
				t.Fatalf("%v, station %v, wind %v, speed %v, pitch %v: got %v %v, with the balance %v %v", r, i, wind, speed, pitch, flow, ok, balance, known)
			}
			if bitsOf(flow) != leastFlow {
				inside++
			}
			// Just above, the balance is greater than nothing, or there is no flow any more.
			if !endsAbove(r, i, flow, wind, speed, pitch) {
				t.Fatalf("%v, station %v, wind %v, speed %v, pitch %v: the balance is not greater above %v", r, i, wind, speed, pitch, flow)
			}
		}
	}
	want(t, "most flows are not at their bound", inside > 3000, true)
}

// endsAbove reports whether flows that are nearer than two of the last halves are above the greatest flow, or one has a balance greater than nothing.
func endsAbove(r impl.Rotor, i int64, flow, wind, speed, pitch float32) bool {
	for x := flow; x <= flow+0x1p-24; x = math.Nextafter32(x, 1) {
		if balance, _ := impl.BalanceOf(r, i, x, wind, speed, pitch); balance > 0 || x >= num(greatestFlow) {
			return true
		}
	}
	return false
}

// flowOf finds a flow by the balances that the program tells, with each step as the document tells it.
func flowOf(r impl.Rotor, i int64, wind, speed, pitch float32) (float32, bool) {
	low, high := num(leastFlow), num(greatestFlow)
	for range 24 {
		x := float32(low+high) / 2
		balance, ok := impl.BalanceOf(r, i, x, wind, speed, pitch)
		switch {
		case !ok:
			return 0, false
		case balance > 0:
			high = x
		default:
			low = x
		}
	}
	return low, true
}

// meetingOf returns the document's k and m, made of what the program tells at a flow.
func meetingOf(r impl.Rotor, i int64, flow, pitch float32) (float32, float32) {
	solidity, _ := impl.SolidityAt(r, i)
	share, _ := impl.TipShareAt(r, i, flow)
	push, pull, _ := impl.PushesAt(r, i, flow, pitch)
	s, c := sines(flow)
	return float32(solidity*push) / float32(float32(float32(4*share)*s)*s), float32(solidity*pull) / float32(float32(float32(4*share)*s)*c)
}

func TestPromise4StationsAreToldAtTheirFlows(t *testing.T) {
	n := noise(25)
	for range 300 {
		r := anyRotor(&n, 2+int(n.next()%(impl.MaxStations-1)))
		wind, speed, pitch := courseOf(&n)
		i := int64(n.next() % uint32(len(r.Stations)))
		flow, ok := flowOf(r, i, wind, speed, pitch)
		got, known := impl.FlowAt(r, i, wind, speed, pitch)
		want(t, "success", ok && known, true)
		wantBits(t, "flow by balances", got, bitsOf(flow))
		k, m := meetingOf(r, i, flow, pitch)
		s, c := sines(flow)
		radius, chord := r.Stations[i].Radius, r.Stations[i].Chord
		balance, _ := impl.BalanceOf(r, i, flow, wind, speed, pitch)
		wantBits(t, "balance", balance, bitsOf(float32(s*(1+k))-float32(float32(wind/float32(speed*radius)*c)*(1-m))))
		slowed, turned, ok := impl.InductionAt(r, i, wind, speed, pitch)
		wantTwo(t, "induction", slowed, turned, ok, bitsOf(k/(1+k)), bitsOf(m/(1-m)))
		push, pull, _ := impl.PushesAt(r, i, flow, pitch)
		u, v := wind/(1+k), float32(speed*radius)/(1-m)
		q := 0.5 * 1.3 * (float32(u*u) + float32(v*v)) * chord
		one, two, ok := impl.StationForces(r, i, wind, speed, pitch, 1.3)
		wantTwo(t, "forces", one, two, ok, bitsOf(q*push), bitsOf(q*pull))
	}
}

func TestPromise4AnyNumberOfWorkersTellsTheSameForces(t *testing.T) {
	n := noise(26)
	rotors := append(someRotors(27), failingAt(fullMill(), 0), failingAt(fullMill(), impl.MaxStations-1))
	for k := range 60 {
		rotors = append(rotors, anyRotor(&n, 2+k%(impl.MaxStations-1)))
	}
	for k, r := range rotors {
		wind, speed, pitch := courseOf(&n)
		if k%5 == 0 {
			pitch = num(greatest)
		}
		wanted := toldLists(impl.ForcesOfRotor(r, wind, speed, pitch, 1.2))
		for workers := int64(1); workers <= impl.MaxWorkers; workers++ {
			want(t, "forces by "+strconv.FormatInt(workers, 10), toldLists(impl.ForcesShared(r, wind, speed, pitch, 1.2, workers)), wanted)
		}
		pushes, pulls, ok := impl.ForcesOfRotor(r, wind, speed, pitch, 1.2)
		for i := range pushes {
			one, two, known := impl.StationForces(r, int64(i), wind, speed, pitch, 1.2)
			wantTwo(t, "forces of a station", one, two, ok && known, bitsOf(pushes[i]), bitsOf(pulls[i]))
		}
		want(t, "all stations", !ok || len(pushes) == len(r.Stations) && len(pulls) == len(r.Stations), true)
	}
}

func TestPromise4ManyCallsAtOnce(t *testing.T) {
	wanted := toldLists(impl.ForcesOfRotor(fullMill(), 3, 1, 0.1, 1))
	done := make(chan string)
	const callers = 16
	for k := range callers {
		go func() {
			for range 20 {
				if got := toldLists(impl.ForcesShared(fullMill(), 3, 1, 0.1, 1, int64(1+k%impl.MaxWorkers))); got != wanted {
					done <- got
					return
				}
			}
			done <- wanted
		}()
	}
	for range callers {
		want(t, "forces", <-done, wanted)
	}
}
