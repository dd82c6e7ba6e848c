package tests

import (
	"math"
	"slices"
	"testing"

	"loop.example/g01256/impl"
)

func toldFarm(f impl.Farm, ok bool) string {
	if !ok && !sameFarms(f, impl.Farm{}) {
		return "failed with a farm"
	}
	if !ok {
		return ""
	}
	return "told " + hexOf(f.X...) + ": " + hexOf(f.Y...) + ": " + hexOf(f.Radius, f.Draw, f.Spread)
}

func toldMove(f impl.Farm, move int64, ok bool) string {
	if !ok && move != 0 {
		return "failed with a move"
	}
	if !ok {
		return toldFarm(f, ok)
	}
	return toldFarm(f, ok) + toldIntegers(ok, move)
}

func toldNearest(i, k int64, distance float32, ok bool) string {
	if !ok && k != 0 {
		return "failed with a rotor"
	}
	return told(ok, i*100+k, distance)
}

// allOfFarm has what all functions with farms that can fail tell of one.
func allOfFarm(f impl.Farm, r impl.Rose, i int64, x, y, z float32) []string {
	return []string{
		toldFarm(impl.AddPlace(f, x, y)), toldFarm(impl.MovePlace(f, i, x, y)), toldFarm(impl.DropPlace(f, i)), toldNumber(impl.WakeAt(f, i, x, y, z)), toldNumber(impl.LossAt(f, x, y, z)),
		toldList(impl.SpeedsInFarm(f, x, z)), toldNumber(impl.PowerInFarm(f, x, y, z)), toldNumber(impl.FarmPower(f, r, y)), toldNumber(impl.FarmShared(f, r, y, 3)), toldNumber(impl.FarmShare(f, r)),
		toldNearest(impl.NearestPlaces(f)), toldMove(impl.BestMove(f, r, i, z, 100*x, y)), toldMove(impl.ImproveFarm(f, r, z, 100*x, y, 1)),
	}
}

// restOfFarms has what the other functions with farms tell.
func restOfFarms(f, g impl.Farm, r impl.Rose, count int64, x, y, z float32) []string {
	return []string{
		told(true, flag(impl.ValidFarm(f))), told(true, flag(impl.SameFarm(f, g))), toldFarm(impl.RowFarm(count, x, abs(y), abs(z), abs(x))), toldFarm(impl.RowFarm(count, x, f.Radius, f.Draw, f.Spread)),
		toldNumber(impl.FarmShared(f, r, 1, count)), toldNumber(impl.FarmShared(f, r, abs(y), count)), toldMove(impl.ImproveFarm(f, r, abs(x), abs(y), z, count%3)),
	}
}

// allOfBoat has what all functions with boats that can fail tell of one, on several headings.
func allOfBoat(p impl.Profile, b impl.Boat, wind complex64, heading float32, sheets []float32, speed float32) []string {
	out := []string{toldKnot(impl.BestSheet(p, b, wind, heading, sheets)), toldList(impl.PolarOf(p, b, wind, sheets, 3))}
	for _, sheet := range sheets {
		out = append(out, toldNumber(impl.DriveOfBoat(p, b, wind, heading, sheet, speed)), toldNumber(impl.SpeedOfBoat(p, b, wind, heading, sheet)))
	}
	return out
}

// anyFarm returns a valid farm with some rotors, if they are not too many, on a field of some size.
func anyFarm(n *noise, count int, size float32) impl.Farm {
	f := impl.Farm{Radius: 2.1 + 2*n.between(), Draw: 0.25 + 0.25*n.between(), Spread: 0.3 + 0.29*n.between()}
	for range count {
		f.X, f.Y = append(f.X, size*n.between()), append(f.Y, size*n.between())
	}
	return f
}

// farmsOf returns valid farms of all kinds, and all wrong ones.
func farmsOf(seed noise) []impl.Farm {
	list := append(wrongFarms(), someFarms()...)
	for count := 1; count <= impl.MaxRotors; count++ {
		list = append(list, anyFarm(&seed, count, 20), anyFarm(&seed, count, 5))
	}
	return list
}

func anyBoat(n *noise) impl.Boat {
	return impl.Boat{Area: 8 + 7.9*n.between(), Hull: 1.5 + 1.4*n.between()}
}

// anyBreeze returns a wind that goes anywhere.
func anyBreeze(n *noise) complex64 { return complex(10*n.between(), 10*n.between()) }

func TestPromise1FarmsReturnTheSameAgain(t *testing.T) {
	farms, roses := farmsOf(61), append(wrongRoses(), fiveSectors(), otherSectors(), fullRose(), oddRoses()[2])
	odd := append(oddNumbers(), 0.25, 3, -7, 100000)
	within(t, func() {
		wantToldAgain(t, len(farms), len(odd), func(i, j int) []string {
			f, g, r := farms[i], farms[(i+j)%len(farms)], roses[(3*i+j)%len(roses)]
			x, y, z := odd[j], odd[(i+3*j)%len(odd)], odd[(2*i+j)%len(odd)]
			at := int64(i+j)%14 - 1
			out := append(allOfFarm(f, r, at, x, y, z), restOfFarms(f, g, fiveSectors(), at, x, y, z)...)
			// Ordinary numbers but for one.
			return slices.Concat(out, allOfFarm(f, fiveSectors(), 0, x, 1, 3), allOfFarm(f, fiveSectors(), 0, 0.5, x, 3))
		})
	})
}

func TestPromise1BoatsReturnTheSameAgain(t *testing.T) {
	n := noise(62)
	profiles := append(wrongProfiles()[:9], slope(), wing(), otherWing(), plainSail(), failingWing(), tornWing())
	boats := append(wrongBoats(), oddBoats()...)
	for range 12 {
		boats = append(boats, anyBoat(&n))
	}
	odd := append(oddNumbers(), 0.25, 3, -7, 1e19)
	within(t, func() {
		wantToldAgain(t, len(boats), len(odd), func(i, j int) []string {
			p, b := profiles[(i+2*j)%len(profiles)], boats[i]
			x, y, z := odd[j], odd[(i+3*j)%len(odd)], odd[(2*i+j)%len(odd)]
			out := append(allOfBoat(p, b, complex(x, y), z, []float32{y, x}, z), told(true, flag(impl.ValidBoat(b))), toldKnot(impl.BestWindward([]float32{x, y, z}, complex(z, x))))
			// Ordinary numbers but for one.
			return slices.Concat(out, allOfBoat(wing(), b, complex(x, 3), 0.3, []float32{0.1}, 2), allOfBoat(wing(), b, 7, x, []float32{0.1}, 2), allOfBoat(p, b, 7, 0.3, []float32{x, 0.1}, 2), allOfBoat(wing(), b, 7, 0.3, nil, x))
		})
	})
}

// spareFarm returns a copy of a farm, whose lists have room behind them.
func spareFarm(f impl.Farm) impl.Farm {
	f.X, f.Y = spare(f.X, 77), spare(f.Y, 77)
	return f
}

// farmLeftAlone reports whether a farm has still its numbers, and what is in the room behind its lists.
func farmLeftAlone(got, wanted impl.Farm) bool {
	return sameFarms(got, wanted) && listLeftAlone(got.X, wanted.X) && listLeftAlone(got.Y, wanted.Y)
}

func TestPromise1FarmsAreLeftAlone(t *testing.T) {
	for k, f := range farmsOf(63) {
		a, r := spareFarm(f), spareRose(fullRose())
		for i := range int64(3) {
			at := (int64(k)+5*i)%13 - 1
			wanted := append(allOfFarm(f, fullRose(), at, 0.25, 1, 3), restOfFarms(f, park(), fullRose(), at, 3, 20, 1)...)
			got := append(allOfFarm(a, r, at, 0.25, 1, 3), restOfFarms(a, park(), r, at, 3, 20, 1)...)
			want(t, "the same with room behind the lists", slices.Equal(got, wanted), true)
		}
		if !farmLeftAlone(a, f) || !roseLeftAlone(r, fullRose()) {
			t.Fatalf("%v has changed", f)
		}
	}
}

func TestPromise1FarmsShareNoMemory(t *testing.T) {
	rose := fullRose()
	for what, do := range map[string]func(f impl.Farm) (impl.Farm, bool){
		"row":        func(f impl.Farm) (impl.Farm, bool) { return impl.RowFarm(3, 5, 1, 0.25, 0.5) },
		"add":        func(f impl.Farm) (impl.Farm, bool) { return impl.AddPlace(f, 5, 6) },
		"move":       func(f impl.Farm) (impl.Farm, bool) { return impl.MovePlace(f, 1, 5, 6) },
		"drop first": func(f impl.Farm) (impl.Farm, bool) { return impl.DropPlace(f, 0) },
		"drop last":  func(f impl.Farm) (impl.Farm, bool) { return impl.DropPlace(f, 4) },
		"best move": func(f impl.Farm) (impl.Farm, bool) {
			g, move, ok := impl.BestMove(f, rose, 1, 7.1, 80, 0)
			return g, ok && move > 0
		},
		"no move": func(f impl.Farm) (impl.Farm, bool) {
			g, move, ok := impl.BestMove(f, rose, 4, 7.1, 80, 0)
			return g, ok && move == 0
		},
		"rounds": func(f impl.Farm) (impl.Farm, bool) {
			g, moves, ok := impl.ImproveFarm(f, rose, 7.1, 80, 0, 2)
			return g, ok && moves > 0
		},
		"no rounds": func(f impl.Farm) (impl.Farm, bool) {
			g, _, ok := impl.ImproveFarm(f, rose, 7.1, 80, 0, 0)
			return g, ok
		},
		"rounds without moves": func(f impl.Farm) (impl.Farm, bool) {
			g, _, ok := impl.ImproveFarm(f, rose, 7.1, -1, 0, 2)
			return g, ok
		},
	} {
		f := spareFarm(park())
		kept := copyOfFarm(f)
		got, ok := do(f)
		want(t, what, ok, true)
		wanted := copyOfFarm(got)
		overwrite(got.X)
		want(t, what+": Y after new X", sameNumbers(got.Y, wanted.Y), true)
		overwrite(got.Y)
		want(t, what+": arguments after new results", farmLeftAlone(f, kept), true)
		again, ok := do(f)
		wantFarm(t, what+" again", again, ok, wanted)
		// Even where X and Y are one list, the lists of a result are two.
		f.Y = f.X
		got, _ = do(f)
		wanted = copyOfFarm(got)
		overwrite(got.X)
		want(t, what+": Y after new X, of one list", sameNumbers(got.Y, wanted.Y) && sameNumbers(f.X, kept.X), true)
	}
	speeds, _ := impl.SpeedsInFarm(park(), 0, 7.7)
	first := slices.Clone(speeds)
	overwrite(speeds)
	again, ok := impl.SpeedsInFarm(park(), 0, 7.7)
	wantLists(t, "speeds again", again, nil, ok, first, nil)
}

func TestPromise1SheetsAndPolarsAreLeftAlone(t *testing.T) {
	n := noise(64)
	for _, count := range []int{0, 1, 2, 7, impl.MaxKnots, impl.MaxKnots + 1, 64, 65} {
		list := anyTurns(&n, count)
		room, p, b := spare(list, 77), anyProfile(&n, 5), anyBoat(&n)
		q := spareProfile(p)
		got := append(allOfBoat(q, b, 7, 0.3, room, 2), toldKnot(impl.BestWindward(room, 7)))
		wanted := append(allOfBoat(p, b, 7, 0.3, list, 2), toldKnot(impl.BestWindward(list, 7)))
		want(t, "the same with room behind the lists", slices.Equal(got, wanted), true)
		want(t, "sheets, speeds and profiles are left alone", listLeftAlone(room, list) && leftAlone(q, p), true)
	}
	polar, _ := impl.PolarOf(wing(), sloop(), 7.7, sheets(), 9)
	overwrite(polar)
	again, ok := impl.PolarOf(wing(), sloop(), 7.7, sheets(), 9)
	wantLists(t, "a polar again", again, nil, ok, polarCases()[0].speeds, nil)
}

func TestPromise7WakesTakeAndNeverGive(t *testing.T) {
	n := noise(65)
	taken := 0
	for range 4000 {
		f := anyFarm(&n, 1+int(n.next()%impl.MaxRotors), 20)
		x, y, turn := 40*n.between(), 40*n.between(), 3*n.between()
		squares, most := 0.0, float32(0)
		for i := range f.X {
			wake, ok := impl.WakeAt(f, int64(i), x, y, turn)
			if !ok || !(wake >= 0 && wake <= 2*f.Draw) {
				t.Fatalf("%v: the wake of %v at %v and %v, to %v, is %v %v", f, i, x, y, turn, wake, ok)
			}
			squares += float64(wake) * float64(wake)
			most = max(most, wake)
		}
		loss, ok := impl.LossAt(f, x, y, turn)
		// All of them take at least as much as each of them.
		if !ok || !(loss >= 0 && loss <= 1) || math.Abs(float64(loss)-min(math.Sqrt(squares), 1)) > 1e-6 || float64(loss) < 0.999999*float64(most) {
			t.Fatalf("%v: the loss at %v and %v, to %v, is %v %v", f, x, y, turn, loss, ok)
		}
		speeds, ok := impl.SpeedsInFarm(f, turn, 9.3)
		want(t, "success", ok && len(speeds) == len(f.X), true)
		untouched := 0
		for i, speed := range speeds {
			loss, _ := impl.LossAt(f, f.X[i], f.Y[i], turn)
			if !(speed >= 0 && speed <= 9.3) || speed != 9.3*(1-loss) {
				t.Fatalf("%v: the speed at %v, to %v, is %v", f, i, turn, speed)
			}
			if speed == 9.3 {
				untouched++
			}
		}
		// A wind meets one rotor at least that is in no wake.
		want(t, "some rotor has the whole wind", untouched > 0, true)
		taken += len(f.X) - untouched
	}
	want(t, "many rotors are in wakes", taken > 4000, true)
}

func TestPromise7FarmsHaveNoMoreThanTheirRotorsAlone(t *testing.T) {
	n := noise(66)
	for range 400 {
		f, r := anyFarm(&n, 1+int(n.next()%impl.MaxRotors), 20), anyRose(&n, 1+int(n.next()%impl.MaxSectors))
		turn, speed := 3*n.between(), 10+10*n.between()
		var alone float32
		for i := range f.X {
			one := f
			one.X, one.Y = f.X[i:i+1], f.Y[i:i+1]
			power, ok := impl.PowerInFarm(one, turn, speed, 1.2)
			want(t, "success", ok, true)
			alone += power
		}
		power, ok := impl.PowerInFarm(f, turn, speed, 1.2)
		if !ok || power < 0 || power > alone*1.00001 {
			t.Fatalf("%v: the power to %v of %v is %v %v, alone %v", f, turn, speed, power, ok, alone)
		}
		share, ok := impl.FarmShare(f, r)
		if !ok || share < 0 || share > 1.00001 {
			t.Fatalf("%v in %v: the share is %v %v", f, r, share, ok)
		}
		// Without one of its rotors, a farm has less, but each other rotor has no less.
		if len(f.X) > 1 {
			less, _ := impl.DropPlace(f, 0)
			all, one := impl.SpeedsInFarm(f, turn, speed)
			others, two := impl.SpeedsInFarm(less, turn, speed)
			want(t, "success", one && two, true)
			for i, other := range others {
				want(t, "no wind is given", other >= all[i+1]*0.999999, true)
			}
		}
	}
}

func TestPromise7AnyWorkersMakeTheSame(t *testing.T) {
	n := noise(67)
	for range 150 {
		f := anyFarm(&n, 1+int(n.next()%impl.MaxRotors), 15)
		for count := 1; count <= impl.MaxSectors; count += 3 {
			r := anyRose(&n, count)
			density := 1 + n.between()
			power, ok := impl.FarmPower(f, r, density)
			want(t, "success", ok, true)
			// The sum in the order of the sectors.
			var sum float32
			for k, share := range r.Shares {
				one, _ := impl.PowerInFarm(f, float32(k)/float32(count), r.Speeds[k], density)
				sum += float32(share * one)
			}
			wantBits(t, "the power of all sectors", power, bitsOf(sum))
			for workers := int64(1); workers <= impl.MaxWorkers; workers++ {
				shared, ok := impl.FarmShared(f, r, density, workers)
				wantNumber(t, "the power of workers", shared, ok, bitsOf(power))
			}
		}
	}
}

func TestPromise7MovesGiveMorePower(t *testing.T) {
	n := noise(68)
	moved := 0
	for range 60 {
		f, r := anyFarm(&n, 2+int(n.next()%8), 10), anyRose(&n, 4)
		for i := range f.X {
			f.X[i], f.Y[i] = f.X[i]+12, f.Y[i]+12
		}
		i := int64(n.next() % uint32(len(f.X)))
		before, _ := impl.FarmPower(f, r, 1)
		g, move, ok := impl.BestMove(f, r, i, 1.5, 24, 0.5)
		after, two := impl.FarmPower(g, r, 1)
		if !ok || !two || move > 0 != (after > before) || move == 0 != sameFarms(f, g) {
			t.Fatalf("%v: got the move %v to %v %v, with %v, before %v", f, move, g, ok, after, before)
		}
		if _, _, distance, _ := impl.NearestPlaces(g); move > 0 {
			moved++
			if distance < 0.5 || !(g.X[i] >= 0 && g.X[i] <= 24 && g.Y[i] >= 0 && g.Y[i] <= 24) {
				t.Fatalf("%v: a move to a place at which no rotor may be: %v", f, g)
			}
		}
		better, moves, ok := impl.ImproveFarm(f, r, 1.5, 24, 0.5, 10)
		end, _ := impl.FarmPower(better, r, 1)
		want(t, "rounds give more power, if there are any moves", ok && moves > 0 == (end > before), true)
	}
	want(t, "many rotors have moved", moved > 20, true)
}

func TestPromise7BoatsAreDrivenNoMoreAtTheirSpeed(t *testing.T) {
	n := noise(69)
	driven := 0
	for range 1500 {
		p, b := anyProfile(&n, 3+int(n.next()%6)), anyBoat(&n)
		wind, heading, sheet := anyBreeze(&n), n.between(), n.between()
		speed, ok := impl.SpeedOfBoat(p, b, wind, heading, sheet)
		if !ok || !(speed >= 0 && speed <= 64) {
			t.Fatalf("%v, %v, %v, %v: got the speed %v %v", b, wind, heading, sheet, speed, ok)
		}
		// Up to its speed, the boat is driven, and not any more just beyond it.
		beyond := speed + max(speed*1e-6, 1e-6)
		at, one := impl.DriveOfBoat(p, b, wind, heading, sheet, speed)
		behind, two := impl.DriveOfBoat(p, b, wind, heading, sheet, beyond)
		if !one || !two || speed > 0 && !(at > 0) {
			t.Fatalf("%v, %v, %v, %v: the drive at %v is %v %v", b, wind, heading, sheet, speed, at, one)
		}
		if behind > 0 && !drivenAgain(p, b, wind, heading, sheet, speed) {
			t.Fatalf("%v, %v, %v, %v: the drive beyond %v is %v", b, wind, heading, sheet, speed, behind)
		}
		if speed > 0 {
			driven++
		}
	}
	want(t, "many boats are driven", driven > 300, true)
}

// drivenAgain reports whether the drive is nothing or less at one of the next numbers behind a speed.
func drivenAgain(p impl.Profile, b impl.Boat, wind complex64, heading, sheet, speed float32) bool {
	for range 20 {
		speed = above(speed)
		if drive, ok := impl.DriveOfBoat(p, b, wind, heading, sheet, speed); ok && drive <= 0 {
			return true
		}
	}
	return false
}

func TestPromise7SheetsAndHeadingsAreTheBest(t *testing.T) {
	n := noise(70)
	for range 60 {
		p, b, wind := anyProfile(&n, 5), anyBoat(&n), anyBreeze(&n)
		list := anyTurns(&n, 1+int(n.next()%6))
		polar, ok := impl.PolarOf(p, b, wind, list, 8)
		want(t, "success", ok, true)
		at, most, ok := impl.BestWindward(polar, wind)
		want(t, "success", ok, true)
		length := math.Hypot(float64(real(wind)), float64(imag(wind)))
		for k, speed := range polar {
			for _, sheet := range list {
				x, ok := impl.SpeedOfBoat(p, b, wind, float32(k)/8, sheet)
				want(t, "no sheet is better", ok && x <= speed, true)
			}
			angle := 2 * math.Pi * float64(k) / 8
			against := -float64(speed) * (math.Cos(angle)*float64(real(wind)) + math.Sin(angle)*float64(imag(wind))) / length
			if against > float64(most)+1e-4 || int64(k) == at && math.Abs(against-float64(most)) > 1e-4 {
				t.Fatalf("%v in %v: got %v with %v, but %v has %v", polar, wind, at, most, k, against)
			}
		}
	}
}
