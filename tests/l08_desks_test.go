package tests

import (
	"testing"

	"loop.example/g01256/impl"
)

func deskOf(r impl.Rotor, a impl.Air, d impl.Drive, f impl.Farm) impl.Desk {
	return impl.Desk{Rotor: r, Air: a, Drive: d, Farm: f}
}

// workshop has ordinary numbers, none of which is that of a new desk.
func workshop() impl.Desk { return deskOf(mill(), breeze(), running(grinder(), 1.5), park()) }

// fullDesk has as much of everything as there can be.
func fullDesk() impl.Desk {
	return deskOf(changed(fullMill(), func(r *impl.Rotor) { r.Profile = rightProfiles()[4] }), gale(), driveOf(simple(), impl.DriveHeld, 0, 0.5, 7), crowd())
}

// bareDesk has zeros with signs wherever it can, and just one rotor in its farm.
func bareDesk() impl.Desk {
	zero := num(minusZero)
	r := changed(smallMill(zero, zero), func(r *impl.Rotor) { r.Hub, r.Stations[0].Twist = zero, zero })
	return deskOf(r, plain(zero, zero), driveOf(withPlace(simple(), 1, zero), impl.DriveStill, zero, zero, zero), changedFarm(farmAt([]float32{zero}, []float32{zero}), func(f *impl.Farm) { f.Draw = zero }))
}

// rightDesks returns valid desks of all kinds.
func rightDesks() []impl.Desk {
	rotors, air, drives, farms := rightRotors(), rightAir(), rightDrives(), rightFarms()
	list := []impl.Desk{impl.NewDesk(), workshop(), fullDesk(), bareDesk()}
	for i := range len(drives) {
		list = append(list, deskOf(rotors[i%len(rotors)], air[i%len(air)], drives[i], farms[i%len(farms)]))
	}
	return list
}

// wrongDesks returns desks of which one part is not valid, or more.
func wrongDesks() []impl.Desk {
	list := []impl.Desk{{}}
	for _, r := range wrongRotors() {
		list = append(list, deskOf(r, breeze(), running(grinder(), 1.5), park()))
	}
	for _, a := range wrongAir() {
		list = append(list, deskOf(mill(), a, running(grinder(), 1.5), park()))
	}
	for _, d := range wrongDrives() {
		list = append(list, deskOf(mill(), breeze(), d, park()))
	}
	for _, f := range wrongFarms() {
		list = append(list, deskOf(mill(), breeze(), running(grinder(), 1.5), f))
	}
	return append(list,
		deskOf(mill(), impl.Air{}, impl.Drive{}, impl.Farm{}), deskOf(impl.Rotor{}, breeze(), impl.Drive{}, impl.Farm{}),
		deskOf(impl.Rotor{}, impl.Air{}, running(grinder(), 1.5), impl.Farm{}), deskOf(impl.Rotor{}, impl.Air{}, impl.Drive{}, park()),
	)
}

func sameDesks(a, b impl.Desk) bool {
	return sameRotors(a.Rotor, b.Rotor) && toldAir(a.Air, true) == toldAir(b.Air, true) && sameDrives(a.Drive, b.Drive) && sameFarms(a.Farm, b.Farm)
}

func wantDesk(t *testing.T, what string, got impl.Desk, ok bool, wanted impl.Desk) {
	t.Helper()
	if !ok || !sameDesks(got, wanted) {
		t.Errorf("%s: got %v %v, want %v", what, got, ok, wanted)
	}
}

func wantNoDesk(t *testing.T, what string, got impl.Desk, ok bool) {
	t.Helper()
	if ok || !sameDesks(got, impl.Desk{}) {
		t.Errorf("%s: got %v %v, want none", what, got, ok)
	}
}

func copyOfDesk(d impl.Desk) impl.Desk {
	d.Rotor, d.Farm = copyOf(d.Rotor), copyOfFarm(d.Farm)
	return d
}

func TestNewDesk(t *testing.T) {
	d := impl.NewDesk()
	plate, _ := impl.PlateProfile(9)
	stations := []impl.Station{{Radius: 2, Chord: 0.5, Twist: 0.0625}, {Radius: 4, Chord: 0.5, Twist: 0.0625}, {Radius: 6, Chord: 0.5, Twist: 0.0625}, {Radius: 8, Chord: 0.5, Twist: 0.0625}}
	wantDesk(t, "a new desk", d, true, deskOf(
		impl.Rotor{Profile: plate, Stations: stations, Count: 3, Hub: 1, Tip: 9},
		impl.Air{Density: 1, Height: 10, Speed: 8, Shear: 0.25},
		driveOf(impl.Plant{Inertia: 1, Drag: 0.25, Rated: 2, Least: 0.5, Most: 2, Start: 1, Cut: 4, Ease: 0.5}, impl.DriveStill, 0, 1, 0),
		impl.Farm{X: []float32{0, 4}, Y: []float32{0, 0}, Radius: 1, Draw: 0.25, Spread: 0.125},
	))
	want(t, "the first angle", d.Rotor.Profile.Angles[0], -0.5)
	want(t, "nine knots", len(d.Rotor.Profile.Angles), 9)
	want(t, "a new desk is valid", impl.ValidDesk(d), true)
}

func TestDesksAreValidWithAllOfTheirParts(t *testing.T) {
	for _, d := range rightDesks() {
		if !impl.ValidDesk(d) {
			t.Errorf("%v: want it to be valid", d)
		}
	}
	for _, d := range wrongDesks() {
		if impl.ValidDesk(d) {
			t.Errorf("%v: want it not to be valid", d)
		}
	}
}

// placesOfDesk returns where all numbers of a desk are.
func placesOfDesk(d *impl.Desk) []*float32 {
	var list []*float32
	for _, numbers := range [][]float32{d.Rotor.Profile.Angles, d.Rotor.Profile.Lifts, d.Rotor.Profile.Drags, d.Farm.X, d.Farm.Y} {
		for i := range numbers {
			list = append(list, &numbers[i])
		}
	}
	for i := range d.Rotor.Stations {
		s := &d.Rotor.Stations[i]
		list = append(list, &s.Radius, &s.Chord, &s.Twist)
	}
	list = append(list, &d.Rotor.Hub, &d.Rotor.Tip, &d.Drive.Speed, &d.Drive.Pitch, &d.Drive.Energy, &d.Farm.Radius, &d.Farm.Draw, &d.Farm.Spread)
	return append(append(list, placesOfAir(&d.Air)...), placesOfPlant(&d.Drive.Plant)...)
}

// changedDesk returns a desk in new memory in which something is changed.
func changedDesk(d impl.Desk, do func(d *impl.Desk)) impl.Desk {
	d = copyOfDesk(d)
	do(&d)
	return d
}

func wantSameDesk(t *testing.T, a, b impl.Desk, wanted bool) {
	t.Helper()
	if impl.SameDesk(a, b) != wanted || impl.SameDesk(b, a) != wanted {
		t.Errorf("%v and %v: want %v", a, b, wanted)
	}
}

func TestDesksDifferInEachNumber(t *testing.T) {
	odd := nums(plusZero, minusZero, 0x3f800000, leastSub, plusInf, minusInf, aNaN)
	for _, d := range []impl.Desk{impl.NewDesk(), workshop(), bareDesk()} {
		for i := range placesOfDesk(&d) {
			for _, x := range odd {
				for _, y := range odd {
					a := changedDesk(d, func(d *impl.Desk) { *placesOfDesk(d)[i] = x })
					b := changedDesk(d, func(d *impl.Desk) { *placesOfDesk(d)[i] = y })
					wantSameDesk(t, a, b, bitsOf(x) == bitsOf(y))
				}
			}
			// All not-a-numbers are one value.
			a := changedDesk(d, func(d *impl.Desk) { *placesOfDesk(d)[i] = num(0x7f800001) })
			b := changedDesk(d, func(d *impl.Desk) { *placesOfDesk(d)[i] = num(0xffffffff) })
			wantSameDesk(t, a, b, true)
			wantSameDesk(t, a, d, false)
		}
	}
}

func TestDesksDifferInOtherParts(t *testing.T) {
	d := workshop()
	for _, do := range []func(d *impl.Desk){
		func(d *impl.Desk) { d.Rotor.Count = 4 }, func(d *impl.Desk) { d.Rotor.Count = -3 }, func(d *impl.Desk) { d.Drive.State = impl.DriveHeld }, func(d *impl.Desk) { d.Drive.State = 77 },
		func(d *impl.Desk) { d.Rotor.Profile.Angles = d.Rotor.Profile.Angles[:6] }, func(d *impl.Desk) { d.Rotor.Profile.Lifts = nil }, func(d *impl.Desk) { d.Rotor.Profile.Drags = append(d.Rotor.Profile.Drags, 1) },
		func(d *impl.Desk) { d.Rotor.Stations = d.Rotor.Stations[:3] }, func(d *impl.Desk) { d.Farm.X = d.Farm.X[:4] }, func(d *impl.Desk) { d.Farm.Y = append(d.Farm.Y, 0) },
		func(d *impl.Desk) { d.Rotor = impl.Rotor{} }, func(d *impl.Desk) { d.Air = impl.Air{} }, func(d *impl.Desk) { d.Drive = impl.Drive{} }, func(d *impl.Desk) { d.Farm = impl.Farm{} },
		func(d *impl.Desk) { d.Rotor = fullMill() }, func(d *impl.Desk) { d.Air = gale() }, func(d *impl.Desk) { d.Drive = running(grinder(), 1.25) }, func(d *impl.Desk) { d.Farm = crowd() },
	} {
		other := changedDesk(d, do)
		wantSameDesk(t, d, other, false)
		wantSameDesk(t, other, changedDesk(d, do), true)
	}
	for _, list := range [][]impl.Desk{rightDesks(), wrongDesks()} {
		for i, d := range list {
			wantSameDesk(t, d, copyOfDesk(d), true)
			other := list[(i+1)%len(list)]
			wantSameDesk(t, d, other, sameDesks(d, other))
		}
	}
	empty := deskOf(impl.Rotor{Stations: []impl.Station{}, Profile: impl.Profile{Lifts: []float32{}}}, impl.Air{}, impl.Drive{}, farmAt([]float32{}, nil))
	empty.Farm.Radius, empty.Farm.Draw, empty.Farm.Spread = 0, 0, 0
	wantSameDesk(t, empty, impl.Desk{}, true)
}
