package tests

import (
	"math"
	"slices"
	"testing"

	"loop.example/g01256/impl"
)

// The expected bits in the tables of this chapter were computed from the document by a second implementation, in another language.

// mill is a rotor without any simple number.
func mill() impl.Rotor {
	return impl.Rotor{
		Profile:  wing(),
		Stations: []impl.Station{{Radius: 0.9, Chord: 0.41, Twist: 0.021}, {Radius: 2.13, Chord: 0.37, Twist: -0.013}, {Radius: 3.71, Chord: 0.29, Twist: -0.04}, {Radius: 5.9, Chord: 0.17, Twist: -0.06}},
		Count:    3, Hub: 0.35, Tip: 6.2,
	}
}

// fullMill has as many blades and stations as there can be.
func fullMill() impl.Rotor {
	r := impl.Rotor{Profile: otherWing(), Count: impl.MaxBlades, Hub: 0.25, Tip: 8}
	for k := range impl.MaxStations {
		r.Stations = append(r.Stations, impl.Station{Radius: 0.5 + float32(k*10)/16, Chord: float32(16-k) / 64, Twist: float32(3-k) / 64})
	}
	return r
}

// smallMill has as few blades and stations as there can be, and a profile whose lift and drag are the same all around.
func smallMill(lift, drag float32) impl.Rotor {
	return impl.Rotor{
		Profile:  flatTo(lift, lift, drag, drag),
		Stations: []impl.Station{{Radius: 1, Chord: 1}, {Radius: 2, Chord: 1}},
		Count:    1, Hub: 0, Tip: 4,
	}
}

// evenMill returns a rotor of some stations with the radius 1, 2, and so on.
func evenMill(stations int) impl.Rotor {
	r := impl.Rotor{Profile: wing(), Count: 2, Hub: 0.5, Tip: float32(stations) + 1}
	for k := range stations {
		r.Stations = append(r.Stations, impl.Station{Radius: float32(k) + 1, Chord: 0.5})
	}
	return r
}

// copyOf returns a rotor with the same numbers in other memory.
func copyOf(r impl.Rotor) impl.Rotor {
	p := r.Profile
	r.Profile = impl.Profile{Angles: slices.Clone(p.Angles), Lifts: slices.Clone(p.Lifts), Drags: slices.Clone(p.Drags)}
	r.Stations = slices.Clone(r.Stations)
	return r
}

// changed returns a rotor with one change.
func changed(r impl.Rotor, do func(r *impl.Rotor)) impl.Rotor {
	r = copyOf(r)
	do(&r)
	return r
}

func numbersOf(r impl.Rotor) []float32 {
	list := []float32{r.Hub, r.Tip}
	for _, s := range r.Stations {
		list = append(list, s.Radius, s.Chord, s.Twist)
	}
	return list
}

// sameRotors does not use the program, so that a wrong SameRotor is not held against itself.
func sameRotors(a, b impl.Rotor) bool {
	return sameProfiles(a.Profile, b.Profile) && a.Count == b.Count && sameNumbers(numbersOf(a), numbersOf(b))
}

func wantRotor(t *testing.T, what string, got impl.Rotor, ok bool, wanted impl.Rotor) {
	t.Helper()
	if !ok || !sameRotors(got, wanted) {
		t.Errorf("%s: got %v %v, want %v", what, got, ok, wanted)
	}
}

func wantNoRotor(t *testing.T, what string, got impl.Rotor, ok bool) {
	t.Helper()
	if ok || !sameRotors(got, impl.Rotor{}) {
		t.Errorf("%s: got %v %v, want none", what, got, ok)
	}
}

// wrongRotors returns rotors each of which has one thing that a valid one has not.
func wrongRotors() []impl.Rotor {
	wrong := []impl.Rotor{{}, evenMill(0), evenMill(1), evenMill(impl.MaxStations + 1), evenMill(300)}
	change := func(do func(r *impl.Rotor)) {
		wrong = append(wrong, changed(mill(), do))
	}
	for _, p := range []impl.Profile{{}, evenKnots(1), evenKnots(impl.MaxKnots + 1), flatTo(0, 0, -1, 0), flatTo(num(aNaN), 0, 0, 0)} {
		change(func(r *impl.Rotor) { r.Profile = p })
	}
	for _, count := range []int64{0, -1, -3, impl.MaxBlades + 1, 1<<32 + 3, math.MaxInt64, math.MinInt64} {
		change(func(r *impl.Rotor) { r.Count = count })
	}
	for _, x := range nums(plusInf, minusInf, aNaN, 0x7f800001) {
		change(func(r *impl.Rotor) { r.Hub = x })
		change(func(r *impl.Rotor) { r.Tip = x })
		for i := range mill().Stations {
			change(func(r *impl.Rotor) { r.Stations[i].Radius = x })
			change(func(r *impl.Rotor) { r.Stations[i].Chord = x })
			change(func(r *impl.Rotor) { r.Stations[i].Twist = x })
		}
	}
	for i := range mill().Stations {
		for _, x := range nums(plusZero, minusZero, leastSub|minusZero, 0xbf800000) {
			change(func(r *impl.Rotor) { r.Stations[i].Chord = x })
			change(func(r *impl.Rotor) { r.Stations[i].Radius = x })
		}
	}
	change(func(r *impl.Rotor) { r.Hub = num(leastSub | minusZero) })
	change(func(r *impl.Rotor) { r.Hub = -0.1 })
	change(func(r *impl.Rotor) { r.Hub = r.Stations[0].Radius })
	change(func(r *impl.Rotor) { r.Hub = 1 })
	change(func(r *impl.Rotor) { r.Tip = r.Stations[3].Radius })
	change(func(r *impl.Rotor) { r.Tip = 5 })
	change(func(r *impl.Rotor) { r.Tip = -r.Tip })
	change(func(r *impl.Rotor) { r.Tip = 0 })
	change(func(r *impl.Rotor) { r.Stations[1].Radius = r.Stations[0].Radius })
	change(func(r *impl.Rotor) { r.Stations[3].Radius = r.Stations[2].Radius })
	change(func(r *impl.Rotor) { r.Stations[1].Radius, r.Stations[2].Radius = 3, 2.9 })
	change(func(r *impl.Rotor) { r.Stations = nil })
	change(func(r *impl.Rotor) { r.Stations = r.Stations[:1] })
	return wrong
}

func TestValidRotor(t *testing.T) {
	for _, r := range []impl.Rotor{
		mill(), fullMill(), smallMill(1, 0), evenMill(2), evenMill(impl.MaxStations),
		changed(mill(), func(r *impl.Rotor) { r.Count = 1 }), changed(mill(), func(r *impl.Rotor) { r.Count = impl.MaxBlades }),
		changed(mill(), func(r *impl.Rotor) { r.Hub = 0 }), changed(mill(), func(r *impl.Rotor) { r.Hub = num(minusZero) }),
		// Stations just above the hub, just below the tip, and just behind one another.
		changed(mill(), func(r *impl.Rotor) { r.Hub = math.Nextafter32(0.9, 0) }), changed(mill(), func(r *impl.Rotor) { r.Tip = math.Nextafter32(5.9, 9) }),
		changed(mill(), func(r *impl.Rotor) { r.Stations[1].Radius = math.Nextafter32(0.9, 1) }),
		changed(mill(), func(r *impl.Rotor) { r.Hub, r.Stations[0].Radius = 0, num(leastSub) }),
		changed(mill(), func(r *impl.Rotor) { r.Tip, r.Stations[3].Radius = num(greatest), num(greatest-1) }),
		changed(mill(), func(r *impl.Rotor) { r.Stations[0].Chord, r.Stations[1].Chord = num(leastSub), num(greatest) }),
		changed(mill(), func(r *impl.Rotor) { r.Stations[0].Twist, r.Stations[1].Twist = num(greatest), -num(greatest) }),
		changed(mill(), func(r *impl.Rotor) { r.Stations[0].Twist, r.Stations[1].Twist = num(minusZero), 0 }),
	} {
		if !impl.ValidRotor(r) {
			t.Errorf("%v is valid", r)
		}
	}
	for _, r := range wrongRotors() {
		if impl.ValidRotor(r) {
			t.Errorf("%v is not valid", r)
		}
	}
}

func TestWrongRotorsAreRefused(t *testing.T) {
	for _, r := range wrongRotors() {
		for i, got := range allOfRotor(r, 0, 2, 1.5, 0.1, 1) {
			if got != "" {
				t.Errorf("%v: function %v: got %v, want none", r, i, got)
			}
		}
	}
	for _, r := range []impl.Rotor{mill(), fullMill()} {
		for i, got := range allOfRotor(r, 0, 2, 1.5, 0.1, 1) {
			if got == "" {
				t.Errorf("%v: function %v: got nothing", r, i)
			}
		}
	}
}

func TestWrongRotorsAreNotMended(t *testing.T) {
	negative := changed(mill(), func(r *impl.Rotor) {
		r.Hub, r.Tip = -r.Hub, -r.Tip
		for i, s := range r.Stations {
			r.Stations[i] = impl.Station{Radius: -s.Radius, Chord: -s.Chord, Twist: s.Twist}
		}
	})
	got, ok := impl.ScaleRotor(negative, -1)
	wantNoRotor(t, "scaled from negative numbers", got, ok)
	wrong := changed(mill(), func(r *impl.Rotor) { r.Stations[2].Chord = 0 })
	got, ok = impl.SetStation(wrong, 2, mill().Stations[2])
	wantNoRotor(t, "a right station in the place of the wrong one", got, ok)
}

func TestSameRotor(t *testing.T) {
	for _, r := range append(wrongRotors(), mill(), fullMill()) {
		q := copyOf(r)
		if !impl.SameRotor(r, q) {
			t.Errorf("%v is the same as itself", r)
		}
		differ := func(what string, do func(q *impl.Rotor)) {
			t.Helper()
			q := changed(r, do)
			if impl.SameRotor(r, q) || impl.SameRotor(q, r) {
				t.Errorf("%v: same with another %v", r, what)
			}
		}
		differ("count", func(q *impl.Rotor) { q.Count++ })
		differ("count of stations", func(q *impl.Rotor) { q.Stations = append(q.Stations, impl.Station{}) })
		differ("profile", func(q *impl.Rotor) { q.Profile.Lifts = append(q.Profile.Lifts, 0) })
		for _, x := range nums(plusZero, minusZero, aNaN, 0x3f800001) {
			change := func(what string, place func(q *impl.Rotor) *float32) {
				t.Helper()
				if bitsOf(*place(&q)) != bitsOf(x) {
					differ(what, func(q *impl.Rotor) { *place(q) = x })
				}
			}
			change("hub", func(q *impl.Rotor) *float32 { return &q.Hub })
			change("tip", func(q *impl.Rotor) *float32 { return &q.Tip })
			for i := range min(len(r.Stations), impl.MaxStations) {
				change("radius", func(q *impl.Rotor) *float32 { return &q.Stations[i].Radius })
				change("chord", func(q *impl.Rotor) *float32 { return &q.Stations[i].Chord })
				change("twist", func(q *impl.Rotor) *float32 { return &q.Stations[i].Twist })
			}
			for i := range r.Profile.Drags {
				change("drag", func(q *impl.Rotor) *float32 { return &q.Profile.Drags[i] })
			}
		}
	}
}

func TestSameRotorOfOddNumbers(t *testing.T) {
	with := func(hub, radius uint32) impl.Rotor {
		return impl.Rotor{Stations: []impl.Station{{Radius: num(radius)}}, Hub: num(hub)}
	}
	for _, c := range []struct {
		a, b impl.Rotor
		want bool
	}{
		{impl.Rotor{}, impl.Rotor{Stations: []impl.Station{}, Profile: impl.Profile{Angles: []float32{}}}, true},
		{with(aNaN, aNaN), with(0xff800001, 0x7fffffff), true}, {with(plusInf, 0), with(minusInf, 0), false}, {with(0, plusInf), with(0, minusInf), false},
		{with(plusZero, minusZero), with(plusZero, minusZero), true}, {with(plusZero, plusZero), with(plusZero, minusZero), false}, {with(plusZero, plusZero), with(minusZero, plusZero), false},
		// The same numbers, but of other fields.
		{impl.Rotor{Hub: 1}, impl.Rotor{Tip: 1}, false},
		{impl.Rotor{Stations: []impl.Station{{Radius: 1}}}, impl.Rotor{Stations: []impl.Station{{Chord: 1}}}, false},
		{impl.Rotor{Stations: []impl.Station{{Chord: 1}}}, impl.Rotor{Stations: []impl.Station{{Twist: 1}}}, false},
		{impl.Rotor{Stations: []impl.Station{{Chord: 1}, {}}}, impl.Rotor{Stations: []impl.Station{{}, {Chord: 1}}}, false},
		{evenMill(2), evenMill(3), false}, {evenMill(300), evenMill(300), true},
	} {
		want(t, "same", impl.SameRotor(c.a, c.b), c.want)
		want(t, "same, the other way", impl.SameRotor(c.b, c.a), c.want)
	}
}

func TestEvenRotor(t *testing.T) {
	got, ok := impl.EvenRotor(wing(), 3, 5, 0.35, 6.2, 0.41, -0.013)
	wanted := impl.Rotor{Profile: wing(), Count: 3, Hub: 0.35, Tip: 6.2}
	for _, radius := range nums(0x3f6f5c28, 0x4006b852, 0x40519999, 0x408e3d70, 0x40b3ae14) {
		wanted.Stations = append(wanted.Stations, impl.Station{Radius: radius, Chord: 0.41, Twist: -0.013})
	}
	wantRotor(t, "even rotor", got, ok, wanted)
	got, ok = impl.EvenRotor(slope(), 1, 2, num(minusZero), 4, num(leastSub), num(minusZero))
	wantRotor(t, "even rotor with odd numbers", got, ok, impl.Rotor{
		Profile: slope(), Stations: []impl.Station{{Radius: 1, Chord: num(leastSub), Twist: num(minusZero)}, {Radius: 3, Chord: num(leastSub), Twist: num(minusZero)}},
		Count: 1, Hub: num(minusZero), Tip: 4,
	})
	for stations := int64(2); stations <= impl.MaxStations; stations++ {
		for count := int64(1); count <= impl.MaxBlades; count++ {
			got, ok := impl.EvenRotor(wing(), count, stations, 1, 9, 0.5, 0)
			want(t, "all numbers of blades and stations", ok && got.Count == count && int64(len(got.Stations)) == stations && impl.ValidRotor(got), true)
		}
	}
}

func TestEvenRotorOfWrongArguments(t *testing.T) {
	nan, inf := num(aNaN), num(plusInf)
	for _, count := range []int64{0, -1, impl.MaxBlades + 1, 1<<32 + 1, math.MaxInt64, math.MinInt64} {
		got, ok := impl.EvenRotor(wing(), count, 4, 1, 9, 0.5, 0)
		wantNoRotor(t, "even rotor of a wrong number of blades", got, ok)
	}
	for _, stations := range []int64{1, 0, -1, impl.MaxStations + 1, 1<<32 + 2, math.MaxInt64, math.MinInt64} {
		got, ok := impl.EvenRotor(wing(), 2, stations, 1, 9, 0.5, 0)
		wantNoRotor(t, "even rotor of a wrong number of stations", got, ok)
	}
	for _, c := range [][4]float32{
		{-1, 9, 0.5, 0}, {num(leastSub | minusZero), 9, 0.5, 0}, {nan, 9, 0.5, 0}, {inf, 9, 0.5, 0}, {9, 9, 0.5, 0}, {9, 1, 0.5, 0}, {0, 0, 0.5, 0}, {1, inf, 0.5, 0}, {1, -inf, 0.5, 0}, {1, nan, 0.5, 0},
		{1, 9, 0, 0}, {1, 9, num(minusZero), 0}, {1, 9, -1, 0}, {1, 9, inf, 0}, {1, 9, nan, 0}, {1, 9, 0.5, inf}, {1, 9, 0.5, -inf}, {1, 9, 0.5, nan},
		// No room for all stations between both.
		{1, num(0x3f800001), 0.5, 0}, {1, num(0x3f800003), 0.5, 0}, {0, num(leastSub), 0.5, 0}, {0, num(2), 0.5, 0},
	} {
		got, ok := impl.EvenRotor(wing(), 2, 4, c[0], c[1], c[2], c[3])
		wantNoRotor(t, "even rotor of wrong numbers", got, ok)
	}
	for _, p := range wrongProfiles() {
		got, ok := impl.EvenRotor(p, 2, 4, 1, 9, 0.5, 0)
		wantNoRotor(t, "even rotor of a wrong profile", got, ok)
	}
}

func TestSetStation(t *testing.T) {
	for i, s := range []impl.Station{
		{Radius: math.Nextafter32(0.35, 1), Chord: num(leastSub), Twist: 7}, {Radius: math.Nextafter32(0.9, 1), Chord: num(greatest), Twist: num(minusZero)},
		{Radius: math.Nextafter32(5.9, 1), Chord: 1, Twist: num(greatest)}, {Radius: math.Nextafter32(6.2, 1), Chord: 2, Twist: -0.25},
	} {
		got, ok := impl.SetStation(mill(), int64(i), s)
		wantRotor(t, "with another station", got, ok, changed(mill(), func(r *impl.Rotor) { r.Stations[i] = s }))
	}
	for _, i := range []int64{-1, 4, 5, 1 << 32, math.MinInt64, math.MaxInt64} {
		got, ok := impl.SetStation(mill(), i, impl.Station{Radius: 6, Chord: 1})
		wantNoRotor(t, "a station that is not there", got, ok)
	}
	for _, c := range []struct {
		i int64
		s impl.Station
	}{
		{0, impl.Station{Radius: 0.35, Chord: 1}}, {0, impl.Station{Radius: 2.13, Chord: 1}}, {1, impl.Station{Radius: 0.9, Chord: 1}}, {1, impl.Station{Radius: 3.71, Chord: 1}}, {1, impl.Station{Radius: 4, Chord: 1}},
		{3, impl.Station{Radius: 6.2, Chord: 1}}, {3, impl.Station{Radius: 7, Chord: 1}}, {3, impl.Station{Radius: num(aNaN), Chord: 1}}, {3, impl.Station{Radius: num(plusInf), Chord: 1}},
		{1, impl.Station{Radius: 2, Chord: 0}}, {1, impl.Station{Radius: 2, Chord: -1}}, {1, impl.Station{Radius: 2, Chord: num(aNaN)}}, {1, impl.Station{Radius: 2, Chord: num(plusInf)}},
		{1, impl.Station{Radius: 2, Chord: 1, Twist: num(aNaN)}}, {1, impl.Station{Radius: 2, Chord: 1, Twist: num(minusInf)}}, {2, impl.Station{}},
	} {
		got, ok := impl.SetStation(mill(), c.i, c.s)
		wantNoRotor(t, "with a wrong station", got, ok)
	}
}

func TestTwistRotor(t *testing.T) {
	for _, c := range []struct {
		by     float32
		twists []float32
	}{
		{0, []float32{0.021, -0.013, -0.04, -0.06}}, {0.3, nums(0x3ea45a1d, 0x3e92f1aa, 0x3e851eb9, 0x3e75c290)}, {-0.021, nums(plusZero, 0xbd0b4396, 0xbd79db22, 0xbda5e354)}, {num(greatest), nums(greatest, greatest, greatest, greatest)},
	} {
		got, ok := impl.TwistRotor(mill(), c.by)
		wantRotor(t, "twisted", got, ok, changed(mill(), func(r *impl.Rotor) {
			for i, twist := range c.twists {
				r.Stations[i].Twist = twist
			}
		}))
	}
	back := changed(smallMill(1, 1), func(r *impl.Rotor) { r.Stations[0].Twist = num(minusZero) })
	got, ok := impl.TwistRotor(back, num(minusZero))
	wantRotor(t, "twisted by -0", got, ok, back)
	got, ok = impl.TwistRotor(back, 0)
	wantRotor(t, "twisted by +0", got, ok, smallMill(1, 1))
	for _, by := range nums(plusInf, minusInf, aNaN) {
		got, ok := impl.TwistRotor(mill(), by)
		wantNoRotor(t, "twisted by what is not finite", got, ok)
	}
	most := changed(mill(), func(r *impl.Rotor) { r.Stations[2].Twist = num(greatest) })
	got, ok = impl.TwistRotor(most, num(greatest))
	wantNoRotor(t, "a twist that is not finite any more", got, ok)
	got, ok = impl.TwistRotor(most, -num(greatest))
	want(t, "twisted back", ok && got.Stations[2].Twist == 0 && got.Stations[0].Twist == -num(greatest), true)
}

func TestScaleRotor(t *testing.T) {
	got, ok := impl.ScaleRotor(mill(), 0.3)
	wantRotor(t, "scaled", got, ok, impl.Rotor{
		Profile: wing(),
		Stations: []impl.Station{
			{Radius: num(0x3e8a3d71), Chord: num(0x3dfbe76d), Twist: 0.021}, {Radius: num(0x3f239582), Chord: num(0x3de353f9), Twist: -0.013},
			{Radius: num(0x3f8e76c9), Chord: num(0x3db22d0e), Twist: -0.04}, {Radius: num(0x3fe28f5d), Chord: num(0x3d50e561), Twist: -0.06},
		},
		Count: 3, Hub: num(0x3dd70a3e), Tip: num(0x3fee147b),
	})
	got, ok = impl.ScaleRotor(smallMill(1, 1), 2)
	wantRotor(t, "twice as large", got, ok, impl.Rotor{Profile: flatTo(1, 1, 1, 1), Stations: []impl.Station{{Radius: 2, Chord: 2}, {Radius: 4, Chord: 2}}, Count: 1, Hub: 0, Tip: 8})
	for _, by := range nums(plusZero, minusZero, 0xbf800000, plusInf, minusInf, aNaN, greatest, leastSub) {
		got, ok := impl.ScaleRotor(mill(), by)
		wantNoRotor(t, "scaled to what is not valid", got, ok)
	}
	// A hub of nothing stays nothing, and its sign.
	back := changed(smallMill(1, 1), func(r *impl.Rotor) { r.Hub = num(minusZero) })
	got, ok = impl.ScaleRotor(back, 1)
	wantRotor(t, "scaled by 1", got, ok, back)
	got, ok = impl.ScaleRotor(smallMill(1, 1), num(plusInf))
	wantNoRotor(t, "nothing times an infinity", got, ok)
	got, ok = impl.ScaleRotor(smallMill(1, 1), 0x1p125)
	want(t, "as large as it can be", ok && got.Tip == 0x1p127, true)
	got, ok = impl.ScaleRotor(smallMill(1, 1), 0x1p126)
	wantNoRotor(t, "too large", got, ok)
	got, ok = impl.ScaleRotor(smallMill(1, 1), num(leastSub))
	want(t, "as small as it can be", ok && got.Stations[0].Chord == num(leastSub), true)
}
