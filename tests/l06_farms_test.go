package tests

import (
	"math"
	"slices"
	"testing"

	"loop.example/g01256/impl"
)

// The expected bits in the tables of this chapter were computed from the document by a second implementation, in another language.

// pair has the rotor of the chapter's first example, and another one behind it.
func pair() impl.Farm {
	return impl.Farm{X: []float32{0, 2}, Y: []float32{0, 0}, Radius: 1, Draw: 0.5, Spread: 0.5}
}

// park and crowd are farms without any simple number; crowd has as many rotors as there can be.
func park() impl.Farm {
	return impl.Farm{X: []float32{0.3, 31.7, 17.9, 71.3, 44.1}, Y: []float32{0.7, 3.1, 12.7, 5.9, -14.3}, Radius: 3.7, Draw: 0.31, Spread: 0.083}
}

func crowd() impl.Farm {
	return impl.Farm{
		X:      []float32{0.9, 11.2, 21.9, 33.1, 2.6, 12.3, 23.7, 34.9, 1.1, 13.8, 22.2, 35.3},
		Y:      []float32{1.3, 0.4, 2.9, 1.7, 11.9, 13.1, 10.8, 12.2, 22.7, 21.4, 24.1, 23.3},
		Radius: 1.9, Draw: 0.47, Spread: 0.21,
	}
}

// farmAt returns a farm like pair with rotors at other places.
func farmAt(x, y []float32) impl.Farm {
	f := pair()
	f.X, f.Y = x, y
	return f
}

func copyOfFarm(f impl.Farm) impl.Farm {
	f.X, f.Y = slices.Clone(f.X), slices.Clone(f.Y)
	return f
}

// changedFarm returns a copy of a farm in which something is another thing.
func changedFarm(f impl.Farm, do func(f *impl.Farm)) impl.Farm {
	f = copyOfFarm(f)
	do(&f)
	return f
}

// sameFarms does not use the program, so that a wrong SameFarm is not held against itself.
func sameFarms(a, b impl.Farm) bool {
	return sameNumbers(a.X, b.X) && sameNumbers(a.Y, b.Y) && sameNumbers([]float32{a.Radius, a.Draw, a.Spread}, []float32{b.Radius, b.Draw, b.Spread})
}

func wantFarm(t *testing.T, what string, got impl.Farm, ok bool, wanted impl.Farm) {
	t.Helper()
	if !ok || !sameFarms(got, wanted) {
		t.Errorf("%s: got %v %v, want %v", what, got, ok, wanted)
	}
}

func wantNoFarm(t *testing.T, what string, got impl.Farm, ok bool) {
	t.Helper()
	if ok || !sameFarms(got, impl.Farm{}) {
		t.Errorf("%s: got %v %v, want none", what, got, ok)
	}
}

// The bits of 100000, which is how far off rotors are at most, and of 1000, the greatest Radius.
const (
	farOff = 0x47c35000
	wide   = 0x447a0000
)

// tooFar has numbers that no place of a farm has.
func tooFar() []float32 {
	return nums(farOff+1, (farOff+1)|minusZero, 0x49742400, greatest, greatest|minusZero, plusInf, minusInf, aNaN, 0xffffffff)
}

// wrongFarms returns farms each of which has one thing that a valid one has not.
func wrongFarms() []impl.Farm {
	list := []impl.Farm{{}, farmAt(nil, nil), farmAt([]float32{}, []float32{})}
	for _, sizes := range [][2]int{{13, 13}, {300, 300}, {1, 0}, {0, 1}, {2, 3}, {3, 2}, {12, 13}, {13, 12}, {12, 11}} {
		list = append(list, farmAt(make([]float32, sizes[0]), make([]float32, sizes[1])))
	}
	change := func(do func(f *impl.Farm)) {
		list = append(list, changedFarm(park(), do), changedFarm(pair(), do))
	}
	for _, x := range tooFar() {
		change(func(f *impl.Farm) { f.X[0] = x })
		change(func(f *impl.Farm) { f.Y[0] = x })
		change(func(f *impl.Farm) { f.X[len(f.X)-1] = x })
		change(func(f *impl.Farm) { f.Y[len(f.Y)-1] = x })
	}
	for _, x := range append(notPositive(), nums(wide+1, 0x49742400, greatest)...) {
		change(func(f *impl.Farm) { f.Radius = x })
	}
	for _, x := range notPositive() {
		change(func(f *impl.Farm) { f.Spread = x })
	}
	for _, x := range append(notShares(), nums(0x3f000001, 0x3f7fffff)...) {
		change(func(f *impl.Farm) { f.Draw = x })
	}
	return list
}

// oddFarms returns valid farms with numbers at their bounds.
func oddFarms() []impl.Farm {
	far := num(farOff)
	one := farmAt([]float32{0}, nums(minusZero))
	with := func(radius, draw, spread float32) impl.Farm {
		return changedFarm(pair(), func(f *impl.Farm) { f.Radius, f.Draw, f.Spread = radius, draw, spread })
	}
	return []impl.Farm{
		one, farmAt(make([]float32, impl.MaxRotors), make([]float32, impl.MaxRotors)), farmAt([]float32{far}, []float32{-far}), farmAt([]float32{-far, far, 0}, []float32{far, -far, num(minusZero)}),
		with(num(wide), 0.5, 1), with(num(leastSub), 0.5, num(leastSub)), with(num(leastSub), 0.5, num(greatest)), with(num(wide), 0.5, num(greatest)), with(1, 0, 1), with(1, num(minusZero), 1), with(1, num(leastSub), 0.5),
		with(1, num(0x3effffff), 0.5), with(num(wide-1), 0.25, num(leastNorm)), farmAt([]float32{num(leastSub), num(minusZero)}, []float32{0, num(leastSub)}),
	}
}

// someFarms has valid farms of all kinds.
func someFarms() []impl.Farm {
	return append([]impl.Farm{pair(), park(), crowd()}, oddFarms()...)
}

// wrongRotorsOf returns indices of no rotor of a farm.
func wrongRotorsOf(f impl.Farm) []int64 {
	return []int64{-1, int64(len(f.X)), int64(len(f.X)) + 1, 1 << 32, -1 << 32, math.MaxInt64, math.MinInt64}
}

func TestLimitsOfFarms(t *testing.T) {
	want(t, "MaxRotors", int64(impl.MaxRotors), 12)
}

func TestValidFarm(t *testing.T) {
	for _, f := range someFarms() {
		if !impl.ValidFarm(f) {
			t.Errorf("%v is valid", f)
		}
	}
	for _, f := range wrongFarms() {
		if impl.ValidFarm(f) {
			t.Errorf("%v is not valid", f)
		}
	}
	for size := range impl.MaxRotors + 3 {
		want(t, "farms of any size", impl.ValidFarm(farmAt(ones(size), ones(size))), size >= 1 && size <= impl.MaxRotors)
	}
}

func TestWrongFarmsAreRefused(t *testing.T) {
	for _, f := range wrongFarms() {
		for i := int64(-1); i <= 1; i++ {
			for k, got := range allOfFarm(f, fiveSectors(), i, 0.5, 0.25, 3) {
				if got != "" {
					t.Errorf("%v: function %v: got %v, want none", f, k, got)
				}
			}
		}
	}
}

func TestSameFarm(t *testing.T) {
	farms := append(wrongFarms(), someFarms()...)
	for i, a := range farms {
		for k, b := range farms {
			want(t, "the same as another farm", impl.SameFarm(a, b), sameFarms(a, b))
			want(t, "the same as itself", i != k || impl.SameFarm(a, copyOfFarm(b)), true)
		}
	}
}

func TestSameFarmWithOtherNumbers(t *testing.T) {
	places := func(f *impl.Farm) []*float32 {
		return []*float32{&f.X[0], &f.X[4], &f.Y[0], &f.Y[4], &f.Radius, &f.Draw, &f.Spread}
	}
	for i := range places(&impl.Farm{X: ones(5), Y: ones(5)}) {
		for _, x := range specialBits() {
			for _, y := range specialBits() {
				a := changedFarm(park(), func(f *impl.Farm) { *places(f)[i] = num(x) })
				b := changedFarm(park(), func(f *impl.Farm) { *places(f)[i] = num(y) })
				want(t, "the same with other numbers", impl.SameFarm(a, b), bitsOf(num(x)) == bitsOf(num(y)))
			}
		}
		for k := range i {
			a := changedFarm(park(), func(f *impl.Farm) { *places(f)[i], *places(f)[k] = 1, 2 })
			b := changedFarm(park(), func(f *impl.Farm) { *places(f)[i], *places(f)[k] = 2, 1 })
			want(t, "the same numbers in other places", impl.SameFarm(a, b), false)
		}
	}
	a, b := park(), park()
	a.X, b.X = nil, []float32{}
	want(t, "no X at all", impl.SameFarm(a, b), true)
	b.Y = b.Y[:4]
	want(t, "a Y less", impl.SameFarm(a, b), false)
}

func TestRowFarm(t *testing.T) {
	for _, c := range []struct {
		count                     int64
		gap, radius, draw, spread float32
		x                         []float32
	}{
		{1, 5, 1, 0.5, 0.5, []float32{0}},
		{2, 2, 1, 0.5, 0.5, []float32{0, 2}},
		{3, 0, 2, 0.25, 0.125, []float32{0, 0, 0}},
		{4, 0.1, 3.7, 0.31, 0.083, nums(plusZero, 0x3dcccccd, 0x3e4ccccd, 0x3e99999a)},
		// The index 0 times a gap below 0 is a zero with a sign.
		{1, -7, 1, 0, 1, nums(minusZero)}, {3, -2.5, 1, num(minusZero), 1, []float32{num(minusZero), -2.5, -5}}, {2, num(minusZero), 1, 0.5, 1, nums(minusZero, minusZero)},
		{1, num(greatest), 1, 0.5, 1, []float32{0}}, {1, -num(greatest), 1, 0.5, 1, nums(minusZero)},
		{2, num(farOff), num(wide), 0.5, num(greatest), nums(plusZero, farOff)}, {3, -50000, num(leastSub), 0.5, num(leastSub), []float32{num(minusZero), -50000, -100000}},
		{impl.MaxRotors, 0.7, 1, 0.1, 0.2, nums(plusZero, 0x3f333333, 0x3fb33333, 0x40066666, 0x40333333, 0x40600000, 0x40866666, 0x409ccccd, 0x40b33333, 0x40c99999, 0x40e00000, 0x40f66666)},
	} {
		got, ok := impl.RowFarm(c.count, c.gap, c.radius, c.draw, c.spread)
		wantFarm(t, "a row", got, ok, impl.Farm{X: c.x, Y: make([]float32, c.count), Radius: c.radius, Draw: c.draw, Spread: c.spread})
	}
}

func TestRowsThatAreNone(t *testing.T) {
	for _, count := range []int64{0, -1, impl.MaxRotors + 1, 300, 1 << 32, 1<<32 + 2, math.MaxInt64, math.MinInt64} {
		got, ok := impl.RowFarm(count, 1, 1, 0.5, 0.5)
		wantNoFarm(t, "a row of too many or too few", got, ok)
	}
	for _, gap := range append(notFinite(), num(farOff+1), -num(farOff+1), num(greatest), -num(greatest)) {
		got, ok := impl.RowFarm(2, gap, 1, 0.5, 0.5)
		wantNoFarm(t, "a row that is too long", got, ok)
	}
	for _, gap := range notFinite() {
		got, ok := impl.RowFarm(1, gap, 1, 0.5, 0.5)
		wantNoFarm(t, "a row of one with no gap", got, ok)
	}
	got, ok := impl.RowFarm(3, above(50000), 1, 0.5, 0.5)
	wantNoFarm(t, "a row whose end is too far", got, ok)
	for _, f := range wrongFarms() {
		if f.Radius != pair().Radius || f.Draw != pair().Draw || f.Spread != pair().Spread {
			got, ok := impl.RowFarm(2, 2, f.Radius, f.Draw, f.Spread)
			wantOrNone(t, got, ok, impl.Farm{X: pair().X, Y: pair().Y, Radius: f.Radius, Draw: f.Draw, Spread: f.Spread})
		}
	}
}

// wantOrNone wants a farm if it is valid.
func wantOrNone(t *testing.T, got impl.Farm, ok bool, wanted impl.Farm) {
	t.Helper()
	if impl.ValidFarm(wanted) {
		wantFarm(t, "a farm that is valid", got, ok, wanted)
	} else {
		wantNoFarm(t, "a farm that is not valid", got, ok)
	}
}

// somePlaces has numbers of places, valid and not.
func somePlaces() []float32 {
	return append(tooFar(), nums(plusZero, minusZero, leastSub, 0x3f800000, 0xc1a9999a, farOff-1, farOff, farOff|minusZero)...)
}

func TestAddPlace(t *testing.T) {
	for _, f := range someFarms() {
		for _, x := range somePlaces() {
			for _, y := range somePlaces() {
				got, ok := impl.AddPlace(f, x, y)
				wantOrNone(t, got, ok, changedFarm(f, func(f *impl.Farm) { f.X, f.Y = append(f.X, x), append(f.Y, y) }))
			}
		}
	}
	f := farmAt([]float32{7}, []float32{8})
	for i := range 20 {
		got, ok := impl.AddPlace(f, float32(i), -float32(i))
		want(t, "room for a rotor more", ok, len(f.X) < impl.MaxRotors)
		if !ok {
			wantNoFarm(t, "a rotor more than there can be", got, ok)
			continue
		}
		wantFarm(t, "a rotor more", got, ok, farmAt(append(f.X, float32(i)), append(f.Y, -float32(i))))
		f = got
	}
	want(t, "as many rotors as there can be", len(f.X), impl.MaxRotors)
}

func TestMovePlace(t *testing.T) {
	for _, f := range someFarms() {
		for i := range f.X {
			for k, x := range somePlaces() {
				for _, y := range []float32{somePlaces()[(k+i)%len(somePlaces())], 3} {
					got, ok := impl.MovePlace(f, int64(i), x, y)
					wantOrNone(t, got, ok, changedFarm(f, func(f *impl.Farm) { f.X[i], f.Y[i] = x, y }))
				}
			}
		}
		for _, i := range wrongRotorsOf(f) {
			got, ok := impl.MovePlace(f, i, 1, 1)
			wantNoFarm(t, "a move of no rotor", got, ok)
		}
	}
}

func TestDropPlace(t *testing.T) {
	for _, f := range someFarms() {
		for i := range f.X {
			got, ok := impl.DropPlace(f, int64(i))
			wantOrNone(t, got, ok, changedFarm(f, func(f *impl.Farm) { f.X, f.Y = slices.Delete(f.X, i, i+1), slices.Delete(f.Y, i, i+1) }))
		}
		for _, i := range wrongRotorsOf(f) {
			got, ok := impl.DropPlace(f, i)
			wantNoFarm(t, "no rotor dropped", got, ok)
		}
	}
	got, ok := impl.DropPlace(farmAt([]float32{7}, []float32{8}), 0)
	wantNoFarm(t, "the last rotor dropped", got, ok)
	f := crowd()
	for len(f.X) > 1 {
		last := int64(len(f.X) - 1)
		got, ok := impl.DropPlace(f, last)
		wantFarm(t, "the one behind all others dropped", got, ok, changedFarm(f, func(f *impl.Farm) { f.X, f.Y = f.X[:last], f.Y[:last] }))
		back, ok := impl.AddPlace(got, f.X[last], f.Y[last])
		wantFarm(t, "and added again", back, ok, f)
		f = got
	}
}
