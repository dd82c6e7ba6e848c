package tests

import (
	"math"
	"slices"
	"strconv"
	"strings"
	"testing"

	"loop.example/g01256/impl"
)

func hexOf(list ...float32) string {
	var out strings.Builder
	for _, x := range list {
		out.WriteString(strconv.FormatUint(uint64(bitsOf(x)), 16) + " ")
	}
	return out.String()
}

// told returns the text of a result that has one bit pattern of all its numbers, "" for a failure with zero values, and another text for other failures.
func told(ok bool, i int64, list ...float32) string {
	if ok {
		return "told " + strconv.FormatInt(i, 10) + " " + hexOf(list...)
	}
	zero := i == 0
	for _, x := range list {
		zero = zero && bitsOf(x) == plusZero
	}
	if zero {
		return ""
	}
	return "failed with a value"
}

func toldProfile(p impl.Profile, ok bool) string {
	if !ok && len(p.Angles)+len(p.Lifts)+len(p.Drags) > 0 {
		return "failed with a profile"
	}
	if !ok {
		return ""
	}
	return "told " + hexOf(p.Angles...) + ": " + hexOf(p.Lifts...) + ": " + hexOf(p.Drags...)
}

func toldNumber(x float32, ok bool) string { return told(ok, 0, x) }

func toldKnot(i int64, x float32, ok bool) string { return told(ok, i, x) }

// allOfProfile has what all functions with a profile that can fail tell of one, and of two numbers.
func allOfProfile(p, q impl.Profile, x, y float32) []string {
	force, one := impl.ForceOf(p, complex(x, y), y, 1, 2)
	start, slope, two := impl.FitDrags(p, -abs(x), abs(y))
	return []string{
		toldProfile(impl.AddKnot(p, x, y, abs(y))), toldProfile(impl.DropKnot(p, 0)), toldProfile(impl.DropKnot(p, 3)), toldProfile(impl.MirrorProfile(p)), toldProfile(impl.ScaleProfile(p, x, y)),
		toldProfile(impl.MixProfiles(p, q, x)), toldProfile(impl.MixProfiles(q, p, x)), toldProfile(impl.MixProfiles(p, p, y)), toldProfile(impl.CutProfile(p, -abs(x), abs(y))), toldProfile(impl.CutProfile(p, -1, 1)),
		toldNumber(impl.LiftAt(p, x)), toldNumber(impl.DragAt(p, x)), toldNumber(impl.SlopeAt(p, x)), toldNumber(impl.GlideAt(p, x)), toldNumber(impl.ZeroLift(p)), toldNumber(impl.LiftArea(p)),
		toldKnot(impl.BestGlide(p)), toldKnot(impl.StallOf(p)), told(one, 0, real(force), imag(force)), toldKnot(impl.BestPitch(p, complex(y, x), complex(1, y), []float32{x, y, 0})),
		toldNumber(impl.LiftApart(p, x, y, true)), toldNumber(impl.LiftApart(p, y, x, false)), told(two, 0, start, slope),
	}
}

func abs(x float32) float32 { return float32(math.Abs(float64(x))) }

// allOfNumbers has what the other functions of the chapter tell.
func allOfNumbers(p, q impl.Profile, x, y, z float32) []string {
	apart, one := impl.StepApart(true, x, y, z)
	list, two := impl.RunApart(p.Lifts, y, z)
	plate, three := impl.PlateProfile(int64(len(p.Angles)))
	out := []string{told(one, flag(apart)), toldNumber(impl.WrapAngle(x)), toldProfile(plate, three), told(true, flag(impl.ValidProfile(p))), told(true, flag(impl.SameProfile(p, q)))}
	for _, apart := range list {
		out = append(out, told(two, flag(apart)))
	}
	return out
}

// someProfiles returns valid profiles of any size, and all wrong ones.
func someProfiles(seed noise) []impl.Profile {
	list := append(wrongProfiles(), slope(), wing(), otherWing(), evenKnots(impl.MaxKnots))
	for size := range impl.MaxKnots {
		list = append(list, anyProfile(&seed, size+2))
	}
	for _, x := range nums(plusZero, minusZero, leastSub, greatest, greatest|minusZero) {
		for _, y := range nums(plusZero, minusZero, leastSub, greatest) {
			list = append(list, flatTo(x, y, y, abs(x)), flatTo(y, x, abs(x), y))
		}
	}
	return list
}

// anyProfile returns a valid profile with some knots, if they are not too many, with lifts from -2 to 2 and drags up to 2.
func anyProfile(n *noise, count int) impl.Profile {
	var p impl.Profile
	for k := range count {
		p.Angles = append(p.Angles, (float32(k)+0.5+0.4*n.between())/float32(count)-0.5)
		p.Lifts = append(p.Lifts, 2*n.between())
		p.Drags = append(p.Drags, 1+n.between())
	}
	return p
}

// wantToldAgain calls what tells of each row and column, and then once more in the opposite order, so that anything that is kept from call to call is another thing.
func wantToldAgain(t *testing.T, rows, columns int, all func(i, j int) []string) {
	t.Helper()
	var first [][]string
	for i := range rows {
		for j := range columns {
			first = append(first, all(i, j))
		}
	}
	for i := rows - 1; i >= 0; i-- {
		for j := columns - 1; j >= 0; j-- {
			if again := all(i, j); !slices.Equal(again, first[i*columns+j]) {
				t.Errorf("row %v, column %v: got %v, then %v", i, j, first[i*columns+j], again)
			}
		}
	}
	for _, list := range first {
		for k, got := range list {
			if strings.HasPrefix(got, "failed") {
				// Within another goroutine, a test is not ended, but only marked.
				t.Errorf("a failure of function %v has other results than zero values: %v", k, list)
				return
			}
		}
	}
}

func TestPromise1ProfilesReturnTheSameAgain(t *testing.T) {
	profiles := someProfiles(8)
	bits := specialBits()
	within(t, func() {
		all := func(i, j int) []string {
			p, q := profiles[i], profiles[(i+j)%len(profiles)]
			x, y, z := num(bits[j]), num(bits[(i+j)%len(bits)]), num(bits[(3*i+5*j)%len(bits)])
			return append(allOfProfile(p, q, x, y), allOfNumbers(p, q, x, y, z)...)
		}
		wantToldAgain(t, len(profiles), len(bits), all)
	})
}

// spareProfile returns a copy of a profile, whose lists have room behind them.
func spareProfile(p impl.Profile) impl.Profile {
	return impl.Profile{Angles: spare(p.Angles, 77), Lifts: spare(p.Lifts, 77), Drags: spare(p.Drags, 77)}
}

// leftAlone reports whether a profile has still its numbers, and what is in the room behind its lists.
func leftAlone(got, wanted impl.Profile) bool {
	same := func(got, wanted []float32) bool {
		return sameNumbers(got[:len(got)+4], append(slices.Clone(wanted), 77, 77, 77, 77))
	}
	return same(got.Angles, wanted.Angles) && same(got.Lifts, wanted.Lifts) && same(got.Drags, wanted.Drags)
}

func TestPromise1ProfilesAreLeftAlone(t *testing.T) {
	n := noise(9)
	for _, p := range someProfiles(10) {
		a, b := spareProfile(p), spareProfile(wing())
		for range 8 {
			x, y := n.between(), n.between()
			wanted := append(allOfProfile(p, wing(), x, y), allOfNumbers(p, wing(), x, y, y)...)
			got := append(allOfProfile(a, b, x, y), allOfNumbers(a, b, x, y, y)...)
			want(t, "the same with room behind the lists", slices.Equal(got, wanted), true)
		}
		if !leftAlone(a, p) || !leftAlone(b, wing()) {
			t.Fatalf("%v has changed", p)
		}
	}
	pitches := []float32{0.3, 0.1, 0.2}
	room := spare(pitches, 77)
	impl.BestPitch(wing(), 2, 1i, room)
	impl.RunApart(room, 0.2, 0.1)
	want(t, "pitches and angles are left alone", slices.Equal(room[:7], append(pitches, 77, 77, 77, 77)), true)
}

// overwrite changes a list, with the room behind it.
func overwrite(list []float32) {
	all := list[:cap(list)]
	for i := range all {
		all[i] = 55
	}
}

func TestPromise1ProfilesShareNoMemory(t *testing.T) {
	for what, do := range map[string]func(p, q impl.Profile) (impl.Profile, bool){
		"plate":       func(p, q impl.Profile) (impl.Profile, bool) { return impl.PlateProfile(7) },
		"add first":   func(p, q impl.Profile) (impl.Profile, bool) { return impl.AddKnot(p, -0.45, 1, 1) },
		"add between": func(p, q impl.Profile) (impl.Profile, bool) { return impl.AddKnot(p, 0, 1, 1) },
		"add last":    func(p, q impl.Profile) (impl.Profile, bool) { return impl.AddKnot(p, 0.45, 1, 1) },
		"drop first":  func(p, q impl.Profile) (impl.Profile, bool) { return impl.DropKnot(p, 0) },
		"drop one":    func(p, q impl.Profile) (impl.Profile, bool) { return impl.DropKnot(p, 3) },
		"drop last":   func(p, q impl.Profile) (impl.Profile, bool) { return impl.DropKnot(p, 6) },
		"mirror":      func(p, q impl.Profile) (impl.Profile, bool) { return impl.MirrorProfile(p) },
		"scale":       func(p, q impl.Profile) (impl.Profile, bool) { return impl.ScaleProfile(p, 1, 1) },
		"mix":         func(p, q impl.Profile) (impl.Profile, bool) { return impl.MixProfiles(p, q, 0) },
		"cut none":    func(p, q impl.Profile) (impl.Profile, bool) { return impl.CutProfile(p, -1, 1) },
		"cut first":   func(p, q impl.Profile) (impl.Profile, bool) { return impl.CutProfile(p, 0, 1) },
		"cut last":    func(p, q impl.Profile) (impl.Profile, bool) { return impl.CutProfile(p, -1, 0) },
	} {
		// The lists of the arguments share memory with one another.
		p := spareProfile(wing())
		p.Lifts = p.Drags
		kept := impl.Profile{Angles: wing().Angles, Lifts: wing().Drags, Drags: wing().Drags}
		wanted, ok := do(kept, kept)
		want(t, what, ok, true)
		got, ok := do(p, p)
		wantProfile(t, what, got, ok, wanted)
		overwrite(got.Angles)
		want(t, what+": other lists after new angles", sameNumbers(got.Lifts, wanted.Lifts) && sameNumbers(got.Drags, wanted.Drags), true)
		overwrite(got.Lifts)
		want(t, what+": drags after new lifts", sameNumbers(got.Drags, wanted.Drags), true)
		overwrite(got.Drags)
		want(t, what+": arguments after new results", leftAlone(p, kept), true)
		again, ok := do(p, p)
		wantProfile(t, what+" again", again, ok, wanted)
	}
}

// knotsAround returns the knots between which an angle from -0.5 to 0.5 lies.
func knotsAround(p impl.Profile, angle float32) (int, int) {
	last := len(p.Angles) - 1
	for k := last; k >= 0; k-- {
		if p.Angles[k] <= angle {
			return k, (k + 1) % (last + 1)
		}
	}
	return last, 0
}

func TestPromise3ProfilesHaveTheirNumbersAtTheirKnots(t *testing.T) {
	n := noise(11)
	for i := range 400 {
		p := anyProfile(&n, 2+i%(impl.MaxKnots-1))
		for k, angle := range p.Angles {
			lift, one := impl.LiftAt(p, angle)
			drag, two := impl.DragAt(p, angle)
			wantNumber(t, "lift at a knot", lift, one, bitsOf(p.Lifts[k]))
			wantNumber(t, "drag at a knot", drag, two, bitsOf(p.Drags[k]))
			// The first angle that lies before the knot is told by the knots before, and is near.
			before := math.Nextafter32(angle, -1)
			lift, one = impl.LiftAt(p, before)
			drag, two = impl.DragAt(p, before)
			near := math.Abs(float64(lift-p.Lifts[k])) < 1e-3 && math.Abs(float64(drag-p.Drags[k])) < 1e-3
			want(t, "near to a knot", one && two && near, true)
		}
	}
	// Whole turns change nothing, where the sum is exact.
	p := impl.Profile{Angles: []float32{-0.5, -0.125, 0, 0.25, 0.375}, Lifts: []float32{1, -2, 3, 4, -5}, Drags: []float32{6, 7, 8, 9, 10}}
	for k, angle := range p.Angles {
		for _, turns := range []float32{-1000, -7, -1, 0, 1, 2, 50, 4096} {
			lift, one := impl.LiftAt(p, angle+turns)
			drag, two := impl.DragAt(p, angle+turns)
			wantNumber(t, "lift at a knot some turns away", lift, one, bitsOf(p.Lifts[k]))
			wantNumber(t, "drag at a knot some turns away", drag, two, bitsOf(p.Drags[k]))
		}
	}
}

func TestPromise3ProfilesLieBetweenTheirKnots(t *testing.T) {
	n := noise(12)
	for i := range 20000 {
		p := anyProfile(&n, 2+i%(impl.MaxKnots-1))
		angle := n.between() / 2
		lift, one := impl.LiftAt(p, angle)
		drag, two := impl.DragAt(p, angle)
		k, next := knotsAround(p, angle)
		if !one || !two || !nearlyBetween(lift, p.Lifts[k], p.Lifts[next]) || !nearlyBetween(drag, p.Drags[k], p.Drags[next]) {
			t.Fatalf("%v: got %v %v at %v, not between the knots %v and %v", p, lift, drag, angle, k, next)
		}
		// It is where a straight line between both is.
		from, to := float64(p.Angles[k]), float64(p.Angles[next])
		share := turnsFrom(from, float64(angle)) / turnsFrom(from, to)
		line := float64(p.Lifts[k]) + share*float64(p.Lifts[next]-p.Lifts[k])
		rise := float64(p.Lifts[next]-p.Lifts[k]) / turnsFrom(from, to)
		slope, ok := impl.SlopeAt(p, angle)
		if math.Abs(line-float64(lift)) > 1e-4 || !ok || math.Abs(rise-float64(slope)) > 1e-3*(1+math.Abs(rise)) {
			t.Fatalf("%v: got the lift %v and the slope %v at %v, want nearly %v and %v", p, lift, slope, angle, line, rise)
		}
	}
}

func nearlyBetween(x, a, b float32) bool {
	return x >= min(a, b)-1e-5 && x <= max(a, b)+1e-5
}

// turnsFrom returns how far it is from one angle on to another one, more than 0 and at most 1.
func turnsFrom(from, to float64) float64 {
	if to > from {
		return to - from
	}
	return to - from + 1
}

func TestPromise3ForcesTurnWithWindAndProfile(t *testing.T) {
	n := noise(13)
	for i := range 20000 {
		p := anyProfile(&n, 2+i%(impl.MaxKnots-1))
		wind := complex(5*n.between(), 5*n.between())
		pitch, turn := n.between(), n.between()
		force, one := impl.ForceOf(p, wind, pitch, 1, 1)
		turned, two := impl.ForceOf(p, impl.MulComplex(wind, impl.PhasorOf(float64(turn))), pitch+turn, 1, 1)
		wanted := impl.MulComplex(force, impl.PhasorOf(float64(turn)))
		if !one || !two || !nearlyForce(turned, wanted) {
			t.Fatalf("%v, wind %v, pitch %v, turned by %v: got %v %v, want nearly %v", p, wind, pitch, turn, turned, two, wanted)
		}
		// In a mirror, wind and profile turn the other way.
		mirror, _ := impl.MirrorProfile(p)
		other, three := impl.ForceOf(mirror, impl.ConjugateOf(wind), -pitch, 1, 1)
		if !three || !nearlyForce(other, impl.ConjugateOf(force)) {
			t.Fatalf("%v, wind %v, pitch %v, in a mirror: got %v %v, want nearly %v", p, wind, pitch, other, three, impl.ConjugateOf(force))
		}
	}
}

// nearlyForce reports whether forces of at most some hundreds are equal, nearly.
func nearlyForce(a, b complex64) bool {
	return math.Abs(float64(real(a)-real(b))) < 0.05 && math.Abs(float64(imag(a)-imag(b))) < 0.05
}

func TestPromise3ForcesPushAlongAndAcross(t *testing.T) {
	n := noise(14)
	for i := range 20000 {
		p := anyProfile(&n, 2+i%(impl.MaxKnots-1))
		wind := complex(5*n.between(), 5*n.between())
		pitch, chord, density := n.between(), 1+n.between(), 1+n.between()
		force, ok := impl.ForceOf(p, wind, pitch, chord, density)
		// At the angle of the air, both lie between the numbers of all knots.
		along, across := impl.DotConjugate([]complex64{wind}, []complex64{force})
		v := float64(impl.LongOf(wind))
		q := 0.5 * float64(density) * v * v * float64(chord) * v
		lift, drag := float64(imag(along)), float64(real(along))
		within := drag >= q*float64(slices.Min(p.Drags))-0.01*(1+q) && drag <= q*float64(slices.Max(p.Drags))+0.01*(1+q) &&
			lift >= q*float64(slices.Min(p.Lifts))-0.01*(1+q) && lift <= q*float64(slices.Max(p.Lifts))+0.01*(1+q)
		if !ok || !across || !within {
			t.Fatalf("%v, wind %v, pitch %v: got %v %v", p, wind, pitch, force, ok)
		}
	}
}
