package tests

import (
	"fmt"
	"regexp"
	"slices"
	"strconv"
	"strings"
	"testing"

	"loop.example/g01256/impl"
)

// digitsOf has the digits of numbers as the document tells them, without the program.
func digitsOf(list ...float32) string {
	if len(list) == 0 {
		return "none"
	}
	var digits []string
	for _, x := range list {
		digits = append(digits, fmt.Sprintf("%08x", bitsOf(x)))
	}
	return strings.Join(digits, ",")
}

func profileDigits(p impl.Profile) string {
	return digitsOf(p.Angles...) + ":" + digitsOf(p.Lifts...) + ":" + digitsOf(p.Drags...)
}

func rotorDigits(r impl.Rotor) string {
	return fmt.Sprintf("%s;%s;%d;%s", profileDigits(r.Profile), digitsOf(numbersOf(r)[2:]...), r.Count, digitsOf(r.Hub, r.Tip))
}

func airDigits(a impl.Air) string { return digitsOf(a.Density, a.Height, a.Speed, a.Shear) }

func driveDigits(d impl.Drive) string {
	return fmt.Sprintf("%s;%d;%s", digitsOf(plantNumbers(d.Plant)...), d.State, digitsOf(d.Speed, d.Pitch, d.Energy))
}

func farmDigits(f impl.Farm) string {
	return digitsOf(f.X...) + ";" + digitsOf(f.Y...) + ";" + digitsOf(f.Radius, f.Draw, f.Spread)
}

const (
	formOfList    = `([0-9a-f]{8}(?:,[0-9a-f]{8})*)`
	formOfInteger = `(0|-?[1-9][0-9]{0,14})`
)

var (
	formOfProfile = regexp.MustCompile(`^` + formOfList + `:` + formOfList + `:` + formOfList + `$`)
	formOfRotor   = regexp.MustCompile(`^([^;]*);` + formOfList + `;` + formOfInteger + `;` + formOfList + `$`)
	formOfAir     = regexp.MustCompile(`^` + formOfList + `$`)
	formOfDrive   = regexp.MustCompile(`^` + formOfList + `;` + formOfInteger + `;` + formOfList + `$`)
	formOfFarm    = regexp.MustCompile(`^` + formOfList + `;` + formOfList + `;` + formOfList + `$`)
)

func listByHand(s string) []float32 {
	var list []float32
	for _, digits := range strings.Split(s, ",") {
		n, _ := strconv.ParseUint(digits, 16, 32)
		list = append(list, num(uint32(n)))
	}
	return list
}

func profileByHand(s string) (impl.Profile, bool) {
	m := formOfProfile.FindStringSubmatch(s)
	if m == nil {
		return impl.Profile{}, false
	}
	p := impl.Profile{Angles: listByHand(m[1]), Lifts: listByHand(m[2]), Drags: listByHand(m[3])}
	if !impl.ValidProfile(p) {
		return impl.Profile{}, false
	}
	return p, true
}

func rotorByHand(s string) (impl.Rotor, bool) {
	m := formOfRotor.FindStringSubmatch(s)
	if m == nil {
		return impl.Rotor{}, false
	}
	p, ok := profileByHand(m[1])
	list, ends := listByHand(m[2]), listByHand(m[4])
	if !ok || len(list)%3 != 0 || len(ends) != 2 {
		return impl.Rotor{}, false
	}
	r := impl.Rotor{Profile: p, Hub: ends[0], Tip: ends[1]}
	r.Count, _ = strconv.ParseInt(m[3], 10, 64)
	for i := 0; i < len(list); i += 3 {
		r.Stations = append(r.Stations, impl.Station{Radius: list[i], Chord: list[i+1], Twist: list[i+2]})
	}
	if !impl.ValidRotor(r) {
		return impl.Rotor{}, false
	}
	return r, true
}

func airByHand(s string) (impl.Air, bool) {
	if !formOfAir.MatchString(s) {
		return impl.Air{}, false
	}
	list := listByHand(s)
	var a impl.Air
	if len(list) != 4 {
		return a, false
	}
	for i, place := range placesOfAir(&a) {
		*place = list[i]
	}
	if !impl.ValidAir(a) {
		return impl.Air{}, false
	}
	return a, true
}

func driveByHand(s string) (impl.Drive, bool) {
	m := formOfDrive.FindStringSubmatch(s)
	if m == nil {
		return impl.Drive{}, false
	}
	list, rest := listByHand(m[1]), listByHand(m[3])
	if len(list) != 8 || len(rest) != 3 {
		return impl.Drive{}, false
	}
	state, _ := strconv.ParseInt(m[2], 10, 64)
	d := driveOf(impl.Plant{}, state, rest[0], rest[1], rest[2])
	for i, place := range placesOfPlant(&d.Plant) {
		*place = list[i]
	}
	if !impl.ValidDrive(d) {
		return impl.Drive{}, false
	}
	return d, true
}

func farmByHand(s string) (impl.Farm, bool) {
	m := formOfFarm.FindStringSubmatch(s)
	if m == nil {
		return impl.Farm{}, false
	}
	rest := listByHand(m[3])
	if len(rest) != 3 {
		return impl.Farm{}, false
	}
	f := impl.Farm{X: listByHand(m[1]), Y: listByHand(m[2]), Radius: rest[0], Draw: rest[1], Spread: rest[2]}
	if !impl.ValidFarm(f) {
		return impl.Farm{}, false
	}
	return f, true
}

func toldAir(a impl.Air, ok bool) string { return told(ok, 0, a.Density, a.Height, a.Speed, a.Shear) }

// kind is one of the five kinds of things that have texts.
type kind[T any] struct {
	text   func(x T) (string, bool)
	read   func(s string) (T, bool)
	digits func(x T) string
	byHand func(s string) (T, bool)
	told   func(x T, ok bool) string
}

func kindOfProfiles() kind[impl.Profile] {
	return kind[impl.Profile]{impl.ProfileText, impl.ReadProfile, profileDigits, profileByHand, toldProfile}
}

func kindOfRotors() kind[impl.Rotor] {
	return kind[impl.Rotor]{impl.RotorText, impl.ReadRotor, rotorDigits, rotorByHand, toldRotor}
}

func kindOfAir() kind[impl.Air] {
	return kind[impl.Air]{impl.AirText, impl.ReadAir, airDigits, airByHand, toldAir}
}

func kindOfDrives() kind[impl.Drive] {
	return kind[impl.Drive]{impl.DriveText, impl.ReadDrive, driveDigits, driveByHand, toldDrive}
}

func kindOfFarms() kind[impl.Farm] {
	return kind[impl.Farm]{impl.FarmText, impl.ReadFarm, farmDigits, farmByHand, toldFarm}
}

func rightProfiles() []impl.Profile {
	n := noise(90)
	list := []impl.Profile{
		slope(), wing(), otherWing(), evenKnots(2), evenKnots(impl.MaxKnots), plainSail(), failingWing(), tornWing(),
		flatTo(num(minusZero), 0, num(minusZero), 0), flatTo(num(leastSub), num(leastSub|minusZero), num(leastSub), num(mostSub)), flatTo(num(greatest), -num(greatest), num(greatest), 0),
	}
	for count := 2; count <= impl.MaxKnots; count++ {
		list = append(list, anyProfile(&n, count))
	}
	return list
}

func rightRotors() []impl.Rotor {
	n := noise(91)
	list := []impl.Rotor{
		mill(), fullMill(), evenMill(2), failingAt(mill(), 1), smallMill(num(greatest), num(leastSub)),
		changed(mill(), func(r *impl.Rotor) { r.Hub, r.Stations[2].Twist = num(minusZero), num(minusZero) }),
		changed(mill(), func(r *impl.Rotor) {
			r.Hub, r.Stations[0] = 0, impl.Station{Radius: num(leastSub), Chord: num(leastSub), Twist: num(mostSub)}
		}),
	}
	for stations := 2; stations <= impl.MaxStations; stations++ {
		list = append(list, anyRotor(&n, stations))
	}
	return list
}

func rightAir() []impl.Air {
	n := noise(92)
	list := append([]impl.Air{breeze(), gale()}, oddAir()...)
	for range 20 {
		list = append(list, anyAir(&n))
	}
	return list
}

func rightDrives() []impl.Drive {
	n := noise(93)
	list := append([]impl.Drive{running(grinder(), 1.5)}, oddDrives()...)
	for range 20 {
		list = append(list, anyDrive(&n))
	}
	return list
}

func rightFarms() []impl.Farm {
	n := noise(94)
	list := someFarms()
	for count := 1; count <= impl.MaxRotors; count++ {
		list = append(list, anyFarm(&n, count, 20))
	}
	return list
}

// wantTexts checks that right things have their texts and are read from them, and wrong ones are not.
func wantTexts[T any](t *testing.T, k kind[T], right, wrong []T) {
	t.Helper()
	for _, x := range right {
		text, ok := k.text(x)
		wantText(t, text, ok, k.digits(x))
		want(t, "read again", k.told(k.read(text)), k.told(x, true))
	}
	for _, x := range wrong {
		text, ok := k.text(x)
		wantNoText(t, text, ok)
		want(t, "read what is not valid", k.told(k.read(k.digits(x))), "")
	}
}

func TestTextsOfAllKinds(t *testing.T) {
	wantTexts(t, kindOfProfiles(), rightProfiles(), wrongProfiles())
	wantTexts(t, kindOfRotors(), rightRotors(), wrongRotors())
	wantTexts(t, kindOfAir(), rightAir(), wrongAir())
	wantTexts(t, kindOfDrives(), rightDrives(), wrongDrives())
	wantTexts(t, kindOfFarms(), rightFarms(), wrongFarms())
}

func TestTextsWithAllTheirDigits(t *testing.T) {
	text, ok := impl.ProfileText(slope())
	wantText(t, text, ok, "00000000,3e800000:00000000,3f800000:3f800000,3f800000")
	text, ok = impl.RotorText(impl.Rotor{
		Profile:  impl.Profile{Angles: []float32{-0.5, 0, 0.5}, Lifts: []float32{1, 2, -3}, Drags: []float32{4, 0.25, 8}},
		Stations: []impl.Station{{Radius: 2, Chord: 0.5, Twist: 0.125}, {Radius: 3, Chord: 1, Twist: -0.125}},
		Count:    5, Hub: 1, Tip: 4,
	})
	wantText(t, text, ok, "bf000000,00000000,3f000000:3f800000,40000000,c0400000:40800000,3e800000,41000000;40000000,3f000000,3e000000,40400000,3f800000,be000000;5;3f800000,40800000")
	text, ok = impl.AirText(impl.Air{Density: 1, Height: 10, Speed: 8, Shear: 0.25})
	wantText(t, text, ok, "3f800000,41200000,41000000,3e800000")
	text, ok = impl.DriveText(driveOf(impl.Plant{Inertia: 1, Drag: 0.25, Rated: 2, Least: 0.5, Most: 3, Start: 4, Cut: 5, Ease: 6}, impl.DriveHeld, 7, 0.75, -1))
	wantText(t, text, ok, "3f800000,3e800000,40000000,3f000000,40400000,40800000,40a00000,40c00000;4;40e00000,3f400000,bf800000")
	text, ok = impl.FarmText(impl.Farm{X: []float32{1, num(minusZero)}, Y: []float32{-2, num(leastSub)}, Radius: 3, Draw: 0.5, Spread: 4})
	wantText(t, text, ok, "3f800000,80000000;c0000000,00000001;40400000,3f000000,40800000")
}

var digitsInText = regexp.MustCompile(`[0-9a-f]{8}`)

// textsWithOtherNumbers returns texts of which each one number is left out, doubled, or another one, of every kind.
func textsWithOtherNumbers(text string) []string {
	var list []string
	for _, place := range digitsInText.FindAllStringIndex(text, -1) {
		head, digits, tail := text[:place[0]], text[place[0]:place[1]], text[place[1]:]
		for _, bits := range specialBits() {
			list = append(list, head+fmt.Sprintf("%08x", bits)+tail)
		}
		list = append(list,
			head+tail, head+digits+digits+tail, head+digits+","+digits+tail, head+digits+","+tail, head+","+digits+tail, head+"none"+tail, head+"none,"+digits+tail,
			head+strings.TrimLeft(tail, ",;:"), strings.TrimRight(head, ",;:")+tail, head+strings.ToUpper(digits)+tail, head+digits[1:]+tail, head+"0"+digits+tail, head+"+"+digits+tail, head+"-"+digits[1:]+tail,
			head+" "+digits+tail, head+digits+" "+tail, head+digits+"\n"+tail, head+"0x"+digits+tail,
		)
	}
	return list
}

var signsInText = regexp.MustCompile(`[,;:]`)

// textsWithOtherParts returns texts of which each one sign between parts is another one, or a part is left out or put in.
func textsWithOtherParts(text string) []string {
	list := []string{"", "none", ";", ":", ",", ";;", ";;;", "::", "none:none:none", "none;none;none", "none:none:none;none;0;none", text + text, " " + text, text + " ", text + "\n", "\n" + text, strings.ToUpper(text), text + "\x00"}
	for _, sign := range []string{",", ";", ":"} {
		list = append(list, text+sign, sign+text, text+sign+text, text+sign+"0", text+sign+"00000000", "00000000"+sign+text, text+sign+"none", "none"+sign+text)
		parts := strings.Split(text, sign)
		for i := range parts {
			less := slices.Delete(slices.Clone(parts), i, i+1)
			more := slices.Insert(slices.Clone(parts), i, parts[i])
			for _, part := range []string{"", "none", "0", "00000000", " "} {
				with := slices.Clone(parts)
				with[i] = part
				list = append(list, strings.Join(with, sign))
			}
			list = append(list, strings.Join(less, sign), strings.Join(more, sign))
		}
		slices.Reverse(parts)
		list = append(list, strings.Join(parts, sign))
	}
	for _, place := range signsInText.FindAllStringIndex(text, -1) {
		for _, sign := range []string{"", ",", ";", ":", " ", "\n", ",,", ";;", "::", ", ", " ;", ":none:", ";none;"} {
			list = append(list, text[:place[0]]+sign+text[place[1]:])
		}
	}
	return list
}

// textsWithOtherBytes returns texts of which each one byte is left out, put in or another one, and all beginnings and ends.
func textsWithOtherBytes(text string) []string {
	var list []string
	for i := range len(text) {
		list = append(list, text[:i], text[i:], text[:i]+text[i+1:])
		for _, c := range []byte("019afAFgn,;: -+.\n\x00\xff") {
			list = append(list, text[:i]+string([]byte{c})+text[i+1:], text[:i]+string([]byte{c})+text[i:])
		}
	}
	return list
}

// wantReadByHand checks that all changes of a text are read as by hand, and that what is read is told with just these bytes.
func wantReadByHand[T any](t *testing.T, k kind[T], text string) {
	t.Helper()
	read, failed := 0, 0
	for _, s := range slices.Concat(textsWithOtherNumbers(text), textsWithOtherParts(text), textsWithOtherBytes(text)) {
		x, ok := k.read(s)
		if got, wanted := k.told(x, ok), k.told(k.byHand(s)); got != wanted {
			t.Fatalf("%q: got %v, want %v", s, got, wanted)
		}
		if !ok {
			failed++
			continue
		}
		read++
		again, ok := k.text(x)
		wantText(t, again, ok, s)
	}
	want(t, "some are read, and some are not", read > 20 && failed > 20, true)
}

func TestTextsAreReadAsByHand(t *testing.T) {
	wantReadByHand(t, kindOfProfiles(), profileDigits(slope()))
	wantReadByHand(t, kindOfProfiles(), profileDigits(wing()))
	wantReadByHand(t, kindOfRotors(), rotorDigits(mill()))
	wantReadByHand(t, kindOfRotors(), rotorDigits(smallMill(1, 1)))
	wantReadByHand(t, kindOfAir(), airDigits(breeze()))
	wantReadByHand(t, kindOfAir(), airDigits(plain(0, 0)))
	wantReadByHand(t, kindOfDrives(), driveDigits(running(grinder(), 1.5)))
	wantReadByHand(t, kindOfDrives(), driveDigits(driveOf(simple(), impl.DriveStill, 0, 1, 0)))
	wantReadByHand(t, kindOfFarms(), farmDigits(pair()))
	wantReadByHand(t, kindOfFarms(), farmDigits(park()))
}

func TestTextsWithIntegersInOtherForms(t *testing.T) {
	rotor, drive := strings.Split(rotorDigits(mill()), ";"), strings.Split(driveDigits(running(grinder(), 1.5)), ";")
	for _, integer := range append(wrongDecimals(), "-3", "7", "8", "5", "1000000000000000", "03", "+3", " 3", "3 ", "3.0", "00000003", "none", "0x3") {
		rotor[2], drive[1] = integer, integer
		if integer != "5" {
			want(t, "a rotor with the Count "+integer, toldRotor(impl.ReadRotor(strings.Join(rotor, ";"))), "")
		}
		want(t, "a drive with the State "+integer, toldDrive(impl.ReadDrive(strings.Join(drive, ";"))), "")
	}
	for count := int64(1); count <= impl.MaxBlades; count++ {
		rotor[2] = impl.Decimal(count)
		r, ok := impl.ReadRotor(strings.Join(rotor, ";"))
		wantRotor(t, "a rotor", r, ok, changed(mill(), func(r *impl.Rotor) { r.Count = count }))
	}
	for state := range int64(5) {
		drive[1] = impl.Decimal(state)
		d, ok := impl.ReadDrive(strings.Join(drive, ";"))
		wantDrive(t, "a drive", d, ok, driveOf(grinder(), state, 1.5, 0.5, 1))
	}
}

func TestTextsWithWrongAndWithTooManyNumbers(t *testing.T) {
	for _, digits := range wrongDigits() {
		want(t, "air with "+digits, toldAir(impl.ReadAir("3f800000,"+digits+",3f800000,00000000")), "")
		want(t, "a farm with "+digits, toldFarm(impl.ReadFarm(digits+";00000000;3f800000,00000000,3f800000")), "")
	}
	for _, count := range []int{0, 1, 2, 3, 5, 8, 255, 256, 257, 100000} {
		list := repeated("3f800000", count)
		want(t, "air of many", toldAir(impl.ReadAir(list)), "")
		want(t, "a drive of many", toldDrive(impl.ReadDrive(list+";2;3f800000,00000000,00000000")), "")
		want(t, "a farm of many", toldFarm(impl.ReadFarm("00000000;00000000;"+list)), "")
		want(t, "a rotor of many", toldRotor(impl.ReadRotor(profileDigits(wing())+";"+list+";3;00000000,41000000")), "")
		want(t, "a profile of many", toldProfile(impl.ReadProfile(list+":"+list+":"+list)), "")
		for _, sign := range []string{";", ":"} {
			many := strings.Repeat("00000000"+sign, count)
			want(t, "many parts", toldProfile(impl.ReadProfile(many))+toldRotor(impl.ReadRotor(many))+toldAir(impl.ReadAir(many))+toldDrive(impl.ReadDrive(many))+toldFarm(impl.ReadFarm(many)), "")
		}
	}
}
