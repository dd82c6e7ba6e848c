package tests

import (
	"fmt"
	"regexp"
	"slices"
	"strconv"
	"strings"
	"testing"

	"loop.example/g01256/impl"
)

// formsOfLines has what the words behind each name may be: x a number, n an integer, and t any text.
func formsOfLines() map[string][]string {
	return map[string][]string{
		"rotor": {"", "t"}, "air": {"", "t"}, "drive": {"", "t"}, "farm": {"", "t"},
		"lift": {"x"}, "drag": {"x"}, "twist": {"x"}, "power": {"xxxx"}, "thrust": {"xxxx"}, "height": {"x"}, "dense": {"x"},
		"gusts": {"xnxxn"}, "hold": {""}, "free": {""}, "step": {"xxx"}, "place": {"xx"}, "move": {"nxx"}, "drop": {"n"},
		"speeds": {"xx"}, "farmed": {"xxx"}, "near": {""},
	}
}

var (
	numberWord  = regexp.MustCompile(`^[0-9a-f]{8}$`)
	integerWord = regexp.MustCompile(`^` + formOfInteger + `$`)
)

// wordsByHand returns the numbers and the integers that words behind a name are, if they have the given form.
func wordsByHand(form string, words []string) ([]float32, []int64, bool) {
	var x []float32
	var n []int64
	for i, word := range words {
		switch form[i] {
		case 'x':
			if !numberWord.MatchString(word) || digitsOf(listByHand(word)...) != word {
				return nil, nil, false
			}
			x = append(x, listByHand(word)...)
		case 'n':
			if !integerWord.MatchString(word) && word != "1000000000000000" && word != "-1000000000000000" {
				return nil, nil, false
			}
			integer, _ := strconv.ParseInt(word, 10, 64)
			n = append(n, integer)
		}
	}
	return x, n, true
}

// lineByHand carries out a line at a valid desk with what the functions of the other chapters tell.
func lineByHand(d impl.Desk, line string) (impl.Desk, string) {
	words := strings.Split(line, " ")
	name, words := words[0], words[1:]
	for _, form := range formsOfLines()[name] {
		if len(form) != len(words) {
			continue
		}
		x, n, ok := wordsByHand(form, words)
		if !ok {
			return d, "no"
		}
		next, output, ok := toldByHand(copyOfDesk(d), name, words, x, n)
		if !ok {
			return d, "no"
		}
		return next, output
	}
	return d, "what"
}

func toldByHand(d impl.Desk, name string, words []string, x []float32, n []int64) (impl.Desk, string, bool) {
	var ok bool
	var y float32
	var list []float32
	switch name + strconv.Itoa(len(words)) {
	case "rotor0":
		return d, rotorDigits(d.Rotor), true
	case "air0":
		return d, airDigits(d.Air), true
	case "drive0":
		return d, driveDigits(d.Drive), true
	case "farm0":
		return d, farmDigits(d.Farm), true
	case "near0":
		i, k, far, ok := impl.NearestPlaces(d.Farm)
		return d, fmt.Sprintf("%d %d %s", i, k, digitsOf(far)), ok
	case "rotor1":
		d.Rotor, ok = rotorByHand(words[0])
	case "air1":
		d.Air, ok = airByHand(words[0])
	case "drive1":
		d.Drive, ok = driveByHand(words[0])
	case "farm1":
		d.Farm, ok = farmByHand(words[0])
	case "twist1":
		d.Rotor, ok = impl.TwistRotor(d.Rotor, x[0])
	case "hold0":
		d.Drive, ok = impl.HoldDrive(d.Drive)
	case "free0":
		d.Drive, ok = impl.ReleaseDrive(d.Drive)
	case "step3":
		d.Drive, ok = impl.StepDrive(d.Drive, x[0], x[1], x[2])
	case "place2":
		d.Farm, ok = impl.AddPlace(d.Farm, x[0], x[1])
	case "move3":
		d.Farm, ok = impl.MovePlace(d.Farm, n[0], x[0], x[1])
	case "drop1":
		d.Farm, ok = impl.DropPlace(d.Farm, n[0])
	case "lift1":
		y, ok = impl.LiftAt(d.Rotor.Profile, x[0])
		list = []float32{y}
	case "drag1":
		y, ok = impl.DragAt(d.Rotor.Profile, x[0])
		list = []float32{y}
	case "power4":
		y, ok = impl.RotorPower(d.Rotor, x[0], x[1], x[2], x[3])
		list = []float32{y}
	case "thrust4":
		y, ok = impl.ThrustOf(d.Rotor, x[0], x[1], x[2], x[3])
		list = []float32{y}
	case "height1":
		y, ok = impl.SpeedAtHeight(d.Air, x[0])
		list = []float32{y}
	case "dense1":
		y, ok = impl.DensityAtHeight(d.Air, x[0])
		list = []float32{y}
	case "gusts5":
		list, _, ok = impl.GustsOf(d.Air, x[0], n[0], x[1], x[2], n[1])
	case "speeds2":
		list, ok = impl.SpeedsInFarm(d.Farm, x[0], x[1])
	case "farmed3":
		y, ok = impl.PowerInFarm(d.Farm, x[0], x[1], x[2])
		list = []float32{y}
	}
	if list == nil {
		return d, "ok", ok
	}
	return d, digitsOf(list...), ok
}

// wantLine checks what a line outputs, and the desk behind it.
func wantLine(t *testing.T, d impl.Desk, line, output string, wanted impl.Desk) {
	t.Helper()
	got, text, ok := impl.DeskCommand(d, line)
	if !ok || text != output {
		t.Errorf("%.200q: got %.60q %v, want %.60q", line, text, ok, output)
	}
	wantDesk(t, fmt.Sprintf("the desk behind %.200q", line), got, ok, wanted)
}

// wantLineByHand checks a line, and returns its output.
func wantLineByHand(t *testing.T, d impl.Desk, line string) string {
	t.Helper()
	wanted, output := lineByHand(d, line)
	wantLine(t, d, line, output, wanted)
	return output
}

// wantNothing checks that a line has an output, and changes nothing.
func wantNothing(t *testing.T, d impl.Desk, output string, lines ...string) {
	t.Helper()
	for _, line := range lines {
		wantLine(t, d, line, output, d)
	}
}

func TestLinesOfExamples(t *testing.T) {
	d := impl.NewDesk()
	wantLine(t, d, "air", "3f800000,41200000,41000000,3e800000", d)
	wantLine(t, d, "height 41200000", "41000000", d)
	wantLine(t, d, "near", "0 1 40800000", d)
}

func TestLinesThatTellParts(t *testing.T) {
	d := impl.NewDesk()
	wantLine(t, d, "drive", "3f800000,3e800000,40000000,3f000000,40000000,3f800000,40800000,3f000000;0;00000000,3f800000,00000000", d)
	wantLine(t, d, "farm", "00000000,40800000;00000000,00000000;3f800000,3e800000,3e000000", d)
	_, rotor, _ := impl.DeskCommand(d, "rotor")
	stations := ";40000000,3f000000,3d800000,40800000,3f000000,3d800000,40c00000,3f000000,3d800000,41000000,3f000000,3d800000;3;3f800000,41100000"
	want(t, "the rotor", strings.HasPrefix(rotor, "bf000000,bec00000,be800000,be000000,00000000,3e000000,3e800000,3ec00000,3f000000:") && strings.HasSuffix(rotor, stations) && len(rotor) == 3*9*9-1+len(stations), true)
	for _, d := range rightDesks() {
		wantLine(t, d, "rotor", rotorDigits(d.Rotor), d)
		wantLine(t, d, "air", airDigits(d.Air), d)
		wantLine(t, d, "drive", driveDigits(d.Drive), d)
		wantLine(t, d, "farm", farmDigits(d.Farm), d)
	}
}

func TestLinesThatChangeParts(t *testing.T) {
	for _, d := range []impl.Desk{impl.NewDesk(), workshop(), fullDesk(), bareDesk()} {
		for _, r := range rightRotors() {
			wantLine(t, d, "rotor "+rotorDigits(r), "ok", deskOf(r, d.Air, d.Drive, d.Farm))
		}
		for _, a := range rightAir() {
			wantLine(t, d, "air "+airDigits(a), "ok", deskOf(d.Rotor, a, d.Drive, d.Farm))
		}
		for _, e := range rightDrives() {
			wantLine(t, d, "drive "+driveDigits(e), "ok", deskOf(d.Rotor, d.Air, e, d.Farm))
		}
		for _, f := range rightFarms() {
			wantLine(t, d, "farm "+farmDigits(f), "ok", deskOf(d.Rotor, d.Air, d.Drive, f))
		}
	}
}

func TestLinesOfPartsThatAreNotValid(t *testing.T) {
	d := workshop()
	for _, r := range wrongRotors() {
		wantNothing(t, d, "no", "rotor "+rotorDigits(r))
	}
	for _, a := range wrongAir() {
		wantNothing(t, d, "no", "air "+airDigits(a))
	}
	for _, e := range wrongDrives() {
		wantNothing(t, d, "no", "drive "+driveDigits(e))
	}
	for _, f := range wrongFarms() {
		wantNothing(t, d, "no", "farm "+farmDigits(f))
	}
	air := airDigits(gale())
	for _, s := range textsWithOtherBytes(air) {
		if a, ok := airByHand(s); !strings.Contains(s, " ") {
			output, wanted := "no", d
			if ok {
				output, wanted = "ok", deskOf(d.Rotor, a, d.Drive, d.Farm)
			}
			wantLine(t, d, "air "+s, output, wanted)
		}
	}
	// The text of another part.
	for _, name := range []string{"rotor", "air", "drive", "farm"} {
		for other, text := range map[string]string{"rotor": rotorDigits(mill()), "air": air, "drive": driveDigits(running(grinder(), 1)), "farm": farmDigits(pair()), "none": "none", "profile": profileDigits(wing())} {
			if other != name {
				wantNothing(t, d, "no", name+" "+text)
			}
		}
	}
}

func TestLinesOfRotors(t *testing.T) {
	d := workshop()
	for _, c := range millSums() {
		words := " " + digitsOf(num(c.wind)) + " " + digitsOf(num(c.speed)) + " " + digitsOf(num(c.pitch)) + " " + digitsOf(num(c.density))
		wantLine(t, d, "power"+words, digitsOf(num(c.power)), d)
		wantLine(t, d, "thrust"+words, digitsOf(num(c.thrust)), d)
	}
	flat := deskOf(changed(mill(), func(r *impl.Rotor) { r.Profile = slope() }), d.Air, d.Drive, d.Farm)
	wantLine(t, flat, "lift 3e000000", "3f000000", flat)
	wantLine(t, flat, "lift 40100000", "3f800000", flat)
	wantLine(t, flat, "drag 3e000000", "3f800000", flat)
	twisted := changedDesk(d, func(d *impl.Desk) {
		for i := range d.Rotor.Stations {
			d.Rotor.Stations[i].Twist += 0.25
		}
	})
	wantLine(t, d, "twist 3e800000", "ok", twisted)
	wantNothing(t, d, "no", "lift 7f800000", "lift 7fc00000", "drag ff800000", "drag 7fc00000", "twist 7f800000", "twist 7fc00000",
		"power 00000000 3f800000 00000000 3f800000", "power 3f800000 bf800000 00000000 3f800000", "power 3f800000 3f800000 7f800000 3f800000", "power 3f800000 3f800000 00000000 7fc00000",
		"thrust 80000000 3f800000 00000000 3f800000", "thrust 3f800000 7f800000 00000000 3f800000", "thrust 3f800000 3f800000 7fc00000 3f800000", "thrust 3f800000 3f800000 00000000 00000000")
	high := changedDesk(d, func(d *impl.Desk) { d.Rotor.Stations[3].Twist = num(greatest) })
	wantNothing(t, high, "no", "twist 7f7fffff")
	wantNothing(t, high, "ok", "twist 00000000", "twist 80000000")
	torn := changedDesk(d, func(d *impl.Desk) { d.Rotor.Profile = failingWing() })
	want(t, "a profile that has not all lifts", wantLineByHand(t, torn, "lift 3c23d70a"), "no")
}

func TestLinesOfAir(t *testing.T) {
	d := changedDesk(workshop(), func(d *impl.Desk) { d.Air = impl.Air{Density: 1, Height: 10, Speed: 8, Shear: 1} })
	wantLine(t, d, "height 41f00000", "41400000", d)
	wantLine(t, d, "height 00000000", "00000000", d)
	wantLine(t, d, "dense 00000000", "3f800000", d)
	wantLine(t, d, "dense 4604d000", "3f000000", d)
	wantLine(t, d, "gusts 41f00000 3 00000000 00000000 5", "41400000,41400000,41400000", d)
	winds, _, one := impl.GustsOf(d.Air, 20, impl.MaxWinds, 0.5, 0.25, 2147483647)
	wantLine(t, d, "gusts 41a00000 256 3f000000 3e800000 2147483647", digitsOf(winds...), d)
	winds, _, two := impl.GustsOf(d.Air, 20, 1, 0.5, 0.25, 0)
	wantLine(t, d, "gusts 41a00000 1 3f000000 3e800000 0", digitsOf(winds...), d)
	want(t, "both have gusts", one && two, true)
	wantNothing(t, d, "no", "height bf800000", "height 7f800000", "height 7fc00000", "dense bf800000", "dense 7f800000",
		"gusts 41a00000 0 3f000000 3e800000 7", "gusts 41a00000 257 3f000000 3e800000 7", "gusts 41a00000 -1 3f000000 3e800000 7", "gusts 41a00000 9 bf000000 3e800000 7", "gusts 41a00000 9 3f000000 3f800001 7",
		"gusts 41a00000 9 3f000000 3e800000 -1", "gusts 41a00000 9 3f000000 3e800000 2147483648", "gusts bf800000 9 3f000000 3e800000 7", "gusts 41a00000 9 3f000000 3e800000 1000000000000000", "gusts 41a00000 1000000000000000 3f000000 3e800000 7",
		"gusts 41a00000 9 3f000000 3e800000 1000000000000001", "gusts 41a00000 9223372036854775809 3f000000 3e800000 7", "gusts 41a00000 18446744073709551617 3f000000 3e800000 7")
}

func TestLinesOfDrives(t *testing.T) {
	d := changedDesk(workshop(), func(d *impl.Desk) { d.Drive = driveOf(simple(), impl.DriveStill, 0, 1, 0) })
	with := func(e impl.Drive) impl.Desk { return deskOf(d.Rotor, d.Air, e, d.Farm) }
	wantLine(t, d, "hold", "ok", with(driveOf(simple(), impl.DriveHeld, 0, 1, 0)))
	wantLine(t, with(driveOf(simple(), impl.DriveHeld, 0, 1, 0)), "free", "ok", d)
	wantLine(t, with(driveOf(simple(), impl.DriveHeld, 1, 1, 0)), "free", "ok", with(driveOf(simple(), impl.DriveStopping, 1, 1, 0)))
	// Lines that change nothing, and yet are right.
	wantNothing(t, d, "ok", "free", "step 00000000 3f800000 00000000", "step 00000000 00000000 3f800000")
	wantNothing(t, with(driveOf(simple(), impl.DriveHeld, 1, 0.5, 2)), "ok", "hold")
	stepped, ok := impl.StepDrive(d.Drive, 2, 3, 0.25)
	want(t, "a step", ok && stepped.State == impl.DriveStarting && stepped.Pitch < 1, true)
	wantLine(t, d, "step 40000000 40400000 3e800000", "ok", with(stepped))
	wantNothing(t, d, "no", "step bf800000 3f800000 3f800000", "step 3f800000 7f800000 3f800000", "step 3f800000 3f800000 bf800000", "step 7fc00000 3f800000 3f800000", "step 3f800000 3f800000 7f800000")
	fast := with(driveOf(withPlace(simple(), 1, 0), impl.DriveStarting, num(greatest), 0, 0))
	wantNothing(t, fast, "no", "step 3f800000 7f7fffff 7f7fffff")
}

func TestLinesOfFarms(t *testing.T) {
	d := changedDesk(workshop(), func(d *impl.Desk) { d.Farm = pair() })
	with := func(x, y []float32) impl.Desk {
		return deskOf(d.Rotor, d.Air, d.Drive, changedFarm(pair(), func(f *impl.Farm) { f.X, f.Y = x, y }))
	}
	wantLine(t, d, "place 40400000 c0800000", "ok", with([]float32{0, 2, 3}, []float32{0, 0, -4}))
	wantLine(t, d, "move 0 40400000 c0800000", "ok", with([]float32{3, 2}, []float32{-4, 0}))
	wantLine(t, d, "move 1 40400000 c0800000", "ok", with([]float32{0, 3}, []float32{0, -4}))
	wantLine(t, d, "drop 0", "ok", with([]float32{2}, []float32{0}))
	wantLine(t, d, "drop 1", "ok", with([]float32{0}, []float32{0}))
	wantLine(t, d, "speeds 00000000 40800000", "40800000,40400000", d)
	power, ok := impl.PowerInFarm(d.Farm, 0.25, 3, 1.5)
	want(t, "a power", ok && power > 0, true)
	wantLine(t, d, "farmed 3e800000 40400000 3fc00000", digitsOf(power), d)
	wantLine(t, d, "near", "0 1 40000000", d)
	wantLine(t, with([]float32{0, 9, 4}, []float32{0, 3, 3}), "near", "0 2 40a00000", with([]float32{0, 9, 4}, []float32{0, 3, 3}))
	wantNothing(t, d, "ok", "move 0 00000000 00000000", "move 1 40000000 00000000")
	wantLine(t, d, "move 0 80000000 00000000", "ok", with([]float32{num(minusZero), 2}, []float32{0, 0}))
	wantNothing(t, d, "no", "place 47c35001 00000000", "place 00000000 7f800000", "place 7fc00000 00000000", "move 2 00000000 00000000", "move -1 00000000 00000000", "move 0 c7c35001 00000000", "move 0 00000000 7fc00000",
		"drop 2", "drop -1", "drop 1000000000000000", "drop -1000000000000000", "speeds 7f800000 40800000", "speeds 00000000 bf800000", "speeds 7fc00000 40800000", "farmed 00000000 bf800000 3f800000", "farmed 00000000 3f800000 bf800000", "farmed ff800000 3f800000 3f800000", "farmed 00000000 7f7fffff 7f7fffff")
	one := with([]float32{5}, []float32{6})
	wantNothing(t, one, "no", "near", "drop 0")
	full := changedDesk(d, func(d *impl.Desk) { d.Farm = crowd() })
	wantNothing(t, full, "no", "place 00000000 00000000")
	want(t, "a full farm without a rotor", wantLineByHand(t, full, "drop 11"), "ok")
}

// rightWords returns a line of each form that is told or done at a new desk.
func rightWords() []string {
	return []string{
		"rotor", "air", "drive", "farm", "rotor " + rotorDigits(mill()), "air " + airDigits(gale()), "drive " + driveDigits(running(grinder(), 1.5)), "farm " + farmDigits(park()),
		"lift 3e000000", "drag 3e000000", "twist 3c23d70a", "power 41000000 3f800000 00000000 3f800000", "thrust 41000000 3f800000 00000000 3f800000", "height 41f00000", "dense 42c80000", "gusts 41200000 4 3e000000 3f000000 77",
		"hold", "free", "step 40000000 3f800000 3e800000", "place 41000000 40800000", "move 1 40a00000 40400000", "drop 1", "speeds 3e000000 41000000", "farmed 3e000000 41000000 3f800000", "near",
	}
}

func TestLinesOfEachForm(t *testing.T) {
	count := 0
	for _, forms := range formsOfLines() {
		count += len(forms)
	}
	want(t, "a line of each form", len(rightWords()), count)
	for _, d := range []impl.Desk{impl.NewDesk(), workshop()} {
		for _, line := range rightWords() {
			output := wantLineByHand(t, d, line)
			want(t, line+" has an output of its own", output != "no" && output != "what", true)
		}
	}
}

func TestLinesWithOtherCountsOfWords(t *testing.T) {
	d := workshop()
	for _, line := range rightWords() {
		words := strings.Split(line, " ")
		name, count := words[0], len(words)-1
		if count > 0 {
			less := strings.Join(words[:count], " ")
			// The name of a part alone tells it.
			output := wantLineByHand(t, d, less)
			want(t, less, output == "what", !slices.Contains(formsOfLines()[name], "t"))
			wantNothing(t, d, "what", less+"  "+words[count])
		}
		more := line + " 3f800000"
		output := "what"
		if slices.Contains(formsOfLines()[name], "t") && count == 0 {
			output = "no"
		}
		wantNothing(t, d, output, more, line+" ")
		wantNothing(t, d, "what", line+"  ", line+" 3f800000 3f800000 3f800000 3f800000 3f800000 3f800000", " "+line, "\t"+line, more+" 3f800000", strings.Repeat(line+" ", 3), strings.Replace(line, name, name+" ", 1)+" 3f800000")
	}
}

// wrongWords returns words that are no integers or no numbers, none of which has a blank.
func wrongWords(number bool) []string {
	list := wrongDecimals()
	if number {
		list = append(wrongDigits(), "none", "3f800000,3f800000", "3f800000,", ",3f800000", ",", "3f800000;", "none,none", "1", "0", "-1", "3f8000003f800000", repeated("3f800000", impl.MaxNumbers), repeated("3f800000", impl.MaxNumbers+1))
	} else {
		list = append(list, "none", "3f800000", "00000001", "0,1", "1,", "0x1")
	}
	return slices.DeleteFunc(list, func(word string) bool { return strings.Contains(word, " ") })
}

func TestLinesWithWrongWords(t *testing.T) {
	for _, d := range []impl.Desk{impl.NewDesk(), workshop()} {
		for _, line := range rightWords() {
			words := strings.Split(line, " ")
			forms := formsOfLines()[words[0]]
			form := forms[len(forms)-1]
			for i := 1; i < len(words); i++ {
				if form[i-1] == 't' {
					wantNothing(t, d, "no", words[0]+" ", words[0]+" none", words[0]+" "+words[1]+"\n", words[0]+" "+strings.ToUpper(words[1]))
					continue
				}
				for _, word := range wrongWords(form[i-1] == 'x') {
					other := slices.Clone(words)
					other[i] = word
					wantNothing(t, d, "no", strings.Join(other, " "))
				}
			}
		}
	}
}

func TestLinesOfNoForm(t *testing.T) {
	lines := []string{
		"", " ", "  ", "\n", "\t", "\x00", "\xff", "what", "no", "ok", "nothing", "lift", "drag", "twist", "power", "thrust", "height", "dense", "gusts", "step", "place", "move", "drop", "speeds", "farmed",
		"Air", "AIR", "air\n", "air\r", "air\t", "aır", "airs", "ai", "rotors", "roto", "drives", "driv", "farms", "far", "nearest", "nea", "holds", "hol", "held", "frees", "fre", "farmed\n", "profile", "profile none", "desk", "quit", "help",
		"lifts 00000000", "lif 00000000", "Lift 00000000", "lift\t00000000", "lift,00000000", "lift\u00a000000000", "lift00000000", "power 3f800000", "torque 3f800000 3f800000 00000000 3f800000", "speed 00000000 3f800000", "rotor;", "air,", "near 0", "near ", "hold ", "free ", "hold 3f800000",
		"hold hold", "near near", "air\nair", "hold\nhold", strings.Repeat("air ", 1000), strings.Repeat(" ", impl.MaxScript), strings.Repeat("air", impl.MaxScript), strings.Repeat(" ", 1000000),
	}
	for _, d := range []impl.Desk{impl.NewDesk(), workshop(), fullDesk(), bareDesk()} {
		wantNothing(t, d, "what", lines...)
	}
	// Words can be empty, and any text.
	wantNothing(t, workshop(), "no", "air ", "rotor ", "drive ", "farm ", "air \n", "air air", "rotor \x00", "farm \xff", "drive\x20;", "lift ", "drop ", "twist \n", "air "+strings.Repeat("3f800000,", 100000), "lift "+strings.Repeat("0", 1000000))
}

func TestLinesAtDesksThatAreNotValid(t *testing.T) {
	for _, d := range wrongDesks() {
		for _, line := range []string{"", "air", "rotor", "near", "hold", "height 41200000", "air " + airDigits(breeze()), "rotor " + rotorDigits(mill()), "drive " + driveDigits(running(grinder(), 1)), "farm " + farmDigits(pair())} {
			got, output, ok := impl.DeskCommand(d, line)
			wantNoDesk(t, line, got, ok)
			want(t, line+" has no output", output, "")
		}
	}
}
