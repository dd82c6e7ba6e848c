package tests

import (
	"fmt"
	"slices"
	"strings"
	"testing"

	"loop.example/g01256/impl"
)

func toldDesk(d impl.Desk, ok bool) string {
	if !ok && !sameDesks(d, impl.Desk{}) {
		return "failed with a desk"
	}
	if !ok {
		return ""
	}
	return toldRotor(d.Rotor, true) + "; " + toldAir(d.Air, true) + "; " + toldDrive(d.Drive, true) + "; " + toldFarm(d.Farm, true)
}

func toldText(s string, ok bool) string {
	if !ok && s != "" {
		return "failed with a text"
	}
	return fmt.Sprintf("%v %q", ok, s)
}

func toldScript(d impl.Desk, s string, ok bool) string { return toldDesk(d, ok) + toldText(s, ok) }

func toldJournalRun(d impl.Desk, count int64, ok bool) string {
	return toldDesk(d, ok) + toldIntegers(ok, count)
}

func toldRecovered(lines []string, n int64, ok bool) string {
	if !ok && len(lines) > 0 {
		return "failed with lines"
	}
	return fmt.Sprintf("%q", lines) + toldIntegers(ok, n)
}

// allOfDesk has what all functions with desks, and with their parts, tell of one.
func allOfDesk(d, e impl.Desk, text string) []string {
	return []string{
		told(true, flag(impl.ValidDesk(d))), told(true, flag(impl.SameDesk(d, e))), toldText(impl.ProfileText(d.Rotor.Profile)), toldText(impl.RotorText(d.Rotor)), toldText(impl.AirText(d.Air)), toldText(impl.DriveText(d.Drive)), toldText(impl.FarmText(d.Farm)),
		toldScript(impl.DeskCommand(d, text)), toldScript(impl.RunDesk(d, text)), toldScript(impl.RunDesk(d, text+"\n")), toldJournalRun(impl.RunJournal(d, text)), toldJournalRun(impl.RunJournal(d, journalByHand([]string{text}))),
	}
}

// allOfText has what all functions with texts tell of one.
func allOfText(text string) []string {
	useless, others, ok := impl.CountOutputs(text)
	return []string{
		toldProfile(impl.ReadProfile(text)), toldRotor(impl.ReadRotor(text)), toldAir(impl.ReadAir(text)), toldDrive(impl.ReadDrive(text)), toldFarm(impl.ReadFarm(text)),
		toldIntegers(ok, useless, others), toldText(impl.JournalOf([]string{text, "air"})), toldText(impl.JournalOf(strings.Split(text, "\n"))), toldRecovered(impl.RecoverJournal(text)), toldDesk(impl.NewDesk(), true),
	}
}

// textsOfAllSorts returns texts, lines, scripts, outputs and journals, and what is none of them.
func textsOfAllSorts() []string {
	list := append(rightWords(), scriptOf(rightWords()...), journalByHand(rightWords()), journalByHand(someLines())+"x", profileDigits(wing()), rotorDigits(fullMill()), airDigits(gale()), driveDigits(running(grinder(), 1)), farmDigits(crowd()))
	for _, s := range []string{"", " ", "\n", "none", ";", ":", ",", "\x00", "\xff", "0 \n", "no\nwhat\nok\n", "air "} {
		list = append(list, s, strings.Repeat(s, 1000), strings.Repeat(s, impl.MaxScript), strings.Repeat(s, 100000))
	}
	for _, word := range append(wrongDigits(), wrongDecimals()...) {
		list = append(list, "lift "+word, "drop "+word, "air "+word, word+"\n")
	}
	return list
}

func TestPromise1TextsAndDesksReturnTheSameAgain(t *testing.T) {
	texts := textsOfAllSorts()
	desks := slices.Concat([]impl.Desk{impl.NewDesk(), workshop(), fullDesk(), bareDesk(), {}}, wrongDesks()[150:200])
	within(t, func() {
		wantToldAgain(t, len(texts), 1, func(i, j int) []string { return allOfText(texts[i]) })
		wantToldAgain(t, len(texts), 7, func(i, j int) []string {
			return allOfDesk(desks[(i*7+j)%len(desks)], desks[(i+j)%len(desks)], texts[i])
		})
	})
}

func spareDesk(d impl.Desk) impl.Desk {
	return deskOf(spareRotor(d.Rotor), d.Air, d.Drive, spareFarm(d.Farm))
}

func deskLeftAlone(got, wanted impl.Desk) bool {
	return sameDesks(got, wanted) && rotorLeftAlone(got.Rotor, wanted.Rotor) && farmLeftAlone(got.Farm, wanted.Farm)
}

// linesOfAllSorts returns lines that are done, told, refused and unknown, and lines that change nothing.
func linesOfAllSorts() []string {
	return append(rightWords(), "", "nothing", "air ", "air none", "rotor none", "farm 0", "near 1", "drop 0", "drop 7", "move 0 00000000 7fc00000", "lift 7f800000", "twist 7fc00000", "twist 00000000", "step 00000000 00000000 00000000", "place 7f800000 00000000")
}

func TestPromise1DesksAreLeftAlone(t *testing.T) {
	for _, d := range []impl.Desk{impl.NewDesk(), workshop(), fullDesk(), bareDesk(), wrongDesks()[20], wrongDesks()[len(wrongDesks())-20]} {
		for _, line := range linesOfAllSorts() {
			room, other := spareDesk(d), spareDesk(d)
			got := allOfDesk(room, other, line)
			want(t, "the same with room behind the lists", slices.Equal(got, allOfDesk(d, d, line)), true)
			want(t, "a desk is left alone by "+line, deskLeftAlone(room, d) && deskLeftAlone(other, d), true)
		}
	}
	room := spare(someLines(), "sign")
	journal, ok := impl.JournalOf(room)
	wantText(t, journal, ok, journalByHand(someLines()))
	want(t, "lines are left alone", slices.Equal(room[:len(room)+4], append(someLines(), "sign", "sign", "sign", "sign")), true)
}

// overwriteDesk fills all lists of a desk, and the room behind them, with other numbers, and reports whether no list has got those of another one.
func overwriteDesk(d impl.Desk) bool {
	p := d.Rotor.Profile
	lists := [][]float32{p.Angles, p.Lifts, p.Drags, d.Farm.X, d.Farm.Y}
	for i, list := range lists {
		all := list[:cap(list)]
		for k := range all {
			all[k] = float32(100 + i)
		}
	}
	overwriteStations(d.Rotor.Stations)
	for i, list := range lists {
		if slices.ContainsFunc(list[:cap(list)], func(x float32) bool { return x != float32(100+i) }) {
			return false
		}
	}
	return true
}

func TestPromise1DesksShareNoMemory(t *testing.T) {
	for _, d := range []impl.Desk{impl.NewDesk(), workshop(), fullDesk(), bareDesk()} {
		kept := copyOfDesk(d)
		for _, line := range linesOfAllSorts() {
			for what, do := range map[string]func(d impl.Desk) (impl.Desk, bool){
				"a line": func(d impl.Desk) (impl.Desk, bool) {
					end, _, ok := impl.DeskCommand(d, line)
					return end, ok
				},
				"a script": func(d impl.Desk) (impl.Desk, bool) {
					end, _, ok := impl.RunDesk(d, scriptOf("air", line))
					return end, ok
				},
				"an empty script": func(d impl.Desk) (impl.Desk, bool) {
					end, _, ok := impl.RunDesk(d, "")
					return end, ok
				},
				"a journal": func(d impl.Desk) (impl.Desk, bool) {
					end, _, ok := impl.RunJournal(d, journalByHand([]string{line, "near"}))
					return end, ok
				},
				"an empty journal": func(d impl.Desk) (impl.Desk, bool) {
					end, _, ok := impl.RunJournal(d, "x")
					return end, ok
				},
			} {
				room := spareDesk(d)
				got, ok := do(room)
				wanted := copyOfDesk(got)
				want(t, "the lists of a desk behind "+what+" of "+line+" are not the same", ok && overwriteDesk(got), true)
				want(t, "the desk before "+what+" of "+line, deskLeftAlone(room, kept), true)
				again, ok := do(room)
				wantDesk(t, "again", again, ok, wanted)
			}
		}
	}
	// A desk of which all lists are parts of one.
	all := []float32{0, 0.125, 0.25}
	d := workshop()
	d.Rotor.Profile = impl.Profile{Angles: all, Lifts: all, Drags: all}
	d.Farm.X, d.Farm.Y = all, all
	end, _, ok := impl.DeskCommand(d, "hold")
	want(t, "the lists are not the same any more", ok && overwriteDesk(end) && sameNumbers(all, []float32{0, 0.125, 0.25}), true)
}

func TestPromise1WhatIsReadSharesNoMemory(t *testing.T) {
	kept := impl.NewDesk()
	wanted := copyOfDesk(kept)
	want(t, "the lists of a new desk", overwriteDesk(kept), true)
	wantDesk(t, "a new desk again", impl.NewDesk(), true, wanted)
	for range 2 {
		p, one := impl.ReadProfile(profileDigits(wing()))
		r, two := impl.ReadRotor(rotorDigits(mill()))
		f, three := impl.ReadFarm(farmDigits(crowd()))
		wantProfile(t, "a profile", p, one, wing())
		wantRotor(t, "a rotor", r, two, mill())
		wantFarm(t, "a farm", f, three, crowd())
		want(t, "lists that are read", overwriteDesk(impl.Desk{Rotor: r, Farm: f}) && overwriteDesk(impl.Desk{Rotor: impl.Rotor{Profile: p}}), true)
		lines, _, ok := impl.RecoverJournal(journalByHand(someLines()))
		want(t, "lines", ok && slices.Equal(lines, someLines()), true)
		clear(lines[:cap(lines)])
	}
}

// anyNumberWord returns the text of a number that may do, or a wrong word.
func anyNumberWord(n *noise) string {
	switch n.next() % 12 {
	case 0:
		words := wrongWords(true)
		return words[int(n.next())%len(words)]
	case 1:
		odd := oddNumbers()
		return digitsOf(odd[int(n.next())%len(odd)])
	case 2:
		return digitsOf(float32(n.small(9)))
	case 3, 4:
		return digitsOf(abs(n.between()))
	}
	return digitsOf(10 * abs(n.between()))
}

func anyIntegerWord(n *noise) string {
	if n.next()%9 == 0 {
		words := wrongWords(false)
		return words[int(n.next())%len(words)]
	}
	return impl.Decimal(int64(n.small(12)) / 2)
}

// anyText returns the text of a part with a name, or a wrong one.
func anyText(n *noise, name string) string {
	if n.next()%4 == 0 {
		texts := []string{"", "none", ";", airDigits(breeze()), farmDigits(pair()) + ";", "0"}
		return texts[int(n.next())%len(texts)]
	}
	switch name {
	case "rotor":
		return rotorDigits(anyRotor(n, 2+int(n.next()%4)))
	case "air":
		return airDigits(anyAir(n))
	case "drive":
		return driveDigits(anyDrive(n))
	}
	return farmDigits(anyFarm(n, 1+int(n.next()%impl.MaxRotors), 20))
}

// anyLine returns a line that mostly has one of the forms.
func anyLine(n *noise) string {
	forms := formsOfLines()
	var names []string
	for name := range forms {
		names = append(names, name)
	}
	slices.Sort(names)
	name := names[int(n.next())%len(names)]
	form := forms[name][int(n.next())%len(forms[name])]
	line := name
	for _, word := range form {
		switch word {
		case 'x':
			line += " " + anyNumberWord(n)
		case 'n':
			line += " " + anyIntegerWord(n)
		case 't':
			line += " " + anyText(n, name)
		}
	}
	switch n.next() % 40 {
	case 0:
		return line + " "
	case 1:
		return line[1:]
	case 2:
		return strings.Replace(line, " ", "  ", 1)
	case 3:
		return line[:len(line)-1]
	}
	return line
}

// anyScript returns lines that a script and a journal can have.
func anyScript(n *noise, count int) []string {
	var lines []string
	for range count {
		if line := anyLine(n); !strings.Contains(line, "\n") && len(line) < 1000 {
			lines = append(lines, line)
		}
	}
	return lines
}

func TestPromise9LinesOutputWhatTheFunctionsTell(t *testing.T) {
	n := noise(95)
	desks := rightDesks()
	seen := map[string]int{}
	for i := range 20000 {
		line := anyLine(&n)
		output := wantLineByHand(t, desks[i%len(desks)], line)
		if output != "no" && output != "what" {
			output = strings.Split(line, " ")[0]
		}
		seen[output]++
	}
	for name := range formsOfLines() {
		want(t, name+" is told or done many times", seen[name] > 20, true)
	}
	want(t, "many lines are refused, and many unknown", seen["no"] > 1000 && seen["what"] > 500, true)
}

func TestPromise9ScriptsOutputWhatTheirLinesDo(t *testing.T) {
	n := noise(96)
	for _, d := range rightDesks() {
		lines := anyScript(&n, 30)
		text := wantScript(t, d, lines...)
		useless, others, ok := impl.CountOutputs(text)
		want(t, "an output for each line", ok && useless+others == int64(len(lines)), true)
		// The lines that were refused or unknown can as well be left out.
		var useful []string
		for i, output := range strings.Split(strings.TrimSuffix(text, "\n"), "\n") {
			if output != "no" && output != "what" {
				useful = append(useful, lines[i])
			}
		}
		want(t, "as many as are useful", int64(len(useful)), others)
		all, _, one := impl.RunDesk(d, scriptOf(lines...))
		some, _, two := impl.RunDesk(d, scriptOf(useful...))
		want(t, "the same desk without lines that change nothing", one && two && impl.SameDesk(all, some) && sameDesks(all, some), true)
	}
}

func TestPromise9DesksAreToldAndReadToTheLastBit(t *testing.T) {
	n := noise(97)
	for _, d := range rightDesks() {
		end, _, ok := impl.RunDesk(d, scriptOf(anyScript(&n, 20)...))
		want(t, "success", ok, true)
		_, text, ok := impl.RunDesk(end, "rotor\nair\ndrive\nfarm\n")
		parts := strings.Split(text, "\n")
		want(t, "four parts", ok && len(parts) == 5, true)
		again, text, ok := impl.RunDesk(impl.NewDesk(), "rotor "+parts[0]+"\nair "+parts[1]+"\ndrive "+parts[2]+"\nfarm "+parts[3]+"\n")
		wantText(t, text, ok, "ok\nok\nok\nok\n")
		wantDesk(t, "read again", again, impl.SameDesk(again, end), end)
	}
}

func TestPromise9JournalsAreRecoveredAsFarAsTheyAreIntact(t *testing.T) {
	n := noise(98)
	for range 1500 {
		lines := anyScript(&n, 1+int(n.next()%8))
		journal := journalByHand(lines)
		wantRecovered(t, journal, lines, int64(len(journal)))
		// One byte is another one, and all lines before it are intact.
		k := int(n.next()) % len(journal)
		other := []byte(journal)
		other[k] += byte(1 + n.next()%255)
		intact, length := 0, 0
		for _, entry := range entriesByHand(lines) {
			if length+len(entry) > k {
				break
			}
			length += len(entry)
			intact++
		}
		wantRecovered(t, string(other), lines[:intact], int64(length))
		wantRecovered(t, journal[:k], lines[:intact], int64(length))
		wantRecoveredByHand(t, journal[:k]+journal[k+1:])
		wantRecoveredByHand(t, journal[:k]+string(other[k:]))
	}
}

func TestPromise9JournalsBringADeskBack(t *testing.T) {
	n := noise(99)
	for _, d := range rightDesks() {
		lines := anyScript(&n, 12)
		journal, one := impl.JournalOf(lines)
		end, _, two := impl.RunDesk(d, scriptOf(lines...))
		again, count, three := impl.RunJournal(d, journal)
		want(t, "success", one && two && three && count == int64(len(lines)), true)
		wantDesk(t, "brought back", again, impl.SameDesk(again, end), end)
	}
}
