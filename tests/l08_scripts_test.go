package tests

import (
	"strings"
	"testing"

	"loop.example/g01256/impl"
)

// scriptByHand carries out lines one after another.
func scriptByHand(d impl.Desk, lines []string) (impl.Desk, string) {
	outputs := ""
	for _, line := range lines {
		next, output := lineByHand(d, line)
		d = next
		outputs += output + "\n"
	}
	return d, outputs
}

// scriptOf returns the script of lines.
func scriptOf(lines ...string) string {
	script := ""
	for _, line := range lines {
		script += line + "\n"
	}
	return script
}

// wantScript checks what the script of lines outputs, and the desk behind it.
func wantScript(t *testing.T, d impl.Desk, lines ...string) string {
	t.Helper()
	wanted, outputs := scriptByHand(d, lines)
	got, text, ok := impl.RunDesk(d, scriptOf(lines...))
	wantText(t, text, ok, outputs)
	wantDesk(t, "the desk behind a script", got, ok, wanted)
	return text
}

func wantNoScript(t *testing.T, what string, d impl.Desk, script string) {
	t.Helper()
	got, text, ok := impl.RunDesk(d, script)
	wantNoText(t, text, ok)
	wantNoDesk(t, what, got, ok)
}

func TestScriptsOfFewLines(t *testing.T) {
	d := workshop()
	got, text, ok := impl.RunDesk(d, "")
	wantText(t, text, ok, "")
	wantDesk(t, "no lines", got, ok, d)
	got, text, ok = impl.RunDesk(d, "\n")
	wantText(t, text, ok, "what\n")
	wantDesk(t, "an empty line", got, ok, d)
	got, text, ok = impl.RunDesk(d, "hold\n")
	wantText(t, text, ok, "ok\n")
	wantDesk(t, "a line", got, ok, changedDesk(d, func(d *impl.Desk) { d.Drive.State = impl.DriveHeld }))
	got, text, ok = impl.RunDesk(d, "\n\nair none\nheight 7fc00000\nair\n\n")
	wantText(t, text, ok, "what\nwhat\nno\nno\n"+airDigits(breeze())+"\nwhat\n")
	wantDesk(t, "lines that change nothing", got, ok, d)
	wantScript(t, d, rightWords()...)
}

func TestScriptsGoOnWhereTheLineBeforeHasLeftTheDesk(t *testing.T) {
	d := impl.NewDesk()
	text := wantScript(t, d, "place 40000000 40800000", "near", "drop 0", "near", "drop 0", "drop 0", "near", "farm", "move 0 3f800000 3f800000", "farm")
	want(t, "outputs", text, "ok\n0 1 40800000\nok\n0 1 408f1bbd\nok\nno\nno\n40000000;40800000;3f800000,3e800000,3e000000\nok\n3f800000;3f800000;3f800000,3e800000,3e000000\n")
	text = wantScript(t, d, "hold", "step 40000000 40000000 3f000000", "drive", "free", "step 40000000 40000000 3f000000", "drive", "hold", "hold", "free")
	want(t, "outputs of a drive", strings.Count(text, "ok\n"), 7)
	text = wantScript(t, d, "twist 3e800000", "rotor", "twist be800000", "rotor", "lift 3e000000", "rotor "+rotorDigits(mill()), "lift 3e000000", "power 41000000 3f800000 00000000 3f800000", "rotor 1", "rotor")
	want(t, "the rotor in the end", strings.HasSuffix(text, "\nno\n"+rotorDigits(mill())+"\n"), true)
	text = wantScript(t, d, "air", "air 3f800000,3f800000,40000000,00000000", "air", "air 7fc00000,3f800000,40000000,00000000", "air", "height 40000000", "gusts 3f800000 2 00000000 00000000 5", "speeds 00000000 41000000", "farmed 00000000 41000000 3f800000")
	want(t, "air in the end", strings.HasPrefix(text, "3f800000,41200000,41000000,3e800000\nok\n3f800000,3f800000,40000000,00000000\nno\n3f800000,3f800000,40000000,00000000\n40000000\n40000000,40000000\n"), true)
	// A text that is told is read again, so that nothing changes.
	for _, d := range rightDesks() {
		parts := []string{"rotor " + rotorDigits(d.Rotor), "air " + airDigits(d.Air), "drive " + driveDigits(d.Drive), "farm " + farmDigits(d.Farm)}
		end, text, ok := impl.RunDesk(impl.NewDesk(), scriptOf(parts...))
		wantText(t, text, ok, "ok\nok\nok\nok\n")
		wantDesk(t, "all parts of another desk", end, ok, d)
		wantScript(t, d, append(parts, "rotor", "air", "drive", "farm", "", "air", "no", "near")...)
	}
}

func TestScriptsOfManyLines(t *testing.T) {
	d := workshop()
	empty := strings.Repeat("\n", impl.MaxScript)
	got, text, ok := impl.RunDesk(d, empty)
	wantText(t, text, ok, strings.Repeat("what\n", impl.MaxScript))
	wantDesk(t, "empty lines", got, ok, d)
	wantNoScript(t, "one empty line too much", d, empty+"\n")
	long := "air " + strings.Repeat("x", impl.MaxScript-5) + "\n"
	got, text, ok = impl.RunDesk(d, long)
	wantText(t, text, ok, "no\n")
	wantDesk(t, "a long line", got, ok, d)
	wantNoScript(t, "a line that is too long", d, "x"+long)
	// Outputs can be longer than scripts.
	count := impl.MaxScript / len("rotor\n")
	got, text, ok = impl.RunDesk(fullDesk(), strings.Repeat("rotor\n", count))
	wantText(t, text, ok, strings.Repeat(rotorDigits(fullDesk().Rotor)+"\n", count))
	wantDesk(t, "rotors", got, ok, fullDesk())
	lines := strings.Split(strings.Repeat("twist 3c23d70a\nstep 40a00000 40000000 3e800000\nmove 1 40a00000 40400000\nnear\n\n", 100), "\n")
	wantScript(t, d, lines...)
	wantScript(t, d, strings.Split(strings.Repeat("power 41000000 3f800000 00000000 3f800000\n", 200), "\n")...)
}

func TestScriptsThatDoNotEndWithANewline(t *testing.T) {
	for _, script := range []string{"air", " ", "air\nnear", "\n ", "\n\nair", "air\n\r", "air\n\x00", "near\r", "\x00", "\xff", strings.Repeat("\n", impl.MaxScript-1) + "x", strings.Repeat("x", impl.MaxScript), strings.Repeat("x", impl.MaxScript+1), strings.Repeat("\n", 10*impl.MaxScript)} {
		wantNoScript(t, "without a newline", workshop(), script)
	}
	wantScript(t, workshop(), "air\r", "\r", "near\x00", "\xff\xfe", "air\tair", "air \r")
}

func TestScriptsAtDesksThatAreNotValid(t *testing.T) {
	for _, d := range wrongDesks() {
		for _, script := range []string{"", "\n", "air\n", "nothing\n", "air", "rotor " + rotorDigits(mill()) + "\nair " + airDigits(breeze()) + "\ndrive " + driveDigits(running(grinder(), 1)) + "\nfarm " + farmDigits(pair()) + "\n"} {
			wantNoScript(t, "a desk that is not valid", d, script)
		}
	}
}

func wantOutputs(t *testing.T, text string, useless, others int64) {
	t.Helper()
	x, y, ok := impl.CountOutputs(text)
	if !ok || x != useless || y != others {
		t.Errorf("%.60q: got %v %v %v, want %v %v", text, x, y, ok, useless, others)
	}
}

func wantNoOutputs(t *testing.T, text string) {
	t.Helper()
	x, y, ok := impl.CountOutputs(text)
	if ok || x != 0 || y != 0 {
		t.Errorf("%.60q: got %v %v %v, want none", text, x, y, ok)
	}
}

func TestOutputsAreCounted(t *testing.T) {
	wantOutputs(t, "", 0, 0)
	wantOutputs(t, "ok\n", 0, 1)
	wantOutputs(t, "no\n", 1, 0)
	wantOutputs(t, "what\n", 1, 0)
	wantOutputs(t, "no\nwhat\nok\nno\n", 3, 1)
	wantOutputs(t, "3f800000,41200000\nno\n0 1 40800000\n", 1, 2)
	for _, d := range []impl.Desk{impl.NewDesk(), workshop()} {
		_, text, _ := impl.RunDesk(d, scriptOf(rightWords()...))
		wantOutputs(t, text, 0, int64(len(rightWords())))
		_, text, _ = impl.RunDesk(d, "air\n\nair none\nnear\nnear 1\ndrop -1\nhold\n")
		wantOutputs(t, text, 4, 3)
	}
}

func TestOutputsWithNoAndWhatInOtherPlaces(t *testing.T) {
	for _, line := range []string{"", " ", "no no", "nowhat", "what no", " no", "no ", " what", "what ", "ok no", "no,what", "not", "whatever", "nno", "n", "wha", "hat", "No", "NO", "What", "WHAT", "no\r", "what\x00", "none", "ok", "\xff"} {
		wantOutputs(t, line+"\n", 0, 1)
		wantOutputs(t, "no\n"+line+"\nwhat\n"+line+"\nok\n", 2, 3)
	}
	wantOutputs(t, "\n\n\n", 0, 3)
	wantOutputs(t, "\nno\n\nwhat\n", 2, 2)
}

func TestOutputsOfOtherTexts(t *testing.T) {
	for _, text := range []string{"no", "what", "ok", " ", "no\nwhat", "ok\n ", "\nno", "no\n\r", "\x00", "\xff", strings.Repeat("no\n", 10) + "n"} {
		wantNoOutputs(t, text)
	}
	wantOutputs(t, strings.Repeat("\n", impl.MaxScript), 0, impl.MaxScript)
	wantNoOutputs(t, strings.Repeat("\n", impl.MaxScript+1))
	wantOutputs(t, strings.Repeat("what\n", impl.MaxScript/5), impl.MaxScript/5, 0)
	wantNoOutputs(t, strings.Repeat("what\n", impl.MaxScript/5+1))
	wantOutputs(t, strings.Repeat("no\n", impl.MaxScript/3)+"\n", impl.MaxScript/3, 1)
	wantNoOutputs(t, strings.Repeat("x", impl.MaxScript))
	wantOutputs(t, strings.Repeat("x", impl.MaxScript-1)+"\n", 0, 1)
	wantNoOutputs(t, strings.Repeat("x", impl.MaxScript)+"\n")
	// What a desk outputs can be more than can be counted.
	_, text, ok := impl.RunDesk(fullDesk(), strings.Repeat("rotor\n", 100))
	want(t, "long outputs", ok && len(text) > impl.MaxScript, true)
	wantNoOutputs(t, text)
}
