package tests

import (
	"fmt"
	"slices"
	"strings"
	"testing"

	"loop.example/g01256/impl"
)

// entriesByHand returns the lines of the journal of some lines, each with its newline.
func entriesByHand(lines []string) []string {
	var entries []string
	check := 0
	for _, line := range lines {
		for _, c := range []byte(line) {
			check = (761*check + int(c) + 83) % 65003
		}
		entries = append(entries, fmt.Sprintf("%d %s\n", check, line))
	}
	return entries
}

func journalByHand(lines []string) string { return strings.Join(entriesByHand(lines), "") }

// recoveredByHand tries all journals of the lines that are behind the first blanks of a text.
func recoveredByHand(text string) ([]string, int64) {
	var lines []string
	for entry := range strings.SplitSeq(text, "\n") {
		_, line, _ := strings.Cut(entry, " ")
		lines = append(lines, line)
	}
	for count := len(lines); count > 0; count-- {
		if journal := journalByHand(lines[:count]); strings.HasPrefix(text, journal) {
			return lines[:count], int64(len(journal))
		}
	}
	return nil, 0
}

func wantRecovered(t *testing.T, text string, lines []string, length int64) {
	t.Helper()
	got, n, ok := impl.RecoverJournal(text)
	if !ok || n != length || !slices.Equal(got, lines) {
		t.Errorf("%.200q: got %.20q %v %v, want %.20q %v", text, got, n, ok, lines, length)
	}
	end, count, ok := impl.RunJournal(workshop(), text)
	if !ok || count != int64(len(lines)) {
		t.Errorf("%.200q: got %v %v, want %v lines", text, count, ok, len(lines))
	}
	wanted, _ := scriptByHand(workshop(), lines)
	wantDesk(t, "the desk behind a journal", end, ok, wanted)
}

// wantRecoveredByHand checks what is recovered of a text, and returns how many lines that are.
func wantRecoveredByHand(t *testing.T, text string) int {
	t.Helper()
	lines, length := recoveredByHand(text)
	wantRecovered(t, text, lines, length)
	return len(lines)
}

func wantJournal(t *testing.T, lines []string) string {
	t.Helper()
	journal, ok := impl.JournalOf(lines)
	wantText(t, journal, ok, journalByHand(lines))
	wantRecovered(t, journal, lines, int64(len(journal)))
	return journal
}

func wantNoJournal(t *testing.T, lines []string) {
	t.Helper()
	journal, ok := impl.JournalOf(lines)
	wantNoText(t, journal, ok)
}

// someLines returns lines of a journal that change a desk, and others.
func someLines() []string {
	return []string{"hold", "", "twist 3c23d70a", "near", "air none", "place 41000000 40800000", " ", "what 1", "free", "move 1 40a00000 40400000"}
}

func TestJournalsHaveTheirLinesWithCheckNumbers(t *testing.T) {
	want(t, "the journal of two lines", wantJournal(t, []string{"air", "near"}), "55230 air\n6062 near\n")
	want(t, "that of an empty line", wantJournal(t, []string{""}), "0 \n")
	want(t, "that of many empty lines", wantJournal(t, []string{"", "", "a", ""}), "0 \n0 \n180 a\n180 \n")
	want(t, "that of no lines", wantJournal(t, nil), "")
	want(t, "that of no lines that is not nil", wantJournal(t, []string{}), "")
	want(t, "that of a blank", wantJournal(t, []string{" "}), "115  \n")
	wantJournal(t, someLines())
	wantJournal(t, rightWords())
	for c := range 256 {
		line := string([]byte{byte(c)})
		if line == "\n" {
			wantNoJournal(t, []string{line})
			continue
		}
		wantJournal(t, []string{line})
		wantJournal(t, []string{"a" + line, line + "a", line + line, "", line})
	}
}

func TestJournalsOfLinesWithNewlines(t *testing.T) {
	for _, line := range []string{"\n", "a\nb", "air\n", "\nair", "\n\n", "air\r\nnear"} {
		wantNoJournal(t, []string{line})
		wantNoJournal(t, []string{"air", line})
		wantNoJournal(t, []string{line, "air"})
		wantNoJournal(t, []string{"air", line, "air"})
	}
}

func TestJournalsOfMaxScriptBytes(t *testing.T) {
	for _, head := range [][]string{nil, {""}, {"air"}, {"air", "", "near"}} {
		fits, tooLong := 0, 0
		for size := impl.MaxScript - 40; size <= impl.MaxScript+1; size++ {
			lines := append(slices.Clone(head), strings.Repeat("x", size))
			if journal := journalByHand(lines); len(journal) > impl.MaxScript {
				wantNoJournal(t, lines)
				tooLong++
				continue
			} else if len(journal) == impl.MaxScript {
				fits++
			}
			wantJournal(t, lines)
		}
		want(t, "some fit just, and some do not", fits > 0 && tooLong > 0, true)
	}
	count := impl.MaxScript / 3
	empty := make([]string, count)
	want(t, "many empty lines", len(wantJournal(t, empty)), 3*count)
	wantNoJournal(t, append(empty, ""))
	wantNoJournal(t, append(empty, "", ""))
	wantNoJournal(t, make([]string, 100000))
	wantNoJournal(t, []string{strings.Repeat("x", 1000000)})
	wantNoJournal(t, append([]string{strings.Repeat("x", impl.MaxScript)}, someLines()...))
	wantNoJournal(t, append(someLines(), strings.Repeat("x", impl.MaxScript)))
}

func TestJournalsThatAreCut(t *testing.T) {
	for _, lines := range [][]string{someLines(), rightWords(), {"", "", ""}, {"1 air", "2  near", "  "}} {
		journal := wantJournal(t, lines)
		entries := entriesByHand(lines)
		count, length := 0, 0
		for k := range len(journal) + 1 {
			if count < len(entries) && k == length+len(entries[count]) {
				length += len(entries[count])
				count++
			}
			wantRecovered(t, journal[:k], lines[:count], int64(length))
		}
		want(t, "all lines in the end", count, len(lines))
	}
}

func TestJournalsInWhichAByteIsAnotherOne(t *testing.T) {
	lines := someLines()
	journal := wantJournal(t, lines)
	entries := entriesByHand(lines)
	for k, start, count := 0, 0, 0; k < len(journal); k++ {
		if k == start+len(entries[count]) {
			start += len(entries[count])
			count++
		}
		for c := range 256 {
			if byte(c) == journal[k] {
				continue
			}
			other := journal[:k] + string([]byte{byte(c)}) + journal[k+1:]
			got, n, ok := impl.RecoverJournal(other)
			if !ok || n != int64(start) || !slices.Equal(got, lines[:count]) {
				t.Fatalf("%q: got %q %v %v, want %v lines", other, got, n, ok, count)
			}
		}
		wantRecoveredByHand(t, journal[:k]+"x"+journal[k:])
		wantRecoveredByHand(t, journal[:k]+" "+journal[k:])
		wantRecoveredByHand(t, journal[:k]+"\n"+journal[k:])
		wantRecoveredByHand(t, journal[:k]+"0"+journal[k:])
		wantRecoveredByHand(t, journal[:k]+journal[k+1:])
	}
}

func TestJournalsWithOtherLines(t *testing.T) {
	for _, lines := range [][]string{someLines(), {"", "", "air", "", ""}, rightWords()} {
		entries := entriesByHand(lines)
		for i := range entries {
			out := slices.Delete(slices.Clone(entries), i, i+1)
			wantRecoveredByHand(t, strings.Join(out, ""))
			for k := range entries {
				exchanged := slices.Clone(entries)
				exchanged[i], exchanged[k] = exchanged[k], exchanged[i]
				wantRecoveredByHand(t, strings.Join(exchanged, ""))
				repeated := slices.Insert(slices.Clone(entries), i, entries[k])
				wantRecoveredByHand(t, strings.Join(repeated, ""))
			}
			for _, line := range []string{"\n", "0 \n", "air\n", "0 air\n", " \n", "55230 air\n", "55230 air\r\n", "-1 x\n"} {
				wantRecoveredByHand(t, strings.Join(slices.Insert(slices.Clone(entries), i, line), ""))
			}
		}
	}
	// Lines whose check number is the one of the line before may come again.
	want(t, "an empty line more", wantRecoveredByHand(t, "0 \n0 \n180 a\n180 \n180 \n"), 5)
	want(t, "a line taken out", wantRecoveredByHand(t, "55230 air\n\n6062 near\n"), 1)
	want(t, "the second line alone", wantRecoveredByHand(t, "6062 near\n"), 0)
	want(t, "lines exchanged", wantRecoveredByHand(t, "6062 near\n55230 air\n"), 0)
	want(t, "a line repeated", wantRecoveredByHand(t, "55230 air\n55230 air\n"), 1)
}

func TestJournalsWithOtherCheckNumbers(t *testing.T) {
	for _, number := range []string{"055230", "+55230", "-55230", "00000055230", "55230.0", "120233", "5.5230e4", "0xd7be", "55230 ", " 55230", "55231", "55229", "5523", "552300", "", "-", "55230\t", "55230\n", "55230\r", "18446744073709606846"} {
		text := number + " air\n"
		wantRecovered(t, text, nil, 0)
		wantRecovered(t, "0 \n"+text, []string{""}, 3)
	}
	for _, number := range []string{"00", "-0", "+0", "000", "", " ", "1", "65003"} {
		wantRecovered(t, number+" \n", nil, 0)
		wantRecovered(t, "55230 air\n"+number+" \n", []string{"air"}, 10)
	}
	for _, text := range []string{"55230air\n", "55230,air\n", "55230\tair\n", "55230  air\n", "55230 air ", "55230 air \n", "55230 Air\n", "55230 air\r\n", "55230", "55230\n", "55230 ", "\n55230 air\n", " 55230 air\n", "air\n", "\xff"} {
		wantRecovered(t, text, nil, 0)
	}
}

func TestJournalsWithTextBehindThem(t *testing.T) {
	for _, lines := range [][]string{nil, {""}, {"air"}, someLines()} {
		journal := journalByHand(lines)
		for _, text := range []string{"x", "\n", " ", "\n\n", "air", "air\n", "0", "0 ", "0 x", "\x00", "\xff", strings.Repeat("x", 1000), strings.Repeat("\n", 1000)} {
			wantRecovered(t, journal+text, lines, int64(len(journal)))
		}
		rest := strings.Repeat("x", impl.MaxScript-len(journal))
		wantRecovered(t, journal+rest, lines, int64(len(journal)))
		wantNoRecovery(t, workshop(), journal+rest+"x")
		wantNoRecovery(t, workshop(), journal+rest+"\n")
	}
}

func wantNoRecovery(t *testing.T, d impl.Desk, text string) {
	t.Helper()
	lines, n, ok := impl.RecoverJournal(text)
	want(t, "a text that is too long", !ok && n == 0 && len(lines) == 0, true)
	end, count, ok := impl.RunJournal(d, text)
	wantNoDesk(t, "a text that is too long", end, ok)
	want(t, "no lines", count, 0)
}

func TestJournalsOfTextsThatAreTooLong(t *testing.T) {
	for _, text := range []string{strings.Repeat("0 \n", impl.MaxScript/3) + "x\n", strings.Repeat("\n", impl.MaxScript+1), strings.Repeat("x", 1000000), "0 " + strings.Repeat("x", impl.MaxScript)} {
		wantNoRecovery(t, workshop(), text)
	}
	wantRecovered(t, strings.Repeat("0 \n", impl.MaxScript/3)+"x", make([]string, impl.MaxScript/3), impl.MaxScript-1)
}

func TestJournalsAreRunLikeScripts(t *testing.T) {
	for _, d := range []impl.Desk{impl.NewDesk(), workshop(), fullDesk(), bareDesk()} {
		for _, lines := range [][]string{nil, {""}, someLines(), rightWords(), {"air none", "near 1", "hold", "what"}} {
			wanted, _, one := impl.RunDesk(d, scriptOf(lines...))
			end, count, two := impl.RunJournal(d, journalByHand(lines)+"0 x\n")
			want(t, "all lines, whether they change anything or not", one && two && count == int64(len(lines)), true)
			wantDesk(t, "the desk behind them", end, two, wanted)
		}
	}
}

func TestJournalsAtDesksThatAreNotValid(t *testing.T) {
	for _, d := range wrongDesks() {
		for _, text := range []string{"", "x", "0 \n", journalByHand(someLines()), journalByHand([]string{"rotor " + rotorDigits(mill()), "air " + airDigits(breeze()), "drive " + driveDigits(running(grinder(), 1)), "farm " + farmDigits(pair())})} {
			end, count, ok := impl.RunJournal(d, text)
			wantNoDesk(t, "a desk that is not valid", end, ok)
			want(t, "no lines", count, 0)
		}
	}
}
