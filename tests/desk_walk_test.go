package tests

import (
	"fmt"
	"strings"
	"testing"

	"loop.example/g00571/impl"
)

// deskLine: any line that is right, mostly one that does something.
func (d *dice) deskLine() string {
	switch d.roll(12) {
	case 0, 1:
		return "pods"
	case 2:
		return "disks"
	case 3:
		return "crash " + d.word("0", "1", "5", "17", "400", "999999999")
	case 4:
		return "all"
	case 5:
		return d.word("do drop claim a", "do drop claim b", "do drop volume v_a", "do drop volume v_b")
	}
	for {
		// Some acts, and what is none, have no line.
		if line := "do " + d.act(); deskForm.MatchString(line) && len(line) < 100 {
			return line
		}
	}
}

// damaged: the text with something in it changed.
func (d *dice) damaged(text string) string {
	at := d.roll(len(text) + 1)
	switch d.roll(6) {
	case 0:
		return text[:at]
	case 1:
		return text[:at] + d.word(" ", "\n", "\t", "x", "A", "0", "\r", "\xff") + text[at:]
	case 2:
		return text[:at] + text[min(at+1, len(text)):]
	case 3:
		return text + d.word("all", "x", "\n", " ", "pods", "do x")
	case 4:
		return strings.Replace(text, "all\n", d.word("all \n", "al\n", "ALL\n", "\n", "do\n", "do \n", "crash\n", "crash 00\n"), 1)
	}
	lines := strings.SplitAfter(text, "\n")
	lines[d.roll(len(lines))] = noLines()[d.roll(len(noLines()))] + "\n"
	return strings.Join(lines, "")
}

// checkLines: promise 15: as many lines as there are are told, and each of the first ones tells what it tells without the others.
func checkLines(t *testing.T, d *dice, lines []string) {
	t.Helper()
	whole := deskRunModel(textOf(lines...))
	wantDesk(t, textOf(lines...), whole)
	told := strings.SplitAfter(whole.Text, "\n")
	if len(told) != len(lines)+1 {
		t.Fatalf("%q tells %d lines", lines, len(told)-1)
	}
	count := d.roll(len(lines) + 1)
	wantTold(t, textOf(lines[:count]...), strings.Join(told[:count], ""))
}

// toldKind: what kind of line told what kind of thing.
func toldKind(line string, told string) string {
	first, _, _ := strings.Cut(line, " ")
	if told == "-\n" {
		return first + ": none"
	}
	if strings.HasPrefix(told, "error") || told == "ok\n" {
		return first + ": " + strings.TrimSuffix(told, "\n")
	}
	return fmt.Sprintf("%s: %d", first, strings.Count(told, ","))
}

// Promise 15, of many desks, held against the model.
func TestManyDesks(t *testing.T) {
	d := &dice{3141592653589}
	seen := map[string]int{}
	for turn := range 150 {
		lines := []string{"do claim a 3Gi slow single", "do claim b 2Gi fast many", "do pod p 500m - a"}[:turn%4]
		for range d.roll(38) {
			lines = append(lines, d.deskLine())
		}
		checkLines(t, d, lines)
		told := strings.SplitAfter(impl.DeskRun(textOf(lines...)).Text, "\n")
		for at, line := range lines {
			seen[toldKind(line, told[at])]++
		}
		if t.Failed() {
			t.Fatalf("at turn %d", turn)
		}
	}
	wantSeen(t, "lines", seen, "all: ok", "do: ok", "do: error 3", "do: error 6", "do: error 7", "do: error 8", "do: error 10", "do: error 11",
		"pods: none", "pods: 0", "pods: 1", "disks: none", "disks: 0", "disks: 1", "crash: 0")
}

// Texts of which something is wrong, and some of which nothing is: the first wrong line is told, and nothing else.
func TestManyFaults(t *testing.T) {
	d := &dice{2718281828459}
	seen := map[string]int{}
	for turn := range 4000 {
		var lines []string
		for range d.roll(44) {
			lines = append(lines, d.deskLine())
		}
		text := d.damaged(textOf(lines...))
		if d.flip() {
			text = d.damaged(text)
		}
		want := deskFaultModel(text)
		if got := impl.DeskFault(text); got != want {
			t.Fatalf("DeskFault %q: got %+v, want %+v", text, got, want)
		}
		if want.Code != impl.OK {
			wantDesk(t, text, want)
		} else if turn%20 == 0 {
			wantDesk(t, text, deskRunModel(text))
		}
		seen[faultKind(text, want)]++
		if t.Failed() {
			t.Fatalf("at turn %d", turn)
		}
	}
	wantSeen(t, "faults", seen, "none", "too many", "no line", "an empty line", "no line feed")
}

// faultKind: what is wrong with the text.
func faultKind(text string, fault impl.DeskOut) string {
	if fault.Code == impl.OK {
		return "none"
	}
	line := strings.SplitAfter(text, "\n")[fault.Line]
	switch {
	case fault.Line == 40:
		return "too many"
	case line == "\n":
		return "an empty line"
	case deskForm.MatchString(line):
		return "no line feed"
	}
	return "no line"
}

// All texts of a few signs and a few words: which of them are right, and where the others are wrong.
func TestAllSmallDesks(t *testing.T) {
	seen := map[int64]int{}
	eachText([]string{" ", "\n", "do", "all", "crash", "pods", "0", "01", "x"}, 5, func(text string) {
		want := deskFaultModel(text)
		if got := impl.DeskFault(text); got != want {
			t.Fatalf("DeskFault %q: got %+v, want %+v", text, got, want)
		}
		if want.Code == impl.OK || want.Line > 0 {
			wantDesk(t, text, deskRunModel(text))
		}
		seen[want.Code]++
	})
	if seen[impl.OK] < 20 || seen[impl.ErrSyntax] < 1000 {
		t.Errorf("of these %v were told: this tells nothing of it", seen)
	}
}

// A blank more, or another sign in place of one, wherever it may be.
func TestDeskBlanks(t *testing.T) {
	for _, line := range []string{"do pod p 500m -", "do x", "crash 7", "all", "pods", "disks"} {
		text := line + "\n"
		for at := range text {
			more := text[:at] + " " + text[at:]
			if at == 0 || at == len(line) || text[at] == ' ' || text[at-1] == ' ' {
				// One of the words is empty then.
				wantFault(t, more, 0)
			}
			wantDesk(t, more, deskRunModel(more))
			for _, sign := range []string{"", "\t", "\n", "\r", "\u00a0", "_"} {
				other := text[:at] + sign + text[at+1:]
				wantDesk(t, other, deskRunModel(other))
			}
		}
		wantFault(t, text+" ", 1)
	}
}
