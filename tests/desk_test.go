package tests

import (
	"fmt"
	"slices"
	"strings"
	"testing"

	"loop.example/g00571/impl"
)

func wantDeskCluster(t *testing.T) {
	t.Helper()
	want := impl.Cluster{
		Nodes: []impl.Node{
			{Name: "n1", Zone: "east", Cpu: 2000, Slots: 3},
			{Name: "n2", Zone: "east", Cpu: 1500, Slots: 2},
			{Name: "n3", Zone: "west", Cpu: 2000, Slots: 2},
		},
		Classes: []impl.Class{{Name: "fast", Zone: "east"}, {Name: "slow", Wait: true, Keep: true}},
	}
	if got := impl.DeskCluster(); !sameCluster(got, want) {
		t.Errorf("DeskCluster: got %+v, want %+v", got, want)
	}
}

func TestDeskCluster(t *testing.T) {
	wantDeskCluster(t)
	// Whatever is done to one that was handed out, the next one is as it was.
	first := impl.DeskCluster()
	first.Nodes[0].Name, first.Classes[0].Name, first.Now = "x", "x", 9
	first.Nodes[1].Mounts = append(first.Nodes[1].Mounts, "x")
	wantDeskCluster(t)
	wantApart(t, "two of them", impl.DeskCluster(), stretches(first))
}

// someLines: lines that are right, of each kind.
func someLines() []string {
	return []string{
		"all", "pods", "disks", "crash 0", "crash 1", "crash 7", "crash 10", "crash 100", "crash 123456789", "crash 999999999",
		"do x", "do -", "do do", "do all", "do all all", "do pods", "do disks", "do crash 0", "do round", "do ALL", "do X Y Z", "do tick 01",
		"do pod p 500m -", "do pod p 0 - c", "do claim c 3Gi fast many", "do drop pod p", "do kill n1", "do tick 5",
		"do \t", "do \r", "do all\r", "do \x00", "do \xff\xfe", "do \u00e4\u00f6", "do a\u00a0b", "do \v\f", "do a,b+c@d", "do " + strings.Repeat("a ", 200) + "a",
	}
}

// noLines: lines that are none, for many reasons.
func noLines() []string {
	return []string{
		"", " ", "  ", "\t", "\r", "\x00", "\xff", "-", "x", "0", "ok", "error 3", "round", "tick 1", "pod p 0 -", "claim c 3Gi fast many", "kill n1", "TEXT", "N",
		"do", "do ", "do  ", " do", " do x", "do  x", "do x ", "do x  ", "do x  y", "do x y ", "do  x y", "do   x", "DO x", "Do x", "dO x", "dox", "d x", "dodo x", "do\tx", "do\u00a0x", "do\x00x", "do: x", "do,x",
		"all ", " all", "all  ", "all x", "all all", "all 0", "all n1", "ALL", "All", "aLL", "al", "alls", "all\r", "all\t", "all\x00", "all,pods", "all;",
		"pods ", " pods", "pods x", "pods 0", "pods p", "pods pods", "pods  p", "PODS", "Pods", "pod", "podss", "pods\r", "pods\t", "pods,disks",
		"disks ", " disks", "disks x", "disks 0", "disks v", "disks disks", "disks  v", "DISKS", "Disks", "disk", "diskss", "disks\r", "disks\t",
		"crash", "crash ", "crash  ", "crash  0", "crash 0 ", " crash 0", "crash 0 0", "crash 0 x", "crash 00", "crash 01", "crash 007", "crash 000000000", "crash 0000000001",
		"crash 1000000000", "crash 9999999999", "crash 0123456789", "crash " + strings.Repeat("9", 19), "crash 18446744073709551616", "crash " + strings.Repeat("9", 400),
		"crash -1", "crash +1", "crash -0", "crash +0", "crash -", "crash +", "crash - 1", "crash x", "crash N", "crash n", "crash 1x", "crash x1", "crash 0x1", "crash 1_0", "crash 1.0", "crash 1e3", "crash 1,0",
		"crash \u0661", "crash \uff11", "crash 1\r", "crash 1\x00", "crash\t1", "crash1", "crash\u00a01", "CRASH 1", "Crash 1", "crashs 1", "cras 1",
	}
}

// A line that is right tells one line, wherever it stands; the lists of lines are what they are said to be.
func TestDeskLines(t *testing.T) {
	for _, line := range someLines() {
		if !deskForm.MatchString(line) {
			t.Fatalf("%q is no line", line)
		}
		for _, ahead := range []int{0, 1, 39} {
			text := textOf(append(slices.Repeat([]string{"pods"}, ahead), line)...)
			want := deskRunModel(text)
			if strings.Count(want.Text, "\n") != ahead+1 {
				t.Fatalf("%q: the model tells %q", text, want.Text)
			}
			wantDesk(t, text, want)
		}
	}
}

// A line that is none is refused wherever it stands, with its place, and nothing else is told.
func TestDeskNoLines(t *testing.T) {
	for _, line := range noLines() {
		if deskForm.MatchString(line) {
			t.Fatalf("%q is a line", line)
		}
		for _, ahead := range []int{0, 1, 2, 39} {
			before := slices.Repeat([]string{"all"}, ahead)
			wantFault(t, textOf(append(before, line)...), int64(ahead))
			wantFault(t, textOf(append(before, line, "pods")...), int64(ahead))
			// A line that comes too late changes nothing of it.
			wantFault(t, textOf(append(before, line, line, "x")...)+"all", int64(ahead))
		}
	}
}

func TestDeskTooLong(t *testing.T) {
	// Just so many bytes: in one line, and in forty.
	wantTold(t, "do "+strings.Repeat("a", 7996)+"\n", "error 3\n")
	line := "do " + strings.Repeat("a", 196) + "\n"
	wantTold(t, strings.Repeat(line, 40), strings.Repeat("error 3\n", 40))
	wantTold(t, "do"+strings.Repeat(" a", 3998)+"x\n", "error 3\n")
	wantFault(t, strings.Repeat("a", 8000), 0)
	wantFault(t, strings.Repeat("\n", 8000), 0)
	wantFault(t, strings.Repeat("all\n", 2000), 40)
	wantFault(t, "all\ndo "+strings.Repeat("a", 7993), 1)
	// One more: ahead of all else.
	for _, text := range []string{
		"do " + strings.Repeat("a", 7997) + "\n", strings.Repeat(line, 39) + "do " + strings.Repeat("a", 197) + "\n", overlong(), strings.Repeat("\n", 8001),
		"all\nall\nx\n" + overlong(), "all\n" + overlong() + "\n", strings.Repeat("all\n", 2001), strings.Repeat("x\n", 5000), strings.Repeat("all\n", 250000),
	} {
		wantDesk(t, text, impl.DeskOut{Code: impl.ErrSize})
	}
}

func TestDeskLineFeeds(t *testing.T) {
	wantTold(t, "", "")
	wantTold(t, "all\n", "ok\n")
	for _, line := range []string{"all", "pods", "disks", "do x", "crash 0"} {
		wantFault(t, line, 0)
		wantFault(t, "all\n"+line, 1)
		wantFault(t, strings.Repeat("all\n", 39)+line, 39)
		wantFault(t, strings.Repeat("all\n", 40)+line, 40)
		wantFault(t, "x\n"+line, 0)
	}
	wantFault(t, "\n", 0)
	wantFault(t, "\n\n", 0)
	wantFault(t, "\nall\n", 0)
	wantFault(t, "all\n\n", 1)
	wantFault(t, "all\n\nall\n", 1)
	wantFault(t, "all\n ", 1)
	wantFault(t, "all\rall\r", 0)
	wantFault(t, "all\r\n", 0)
	wantFault(t, "all\n\rall\n", 1)
	wantFault(t, "all pods\n", 0)
	wantFault(t, "all\v\n", 0)
	wantFault(t, "all\u2028all\n", 0)
	wantFault(t, "do\n", 0)
	wantFault(t, "do\nx\n", 0)
	wantFault(t, "crash\n0\n", 0)
}

func TestDeskHowManyLines(t *testing.T) {
	for _, line := range []string{"all", "pods", "disks", "do x", "crash 0"} {
		one := impl.DeskRun(line + "\n").Text
		for _, count := range []int{0, 1, 2, 39, 40} {
			wantTold(t, strings.Repeat(line+"\n", count), strings.Repeat(one, count))
		}
		for _, count := range []int{41, 42, 80, 900} {
			wantFault(t, strings.Repeat(line+"\n", count), 40)
		}
	}
	forty := strings.Repeat("all\n", 40)
	for _, late := range []string{"all\n", "x\n", "\n", " ", "all", "x", "do x\n", "do\n", "all\nx\n", "x\nall\n", "\x00"} {
		wantFault(t, forty+late, 40)
	}
	// One too many, and one that is none: the first of these is told.
	for at := range 40 {
		lines := slices.Repeat([]string{"pods"}, 41)
		lines[at] = "x"
		wantFault(t, textOf(lines...), int64(at))
		wantFault(t, textOf(lines[:40]...), int64(at))
		wantFault(t, textOf(lines...)+"all", int64(at))
	}
	for first := range 6 {
		for second := first + 1; second < 6; second++ {
			lines := slices.Repeat([]string{"all"}, 6)
			lines[first], lines[second] = "do", "crash 00"
			wantFault(t, textOf(lines...), int64(first))
			lines[first], lines[second] = "", "all "
			wantFault(t, textOf(lines...), int64(first))
		}
	}
}

func TestDeskWords(t *testing.T) {
	want := []string{"all", "crash", "disks", "do", "pods"}
	first := impl.DeskWords()
	if !slices.Equal(first, want) {
		t.Errorf("DeskWords: got %q, want %q", first, want)
	}
	if overlap(stretchOf("one", first), stretchOf("another", impl.DeskWords())) {
		t.Errorf("DeskWords: two lists that were handed out share memory")
	}
	spoil(first, "spoilt")
	if got := impl.DeskWords(); !slices.Equal(got, want) {
		t.Errorf("DeskWords, when one that was handed out is written over: got %q, want %q", got, want)
	}
	wantTold(t, "all\npods\n", "ok\n-\n")
	// A line may begin with these, and with nothing else.
	for _, word := range want {
		if wrong := impl.DeskFault(word+"\n").Code != impl.OK && impl.DeskFault(word+" 1\n").Code != impl.OK; wrong {
			t.Errorf("no line begins with %q", word)
		}
	}
	for _, word := range []string{"", "round", "tick", "kill", "wake", "agent", "drop", "claim", "pod", "disk", "nodes", "claims", "volumes", "ok", "error", "help"} {
		for _, rest := range []string{"", " ", " 0", " n1", " x y"} {
			wantFault(t, word+rest+"\n", 0)
		}
	}
}

// Each code that StoreDo may tell on a desk.
func TestDeskTellsCodes(t *testing.T) {
	scriptOf(
		"do x", "error 3",
		"do pod p 1000m -", "error 3",
		"do pod p", "error 3",
		"do tick 01", "error 3",
		"do tick 1000000000", "error 3",
		"do all all", "error 3",
		"do "+strings.Repeat("a", 201), "error 3",
		"do drop pod p", "error 6",
		"do drop claim c", "error 6",
		"do drop volume v", "error 6",
		"do kill n4", "error 6",
		"do wake n4", "error 6",
		"do agent p", "error 6",
		"do pod p 0 - c", "error 6",
		"do claim c 1Gi none many", "error 6",
		"do claim c 1Gi fast many", "ok",
		"do claim c 1Gi fast many", "error 7",
		"do claim c 2Ti none single", "error 7",
		"do pod p 0 - c", "ok",
		"do pod p 1 east", "error 7",
		"do tick 1001", "error 8",
		"do tick 999999999", "error 8",
		"do tick 1000", "ok",
		"do wake n1", "error 10",
		"do kill n1", "ok",
		"do kill n1", "error 10",
		"do agent n1", "error 10",
		"do drop claim c", "error 11",
		"do round", "ok",
		"do drop volume v_c", "error 11",
		"all", "ok",
		"do all", "ok",
		"pods", "p@n2+",
		"disks", "v_c@n2",
	).want(t, "each code")
}

// As many as there may be of a kind: one more is told to be too many.
func TestDeskFullOfThings(t *testing.T) {
	var s script
	for at := range 9 {
		told := "ok"
		if at == 8 {
			told = "error 9"
		}
		s.lines = append(s.lines, fmt.Sprintf("do claim c%d 1Gi slow many", at), fmt.Sprintf("do pod p%d 0 - c%d", at, at%8))
		s.told = append(s.told, told, told)
	}
	more := scriptOf("pods", "p0@-,p1@-,p2@-,p3@-,p4@-,p5@-,p6@-,p7@-", "crash 5", "pods 8", "disks", "-",
		"do claim c8 1Gi none many", "error 9", "do pod p0 0 -", "error 7", "do drop pod p3", "ok", "do pod a 0 -", "ok", "pods", "a@-,p0@-,p1@-,p2@-,p4@-,p5@-,p6@-,p7@-")
	script{append(s.lines, more.lines...), append(s.told, more.told...)}.want(t, "full")
}

// No desk has a full log: the longest forty acts that are done are far from it, and are all done.
func TestDeskLongestLog(t *testing.T) {
	claims := []string{"a" + longName[1:], "b" + longName[1:], "c" + longName[1:]}
	pod := "pod " + longName + " 999999m " + longName + " " + strings.Join(claims, " ")
	if len(pod) != 116 || len(longName) != 20 {
		t.Fatalf("the longest act has %d bytes", len(pod))
	}
	var lines, acts []string
	for _, claim := range claims {
		acts = append(acts, "claim "+claim+" 1048575Gi fast single")
	}
	for len(acts) < 39 {
		acts = append(acts, pod, "drop pod "+longName)
	}
	acts = append(acts, "all")[:40]
	for _, act := range acts {
		lines = append(lines, "do "+act)
	}
	wantTold(t, textOf(lines...), strings.Repeat("ok\n", 40))
	if size := 40 * len(record(pod)); size > 8000 {
		t.Errorf("a desk's log may have %d bytes", size)
	}
}

func TestDeskPods(t *testing.T) {
	scriptOf(
		"pods", "-",
		"do pod p 500m -", "ok",
		"pods", "p@-",
		"do round", "ok",
		"pods", "p@-",
		"do agent n3", "ok",
		"do round", "ok",
		"pods", "p@n3",
		"do agent n3", "ok",
		"pods", "p@n3+",
		"do pod a 1 east", "ok",
		"pods", "a@-,p@n3+",
		"do pod q 2 east", "ok",
		"all", "ok",
		"pods", "a@n1+,p@n3+,q@-",
		"do pod b 500m -", "ok",
		"do round", "ok",
		"pods", "a@n1+,b@n2,p@n3+,q@-",
		"do kill n3", "ok",
		"pods", "a@n1+,b@n2,p@n3,q@-",
		"do tick 10", "ok",
		"pods", "a@n1+,b@n2,p@n3,q@-",
		"do agent n1", "ok",
		"pods", "a@n1,b@n2,p@n3,q@-",
		"do drop pod a", "ok",
		"do drop pod b", "ok",
		"pods", "p@n3,q@-",
		"all", "ok",
		"pods", "p@n3,q@n1+",
		"do drop pod q", "ok",
		"pods", "p@n3",
		"do drop pod p", "ok",
		"pods", "-",
		"disks", "-",
	).wantThroughCrashes(t, "pods")
}

func TestDeskDisks(t *testing.T) {
	scriptOf(
		"disks", "-",
		"do claim c 3Gi fast many", "ok",
		"disks", "-",
		"do claim s 3Gi slow single", "ok",
		"do round", "ok",
		"disks", "v_c@-",
		"do pod p 1500m - c", "ok",
		"all", "ok",
		"disks", "v_c@n1",
		"do pod q 1500m - c", "ok",
		"all", "ok",
		"disks", "v_c@n1+n2",
		"pods", "p@n1+,q@n2+",
		"do pod r 1 west s", "ok",
		"disks", "v_c@n1+n2",
		"all", "ok",
		"disks", "v_c@n1+n2,v_s@n3",
		"do drop pod p", "ok",
		"disks", "v_c@n1+n2,v_s@n3",
		"do round", "ok",
		"disks", "v_c@n1+n2,v_s@n3",
		"all", "ok",
		"disks", "v_c@n2,v_s@n3",
		"do claim d 1Gi fast single", "ok",
		"all", "ok",
		"disks", "v_c@n2,v_d@-,v_s@n3",
		"do pod t 0 east c d", "ok",
		"all", "ok",
		"disks", "v_c@n1+n2,v_d@n1,v_s@n3",
		"do drop volume v_s", "error 11",
		"do drop pod r", "ok",
		"all", "ok",
		"disks", "v_c@n1+n2,v_d@n1,v_s@-",
		"do drop claim s", "ok",
		"disks", "v_c@n1+n2,v_d@n1,v_s@-",
		"do drop volume v_s", "ok",
		"disks", "v_c@n1+n2,v_d@n1",
	).wantThroughCrashes(t, "disks")
}

// A crash tells how many pods there are, of which it takes none: all that was done is synced.
func TestDeskCrash(t *testing.T) {
	for _, keep := range []string{"0", "1", "9", "10", "8000", "8001", "999999999"} {
		crash := "crash " + keep
		scriptOf(
			crash, "pods 0",
			"do pod p 0 -", "ok",
			crash, "pods 1",
			"do pod p 0 -", "error 7",
			"do x", "error 3",
			crash, "pods 1",
			crash, "pods 1",
			"do pod q 0 -", "ok",
			"do pod r 0 -", "ok",
			crash, "pods 3",
			"all", "ok",
			crash, "pods 3",
			"pods", "p@n1+,q@n1+,r@n1+",
			"do drop pod q", "ok",
			crash, "pods 2",
			"do tick 1000", "ok",
			"do agent n1", "ok",
			crash, "pods 2",
			"pods", "p@n1,r@n1",
			"do drop pod p", "ok",
			"do drop pod r", "ok",
			crash, "pods 0",
			"pods", "-",
		).want(t, crash)
	}
}

// Nothing is kept: each text begins with an empty store, whatever ran ahead of it.
func TestDeskKeepsNothing(t *testing.T) {
	busy := textOf("do claim c 3Gi fast many", "do pod p 500m - c", "all", "pods", "disks", "do kill n1", "crash 0")
	told := textOf("ok", "ok", "ok", "p@n1+", "v_c@n1", "ok", "pods 1")
	for range 3 {
		wantTold(t, busy, told)
		wantTold(t, textOf("pods", "disks", "crash 0"), textOf("-", "-", "pods 0"))
		wantFault(t, busy+"x", 7)
		wantDeskCluster(t)
	}
}

// What is told shares no memory with what was handed in, and stays what it was when that is written over.
func TestDeskIsNewMemory(t *testing.T) {
	for _, text := range []string{"pods\n", "all\n", "do pod p 0 -\npods\n", "do claim c 3Gi fast many\ndo pod p 0 - c\nall\npods\ndisks\n", "crash 0\n", "x\n"} {
		first, second := impl.DeskRun(text), impl.DeskRun(text)
		if sharesMemory(first.Text, text) || sharesMemory(text, first.Text) || sharesMemory(first.Text, second.Text) {
			t.Errorf("DeskRun %q: Text shares memory with what was handed in, or with another one", text)
		}
		bytes := []byte(text)
		handed := unsafeText(bytes)
		got := impl.DeskRun(handed)
		if string(bytes) != text {
			t.Errorf("DeskRun %q changed it to %q", text, bytes)
		}
		spoil(bytes, 'x')
		if got != first {
			t.Errorf("DeskRun %q, then it was written over: got %+v, want %+v", text, got, first)
		}
	}
}
