package tests

import (
	"fmt"
	"slices"
	"strings"
	"testing"

	"loop.example/g00571/impl"
)

// Promise 16, the whole way of a disk that one alone may write: it is off its dead node ahead of being on another one.
func TestDeskWayOfOne(t *testing.T) {
	scriptOf(
		"do claim c 5Gi fast single", "ok",
		"do pod p 500m - c", "ok",
		"pods", "p@-",
		"disks", "-",
		"all", "ok",
		"pods", "p@n1+",
		"disks", "v_c@n1",
		"do kill n1", "ok",
		"pods", "p@n1",
		"disks", "v_c@n1",
		"all", "ok",
		"pods", "p@n1",
		"disks", "v_c@n1",
		// Its lease goes up to the time 10, and 5 more are the grace.
		"do tick 15", "ok",
		"all", "ok",
		"all", "ok",
		"pods", "p@n1",
		"disks", "v_c@n1",
		"do tick 1", "ok",
		"pods", "p@n1",
		"disks", "v_c@n1",
		"all", "ok",
		"pods", "p@-",
		"disks", "v_c@-",
		"all", "ok",
		"pods", "p@n2+",
		"disks", "v_c@n2",
		// That it wakes takes nothing back.
		"do wake n1", "ok",
		"all", "ok",
		"all", "ok",
		"pods", "p@n2+",
		"disks", "v_c@n2",
	).wantThroughCrashes(t, "a disk for one")
}

// Promise 16 of a disk that many may write: it may be on both nodes, so that one round is enough.
func TestDeskWayOfMany(t *testing.T) {
	scriptOf(
		"do claim c 5Gi fast many", "ok",
		"do pod p 500m - c", "ok",
		"do pod q 1500m east c", "ok",
		"all", "ok",
		"pods", "p@n1+,q@n1+",
		"disks", "v_c@n1",
		"do pod r 500m - c", "ok",
		"all", "ok",
		"pods", "p@n1+,q@n1+,r@n2+",
		"disks", "v_c@n1+n2",
		"do kill n1", "ok",
		"do tick 15", "ok",
		"all", "ok",
		"pods", "p@n1,q@n1,r@n2+",
		"disks", "v_c@n1+n2",
		"do tick 1", "ok",
		"all", "ok",
		"pods", "p@n2+,q@-,r@n2+",
		"disks", "v_c@n2",
		"do drop pod p", "ok",
		"do drop pod r", "ok",
		"all", "ok",
		"pods", "q@n2+",
		"disks", "v_c@n2",
	).wantThroughCrashes(t, "a disk for many")
}

// Promise 16 of a class that waits for a node, and of pods that have one disk for one in common: both go together.
func TestDeskWayOfTwoPods(t *testing.T) {
	scriptOf(
		"do claim c 5Gi slow single", "ok",
		"do round", "ok",
		"disks", "-",
		"do pod p 500m east c", "ok",
		"do pod q 1 - c", "ok",
		"all", "ok",
		"pods", "p@n1+,q@n1+",
		"disks", "v_c@n1",
		"do kill n1", "ok",
		"do tick 16", "ok",
		"all", "ok",
		"pods", "p@-,q@-",
		"disks", "v_c@-",
		"all", "ok",
		"pods", "p@n2+,q@n2+",
		"disks", "v_c@n2",
		// What it may go on with is in the disk's zone alone.
		"do kill n2", "ok",
		"do tick 16", "ok",
		"all", "ok",
		"all", "ok",
		"pods", "p@-,q@-",
		"disks", "v_c@-",
		"do wake n1", "ok",
		"all", "ok",
		"pods", "p@n1+,q@n1+",
		"disks", "v_c@n1",
	).wantThroughCrashes(t, "two pods")
}

// A node that wakes in time keeps its pod and its disk.
func TestDeskWayOfWaking(t *testing.T) {
	for _, ticks := range []string{"0", "9", "10", "15"} {
		scriptOf(
			"do claim c 5Gi fast single", "ok",
			"do pod p 500m - c", "ok",
			"all", "ok",
			"do kill n1", "ok",
			"do tick "+ticks, "ok",
			"all", "ok",
			"pods", "p@n1",
			"disks", "v_c@n1",
			"do wake n1", "ok",
			"pods", "p@n1",
			"disks", "v_c@n1",
			"do tick 1", "ok",
			"all", "ok",
			"pods", "p@n1+",
			"disks", "v_c@n1",
		).want(t, "waking at "+ticks)
	}
}

// Without room, or slots, elsewhere it waits, and gets both as soon as there is.
func TestDeskWayWithoutRoom(t *testing.T) {
	scriptOf(
		"do claim c 5Gi fast single", "ok",
		"do pod p 2 - c", "ok",
		"all", "ok",
		"pods", "p@n1+",
		"do kill n1", "ok",
		"do tick 16", "ok",
		"all", "ok",
		"all", "ok",
		"pods", "p@-",
		"disks", "v_c@-",
		"do wake n1", "ok",
		"all", "ok",
		"pods", "p@n1+",
		"disks", "v_c@n1",
	).wantThroughCrashes(t, "no room")
	scriptOf(
		"do claim a 1Gi fast single", "ok",
		"do claim b 1Gi fast many", "ok",
		"do claim c 1Gi slow single", "ok",
		"do pod p 0 - a b c", "ok",
		"all", "ok",
		"pods", "p@n1+",
		"disks", "v_a@n1,v_b@n1,v_c@n1",
		"do kill n1", "ok",
		"do tick 16", "ok",
		"all", "ok",
		"all", "ok",
		"pods", "p@-",
		"disks", "v_a@-,v_b@-,v_c@-",
		"do drop pod p", "ok",
		"do pod p 0 - a b", "ok",
		"all", "ok",
		"pods", "p@n2+",
		"disks", "v_a@n2,v_b@n2,v_c@-",
	).wantThroughCrashes(t, "no slot")
}

// What is dropped on the way: nothing goes while it is used, what nobody wants is taken off, and a class that keeps keeps its disk.
func TestDeskWayOfDropping(t *testing.T) {
	scriptOf(
		"do claim c 5Gi fast single", "ok",
		"do claim s 5Gi slow single", "ok",
		"do pod p 500m - c s", "ok",
		"all", "ok",
		"disks", "v_c@n1,v_s@n1",
		"do drop claim c", "error 11",
		"do drop volume v_s", "error 11",
		"do drop pod p", "ok",
		"pods", "-",
		"disks", "v_c@n1,v_s@n1",
		"do drop claim c", "error 11",
		"do round", "ok",
		"disks", "v_c@n1,v_s@n1",
		"all", "ok",
		"disks", "v_c@-,v_s@-",
		"do drop claim c", "ok",
		"disks", "v_s@-",
		"do drop claim s", "ok",
		"disks", "v_s@-",
		// It is spent: the claim of that name finds neither it, nor one that may be made.
		"do claim s 5Gi slow single", "ok",
		"do pod q 0 east s", "ok",
		"all", "ok",
		"pods", "q@-",
		"do drop volume v_s", "ok",
		"disks", "-",
		"all", "ok",
		"pods", "q@n1+",
		"disks", "v_s@n1",
	).wantThroughCrashes(t, "dropping")
	scriptOf(
		"do claim c 5Gi fast single", "ok",
		"do pod p 500m - c", "ok",
		"all", "ok",
		"do kill n1", "ok",
		"do drop pod p", "ok",
		"all", "ok",
		"do drop claim c", "error 11",
		"do tick 15", "ok",
		"all", "ok",
		"disks", "v_c@n1",
		"do tick 1", "ok",
		"all", "ok",
		"disks", "v_c@-",
		// The dead node has it mounted still, up to its waking.
		"do drop claim c", "error 11",
		"do wake n1", "ok",
		"do drop claim c", "ok",
		"disks", "-",
	).wantThroughCrashes(t, "dropping from a dead one")
}

// Neither earlier nor later: at each time behind the death, with leases of any age.
func TestDeskOverForSure(t *testing.T) {
	for _, kind := range []string{"single", "many"} {
		for renewed := range 4 {
			for late := range 4 {
				for ticks := range 20 {
					lines := []string{"do claim c 5Gi fast " + kind, "do pod p 500m - c", "all", fmt.Sprintf("do tick %d", renewed), "all",
						fmt.Sprintf("do tick %d", 3*late), "do kill n1", fmt.Sprintf("do tick %d", ticks), "all", "all", "pods", "disks"}
					told := append(slices.Repeat([]string{"ok"}, 10), "p@n1", "v_c@n1")
					// The lease has 10 from its last step on, and 5 more are the grace.
					if 3*late+ticks > 15 {
						told[10], told[11] = "p@n2+", "v_c@n2"
					}
					wantTold(t, textOf(lines...), textOf(told...))
				}
			}
		}
	}
}

// told is what the lines pods and disks tell: by name, where it is, and a pod that runs with a + behind it.
type told struct {
	pods, disks map[string]string
}

// toldOf: of the text that pods and then disks tell at the end of a desk.
func toldOf(text string) told {
	lines := strings.Split(strings.TrimSuffix(text, "\n"), "\n")
	return told{placesOf(lines[len(lines)-2]), placesOf(lines[len(lines)-1])}
}

func placesOf(line string) map[string]string {
	out := map[string]string{}
	if line == "-" {
		return out
	}
	for _, item := range strings.Split(line, ",") {
		name, place, _ := strings.Cut(item, "@")
		out[name] = place
	}
	return out
}

// someOf: a desk with claims of each kind, and pods that have some of them.
func (d *dice) someOf() (lines []string, claims map[string][]string) {
	lines, claims = nil, map[string][]string{}
	for _, claim := range []string{"a", "b", "c", "e"} {
		lines = append(lines, fmt.Sprintf("do claim %s 1Gi %s %s", claim, d.word("fast", "slow"), d.word("single", "many")))
	}
	for _, pod := range []string{"p", "q", "r"} {
		claims[pod] = d.few("a", "b", "c", "e")
		if len(claims[pod]) > 3 {
			claims[pod] = claims[pod][:3]
		}
		words := append([]string{"do pod", pod, d.word("0", "500m", "1"), d.word("-", "east", "west")}, claims[pod]...)
		lines = append(lines, strings.Join(words, " "))
	}
	return append(lines, "all", "all", "all"), claims
}

// atEnd: what the lines tell of pods and disks when all is done.
func atEnd(t *testing.T, lines []string) told {
	t.Helper()
	text := textOf(append(slices.Clone(lines), "pods", "disks")...)
	got := impl.DeskRun(text)
	if got.Code != impl.OK || strings.Count(got.Text, "\n") != len(lines)+2 {
		t.Fatalf("%q tells %+v", text, got)
	}
	return toldOf(got.Text)
}

// Promise 16 of any pods and disks, and the death of any node, by what the desk tells alone.
func TestManyDeaths(t *testing.T) {
	d := &dice{88172645463325252}
	seen := map[string]int{}
	for range 150 {
		lines, claims := d.someOf()
		node := d.word("n1", "n1", "n2", "n3")
		whole := atEnd(t, lines)
		dead := append(lines, "do kill "+node, "do tick 15", "all", "all")
		still := atEnd(t, dead)
		after := atEnd(t, append(dead, "do tick 1", "all", "all", "all"))
		for pod, place := range whole.pods {
			seen[wantMoved(t, node, place, still.pods[pod], after.pods[pod])]++
			wantDisksThere(t, whole, pod, claims[pod])
			wantDisksThere(t, after, pod, claims[pod])
		}
		for disk, place := range whole.disks {
			onNode := slices.Contains(strings.Split(place, "+"), node)
			if onNode && !slices.Contains(strings.Split(still.disks[disk], "+"), node) || slices.Contains(strings.Split(after.disks[disk], "+"), node) {
				t.Errorf("%s dies: %s is at %s, then at %s, and then at %s", node, disk, place, still.disks[disk], after.disks[disk])
			}
			seen[fmt.Sprintf("its disk: %v", onNode)]++
		}
		if t.Failed() {
			t.Fatalf("%q, and then %s dies", lines, node)
		}
	}
	wantSeen(t, "deaths", seen, "elsewhere", "nowhere", "not there", "waits", "its disk: true", "its disk: false")
}

// wantMoved: a pod of the dead node stays till it is over for sure, and is not there afterwards; another one stays where it runs.
func wantMoved(t *testing.T, node string, place string, still string, after string) string {
	t.Helper()
	wrong := func() {
		t.Errorf("%s dies: a pod is at %s, then at %s, and then at %s", node, place, still, after)
	}
	switch place {
	case node + "+":
		if still != node || after != "-" && (!strings.HasSuffix(after, "+") || after == place) {
			wrong()
		}
		if after == "-" {
			return "nowhere"
		}
		return "elsewhere"
	case "-":
		if after == node || after == node+"+" {
			wrong()
		}
		return "waits"
	}
	if still != place || after != place {
		wrong()
	}
	return "not there"
}

// wantDisksThere: a pod that runs has the disks of its claims where it is.
func wantDisksThere(t *testing.T, now told, pod string, claims []string) {
	t.Helper()
	node, runs := strings.CutSuffix(now.pods[pod], "+")
	for _, claim := range claims {
		if runs && !slices.Contains(strings.Split(now.disks["v_"+claim], "+"), node) {
			t.Errorf("%s runs on %s, but its disk v_%s is on %s", pod, node, claim, now.disks["v_"+claim])
		}
	}
}
