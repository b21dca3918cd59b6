package tests

import (
	"fmt"
	"math"
	"slices"
	"strings"
	"testing"

	"loop.example/g00571/impl"
)

func wantLive(t *testing.T, what string, c impl.Cluster, node string, want bool) {
	t.Helper()
	if got := impl.LeaseLive(c, node); got != want {
		t.Errorf("%s: LeaseLive %.24q: got %v, want %v: %s", what, node, got, want, shown(c))
	}
}

func wantRuns(t *testing.T, what string, c impl.Cluster, node string, want ...string) {
	t.Helper()
	if got := impl.RunsOn(c, node); !slices.Equal(got, want) {
		t.Errorf("%s: RunsOn %.24q: got %q, want %q: %s", what, node, got, want, shown(c))
	}
}

// wantStep: a step of the node's agent changes the cluster, which is right, so, and nothing else; the cluster then.
func wantStep(t *testing.T, what string, c impl.Cluster, node string, change func(*impl.Cluster)) impl.Cluster {
	t.Helper()
	wantRight(t, what, c, true)
	then := changedTo(c, change)
	wantBecomes(t, what+": AgentStep "+node, impl.AgentStep(c, node), then)
	return then
}

// runOn: one more pod, running on that node, with these claims, whose disks are to be mounted there.
func runOn(c *impl.Cluster, name string, node string, claims ...string) {
	putPod(c, impl.Pod{Name: name, Claims: claims, Node: node, Phase: impl.PhRunning})
}

// phases: these pods are in that phase.
func phases(c *impl.Cluster, phase int64, pods ...string) {
	for _, name := range pods {
		thePod(c, name).Phase = phase
	}
}

// fullCluster: a right cluster with pods of each phase, in which n1, whose lease goes up to then, has mounted what is wanted and what is not.
func fullCluster(until int64) impl.Cluster {
	return attachCluster(func(c *impl.Cluster) {
		putBound(c, "a", disk("a", "east", true, "n1"))
		putBound(c, "b", disk("b", "east", false, "n1", "n2"))
		putVolume(c, disk("c", "east", true, "n1"))
		putBound(c, "d", disk("d", "east", true))
		c.Nodes[0].Until, c.Nodes[0].Mounts = until, []string{"da", "db", "dc"}
		c.Nodes[1].Mounts = []string{"db"}
		runOn(c, "p", "n1", "a", "b")
		runOn(c, "q", "n1")
		podOn(c, "r", "n1", "a")
		podOn(c, "s", "n1", "b", "d")
		runOn(c, "t", "n2", "b")
		runOn(c, "u", "n3")
		podOn(c, "v", "n2")
		putPod(c, impl.Pod{Name: "w", Claims: []string{"a", "b"}})
	})
}

// eightCluster: a right cluster in which n1 has eight disks on it, all of them wanted there, and none is mounted yet.
func eightCluster() impl.Cluster {
	return attachCluster(func(c *impl.Cluster) {
		for _, name := range nameRow(8) {
			putBound(c, name, impl.Volume{Name: name, Size: 1, Zone: "east", Class: "slow", Single: true, On: []string{"n1"}})
		}
		c.Nodes[0].Slots = 8
		podOn(c, "p", "n1", nameRow(8)[:3]...)
		podOn(c, "q", "n1", nameRow(8)[3:6]...)
		podOn(c, "r", "n1", nameRow(8)[5:]...)
	})
}

// Until one less than Now, just Now, and one more, of the living and of the dead.
func TestLeaseLive(t *testing.T) {
	for _, now := range []int64{0, 1, 2, 25, 999999, 1000000} {
		for _, until := range []int64{0, 1, now - 11, now - 1, now, now + 1, now + 10, 1000000} {
			if until < 0 || until > 1000000 {
				continue
			}
			for _, dead := range []bool{false, true} {
				c := attachCluster(func(c *impl.Cluster) {
					c.Now = now
					// The other nodes' leases say nothing of this one's.
					c.Nodes[0].Until, c.Nodes[2].Until = 1000000-until, 1000000-until
					c.Nodes[1].Until, c.Nodes[1].Dead = until, dead
				})
				wantRight(t, "a lease", c, true)
				wantLive(t, fmt.Sprintf("Until %d, Now %d, dead %v", until, now, dead), c, "n2", until > now)
			}
		}
	}
	for _, c := range []impl.Cluster{workCluster(), restCluster(), placeCluster()} {
		wantLive(t, "one that has a lease", c, "n1", true)
		// Whatever else is wrong, no lease of such a cluster is live.
		c.Classes = append(c.Classes, impl.Class{Name: "-"})
		wantLive(t, "a wrong cluster", c, "n1", false)
	}
	wantLive(t, "never had one", impl.DeskCluster(), "n1", false)
}

func TestRunsOn(t *testing.T) {
	c := fullCluster(30)
	wantRuns(t, "pods of each phase", c, "n1", "p", "q")
	wantRuns(t, "one of two", c, "n2", "t")
	wantRuns(t, "one alone", c, "n3", "u")
	wantRuns(t, "others' pods run", c, "n4")
	wantRuns(t, "pods without a node", c, "")
	wantRuns(t, "a pod's name", c, "p")
	// It is the step that looks at the lease: what runs is told up to then.
	wantRuns(t, "without a lease", fullCluster(25), "n1", "p", "q")
	wantRuns(t, "without a lease at all", fullCluster(0), "n1", "p", "q")
	wantRuns(t, "no pods", impl.DeskCluster(), "n1")
	wantRuns(t, "a dead one, with a pod", workCluster(), "n3")
	wantRuns(t, "all of one name", alikeCluster(), "a", "a")
	all := attachCluster(func(c *impl.Cluster) {
		for _, name := range []string{"p10", "p1", "p_", "pa", "b", "p2", longName, "z"} {
			runOn(c, name, "n2")
		}
	})
	wantRight(t, "all eight", all, true)
	wantRuns(t, "all eight, rising", all, "n2", longName, "b", "p1", "p10", "p2", "p_", "pa", "z")
	wantRuns(t, "all eight run elsewhere", all, "n1")
	all.Pods[3].Phase = impl.PhPlaced
	wantRuns(t, "all but one", all, "n2", longName, "b", "p1", "p2", "p_", "pa", "z")
	all.Pods[3].Phase = 3
	wantRuns(t, "a wrong cluster", all, "n2")
}

func TestTick(t *testing.T) {
	for _, now := range []int64{0, 1, 25, 998999, 999000, 999001, 999999, 1000000} {
		c := workCluster()
		c.Now = now
		for _, ticks := range []int64{0, 1, 2, 5, 999, 1000, 1001, 1000000, -1, -25, math.MaxInt64, math.MinInt64} {
			got := impl.Tick(c, ticks)
			if ticks < 0 || ticks > 1000 || now+ticks > 1000000 {
				wantRefused(t, fmt.Sprintf("Tick %d at %d", ticks, now), got, impl.ErrRange)
				continue
			}
			wantBecomes(t, fmt.Sprintf("Tick %d at %d", ticks, now), got, changedTo(c, func(c *impl.Cluster) { c.Now = now + ticks }))
		}
	}
	for _, c := range wrongClusters() {
		wantRefused(t, "Tick in a wrong cluster", impl.Tick(c, 1), impl.ErrForm)
		wantRefused(t, "Tick of too much in a wrong cluster", impl.Tick(c, -1), impl.ErrForm)
		wantRefused(t, "Tick of too much in a wrong cluster", impl.Tick(c, 1001), impl.ErrForm)
	}
}

// No such node, too long a text ahead of all else, and a cluster that is not right ahead of the rest.
func TestAgentsRefused(t *testing.T) {
	for _, call := range []func(impl.Cluster, string) impl.ClusterOut{impl.AgentStep, impl.Kill, impl.Wake} {
		for _, c := range append(placingClusters(), fullCluster(30)) {
			for _, name := range strangers() {
				wantRefused(t, "no such node", call(c, name), impl.ErrNone)
			}
			for _, name := range overlongs() {
				wantRefused(t, "too long a text", call(c, name), impl.ErrSize)
			}
		}
		for _, c := range wrongClusters() {
			for _, name := range append(strangers(), "n1", "n2", "n9") {
				wantRefused(t, "a wrong cluster", call(c, name), impl.ErrForm)
			}
			for _, name := range overlongs() {
				wantRefused(t, "a wrong cluster, too long a text", call(c, name), impl.ErrSize)
			}
		}
	}
	for _, c := range []impl.Cluster{deadCluster(25, 40), deadCluster(25, 25), deadCluster(25, 0)} {
		wantRefused(t, "a step of a dead node", impl.AgentStep(c, "n1"), impl.ErrState)
		wantRefused(t, "the death of a dead node", impl.Kill(c, "n1"), impl.ErrState)
	}
	for _, until := range []int64{0, 24, 25, 26} {
		wantRefused(t, "waking one that lives", impl.Wake(fullCluster(until), "n1"), impl.ErrState)
	}
	for _, name := range []string{"n1", "n2"} {
		wantRefused(t, "waking one that lives", impl.Wake(workCluster(), name), impl.ErrState)
	}
}

// The calls that tell no code, of nodes that are not there, of too long a text, and of a cluster that is not right.
func TestAgentsToldNothing(t *testing.T) {
	for _, c := range append(placingClusters(), fullCluster(30)) {
		for _, name := range append(strangers(), overlongs()...) {
			wantLive(t, "no such node", c, name, false)
			wantRuns(t, "no such node", c, name)
		}
	}
	for _, c := range wrongClusters() {
		for _, name := range slices.Concat(strangers(), overlongs(), []string{"n1", "n2", "n9"}) {
			wantLive(t, "a wrong cluster", c, name, false)
			wantRuns(t, "a wrong cluster", c, name)
		}
	}
	// One byte less than too long is looked for among the names, and is none; one more is not looked for.
	long := strings.Repeat("n", impl.MaxBytes)
	wantRefused(t, "as long as may be", impl.AgentStep(workCluster(), long), impl.ErrNone)
	wantRefused(t, "one byte more", impl.AgentStep(workCluster(), long+"n"), impl.ErrSize)
}

func TestKill(t *testing.T) {
	for _, until := range []int64{0, 25, 26} {
		c := fullCluster(until)
		// Its mounts stay, its lease too, and so do the pods of other nodes.
		then := changedTo(c, func(c *impl.Cluster) {
			c.Nodes[0].Dead = true
			phases(c, impl.PhPlaced, "p", "q")
		})
		wantBecomes(t, "pods of each phase", impl.Kill(c, "n1"), then)
		wantRefused(t, "again", impl.Kill(then, "n1"), impl.ErrState)
		wantRefused(t, "a step then", impl.AgentStep(then, "n1"), impl.ErrState)
		wantLive(t, "its lease goes on", then, "n1", until > 25)
		wantRuns(t, "it is dead", then, "n1")
		wantRuns(t, "another one is dead", then, "n2", "t")
		wantBecomes(t, "one of two", impl.Kill(then, "n2"), changedTo(then, func(c *impl.Cluster) {
			c.Nodes[1].Dead = true
			phases(c, impl.PhPlaced, "t")
		}))
	}
	c := workCluster()
	wantBecomes(t, "Kill n1", impl.Kill(c, "n1"), changedTo(c, func(c *impl.Cluster) {
		c.Nodes[0].Dead, c.Pods[0].Phase = true, impl.PhPlaced
	}))
	wantBecomes(t, "Kill n2", impl.Kill(c, "n2"), changedTo(c, func(c *impl.Cluster) {
		c.Nodes[1].Dead, c.Pods[2].Phase = true, impl.PhPlaced
	}))
	wantBecomes(t, "one without pods", impl.Kill(impl.DeskCluster(), "n2"), changedTo(impl.DeskCluster(), func(c *impl.Cluster) {
		c.Nodes[1].Dead = true
	}))
	wantBecomes(t, "pods elsewhere alone", impl.Kill(fullCluster(26), "n4"), changedTo(fullCluster(26), func(c *impl.Cluster) {
		c.Nodes[3].Dead = true
	}))
}

func TestWake(t *testing.T) {
	for _, until := range []int64{0, 24, 25, 26, 1000000} {
		dead := impl.Kill(fullCluster(until), "n1").Cluster
		// Even if its lease went on, nothing runs there, a pod without claims neither; its disks are on it still.
		then := changedTo(dead, func(c *impl.Cluster) {
			c.Nodes[0].Dead, c.Nodes[0].Until, c.Nodes[0].Mounts = false, 0, nil
		})
		wantBecomes(t, fmt.Sprintf("Until %d", until), impl.Wake(dead, "n1"), then)
		wantRefused(t, "again", impl.Wake(then, "n1"), impl.ErrState)
		wantLive(t, "awake", then, "n1", false)
		wantRuns(t, "awake", then, "n1")
		wantRuns(t, "of another one", then, "n2", "t")
		then = wantStep(t, "awake", then, "n1", func(c *impl.Cluster) { c.Nodes[0].Until = 35 })
		wantStep(t, "with a lease", then, "n1", func(c *impl.Cluster) {
			c.Nodes[0].Mounts = []string{"da", "db"}
			phases(c, impl.PhRunning, "p", "q", "r")
		})
	}
	wantBecomes(t, "mounted, on none", impl.Wake(workCluster(), "n3"), changedTo(workCluster(), func(c *impl.Cluster) {
		c.Nodes[2].Dead, c.Nodes[2].Until, c.Nodes[2].Mounts = false, 0, nil
	}))
	wantBecomes(t, "without mounts", impl.Wake(restCluster(), "n2"), changedTo(restCluster(), func(c *impl.Cluster) {
		c.Nodes[1].Dead, c.Nodes[1].Until = false, 0
	}))
	desk := impl.DeskCluster()
	wantBecomes(t, "without anything", impl.Wake(impl.Kill(desk, "n1").Cluster, "n1"), desk)
	// A single disk that was mounted on it, too, is with the one that has it since.
	c := attachCluster(func(c *impl.Cluster) {
		putBound(c, "a", disk("a", "east", true, "n2"))
		kill(c, "n1", 40)
		c.Nodes[0].Mounts, c.Nodes[1].Mounts = []string{"da"}, []string{"da"}
		runOn(c, "p", "n2", "a")
	})
	wantBecomes(t, "mounted elsewhere", impl.Wake(c, "n1"), changedTo(c, func(c *impl.Cluster) {
		c.Nodes[0].Dead, c.Nodes[0].Until, c.Nodes[0].Mounts = false, 0, nil
	}))
}

// Promise 12: without a live lease all mounts go, and nothing runs, whatever is wanted; the step after it mounts.
func TestStepWithoutLease(t *testing.T) {
	for _, until := range []int64{0, 1, 24, 25} {
		c := fullCluster(until)
		wantLive(t, "at first", c, "n1", false)
		then := wantStep(t, "without a lease", c, "n1", func(c *impl.Cluster) {
			c.Nodes[0].Mounts, c.Nodes[0].Until = nil, 35
			phases(c, impl.PhPlaced, "p", "q")
		})
		wantRuns(t, "a step without a lease", then, "n1")
		wantRuns(t, "of another one", then, "n2", "t")
		wantLive(t, "it has one now", then, "n1", true)
		wantStep(t, "with one", then, "n1", func(c *impl.Cluster) {
			c.Nodes[0].Mounts = []string{"da", "db"}
			phases(c, impl.PhRunning, "p", "q", "r")
		})
	}
	wantStep(t, "nothing there", impl.DeskCluster(), "n2", func(c *impl.Cluster) { c.Nodes[1].Until = 10 })
	wantStep(t, "the other one of two", workCluster(), "n2", func(c *impl.Cluster) {
		c.Nodes[1].Until, c.Nodes[1].Mounts, c.Pods[2].Phase = 35, nil, impl.PhPlaced
	})
	bare := attachCluster(func(c *impl.Cluster) {
		c.Nodes[0].Until = 25
		podOn(c, "p", "n1")
		runOn(c, "q", "n1")
	})
	wantStep(t, "pods without claims", bare, "n1", func(c *impl.Cluster) {
		c.Nodes[0].Until = 35
		phases(c, impl.PhPlaced, "q")
	})
	wantStep(t, "of another node", bare, "n2", func(c *impl.Cluster) { c.Nodes[1].Until = 35 })
}

// With a live lease: what is not wanted goes, what is wanted and there is mounted, and what has all its disks runs.
func TestStepWithLease(t *testing.T) {
	for _, until := range []int64{26, 30, 35, 36, 1000000} {
		wantStep(t, fmt.Sprintf("Until %d", until), fullCluster(until), "n1", func(c *impl.Cluster) {
			// A lease that went on for longer ends sooner, too.
			c.Nodes[0].Mounts, c.Nodes[0].Until = []string{"da", "db"}, 35
			phases(c, impl.PhRunning, "r")
		})
	}
	c := attachCluster(func(c *impl.Cluster) {
		putBound(c, "a", disk("a", "east", true, "n1"))
		putBound(c, "b", disk("b", "east", true))
		putBound(c, "c", disk("c", "east", false, "n2"))
		putVolume(c, disk("d", "east", true, "n1"))
		c.Nodes[0].Mounts = []string{"dd"}
		podOn(c, "p", "n1", "a")
		podOn(c, "q", "n1", "a", "b")
		podOn(c, "r", "n1", "c")
		podOn(c, "s", "n1")
		podOn(c, "t", "n2", "c")
	})
	c = wantStep(t, "one is there, one nowhere, one elsewhere", c, "n1", func(c *impl.Cluster) {
		c.Nodes[0].Mounts, c.Nodes[0].Until = []string{"da"}, 35
		phases(c, impl.PhRunning, "p", "s")
	})
	wantStep(t, "it is at rest", c, "n1", nothingMore)
	theVolume(&c, "dc").On = []string{"n1", "n2"}
	c = wantStep(t, "one that many have is on both", c, "n1", func(c *impl.Cluster) {
		c.Nodes[0].Mounts = []string{"da", "dc"}
		phases(c, impl.PhRunning, "r")
	})
	theVolume(&c, "dd").On, theVolume(&c, "db").On = nil, []string{"n1"}
	c = wantStep(t, "all are there", c, "n1", func(c *impl.Cluster) {
		c.Nodes[0].Mounts = []string{"da", "db", "dc"}
		phases(c, impl.PhRunning, "q")
	})
	c = wantStep(t, "the other one", c, "n2", func(c *impl.Cluster) {
		c.Nodes[1].Mounts, c.Nodes[1].Until = []string{"dc"}, 35
		phases(c, impl.PhRunning, "t")
	})
	// Pods that go take their wishes with them, but not those of others.
	c = impl.DropPod(impl.DropPod(c, "q").Cluster, "r").Cluster
	wantStep(t, "some are gone", c, "n1", func(c *impl.Cluster) { c.Nodes[0].Mounts = []string{"da"} })
	wantStep(t, "the other one is as it was", c, "n2", nothingMore)
}

// A pod that waits, or is of another node, wants nothing here, though it has the same claim.
func TestStepOfOthersWishes(t *testing.T) {
	c := attachCluster(func(c *impl.Cluster) {
		putBound(c, "a", disk("a", "east", false, "n1"))
		putVolume(c, disk("b", "east", true, "n1"))
		putVolume(c, impl.Volume{Name: "dc", Size: 1, Zone: "east", Class: "keep", Spent: true, On: []string{"n1"}})
		c.Nodes[0].Mounts = []string{"da", "db", "dc"}
		putPod(c, impl.Pod{Name: "p", Claims: []string{"a"}})
		podOn(c, "q", "n2", "a")
	})
	none := func(c *impl.Cluster) { c.Nodes[0].Mounts, c.Nodes[0].Until = nil, 35 }
	wantStep(t, "others want it", c, "n1", none)
	c.Nodes[0].Mounts = nil
	wantStep(t, "others want it, not mounted", c, "n1", none)
	wantStep(t, "one that wants it, and has it not", c, "n2", func(c *impl.Cluster) { c.Nodes[1].Until = 35 })
	putOn(&c, "p", "n1")
	wantStep(t, "now it is wanted", c, "n1", func(c *impl.Cluster) {
		c.Nodes[0].Mounts, c.Nodes[0].Until = []string{"da"}, 35
		phases(c, impl.PhRunning, "p")
	})
}

// Eight disks, all there are, may be mounted; with one more the cluster is none.
func TestStepOfEightMounts(t *testing.T) {
	c := eightCluster()
	all := wantStep(t, "all eight", c, "n1", func(c *impl.Cluster) {
		c.Nodes[0].Mounts, c.Nodes[0].Until = nameRow(8), 35
		phases(c, impl.PhRunning, "p", "q", "r")
	})
	wantStep(t, "all eight are mounted", all, "n1", nothingMore)
	some := impl.DropPod(all, "q").Cluster
	wantStep(t, "some of eight", some, "n1", func(c *impl.Cluster) {
		c.Nodes[0].Mounts = slices.Concat(nameRow(8)[:3], nameRow(8)[5:])
	})
	nine := changedTo(all, func(c *impl.Cluster) {
		putBound(c, "z", impl.Volume{Name: "z", Size: 1, Zone: "east", Class: "slow", Single: true})
	})
	wantRefused(t, "nine disks", impl.AgentStep(nine, "n1"), impl.ErrForm)
	nine = changedTo(all, func(c *impl.Cluster) { c.Nodes[0].Mounts = append(c.Nodes[0].Mounts, "z") })
	wantRefused(t, "nine mounts", impl.AgentStep(nine, "n1"), impl.ErrForm)
	nine = changedTo(all, func(c *impl.Cluster) { c.Nodes[0].Slots = 7 })
	wantRefused(t, "a slot less", impl.AgentStep(nine, "n1"), impl.ErrForm)
}

// Now and Lease together below, at and above MaxTime, with a live lease and without one.
func TestStepAtTheEndOfTime(t *testing.T) {
	if impl.Lease != 10 || impl.MaxTime != 1000000 {
		t.Errorf("Lease and MaxTime: got %d, %d, want 10, 1000000", impl.Lease, impl.MaxTime)
	}
	for _, now := range []int64{0, 1, 999989, 999990, 999991, 999999, 1000000} {
		for _, until := range []int64{0, now, now + 1, now + 10, 1000000} {
			if until > 1000000 {
				continue
			}
			c := fullCluster(until)
			c.Now = now
			wantStep(t, fmt.Sprintf("Until %d at %d", until, now), c, "n1", func(c *impl.Cluster) {
				c.Nodes[0].Until = min(now+10, 1000000)
				if until > now {
					c.Nodes[0].Mounts = []string{"da", "db"}
					phases(c, impl.PhRunning, "r")
					return
				}
				c.Nodes[0].Mounts = nil
				phases(c, impl.PhPlaced, "p", "q")
			})
		}
	}
	// At the end of time no lease is live any more, however often its agent steps.
	c := fullCluster(1000000)
	c.Now = 1000000
	for range 3 {
		c = impl.AgentStep(c, "n1").Cluster
		wantLive(t, "at the end of time", c, "n1", false)
		wantRuns(t, "at the end of time", c, "n1")
	}
}

// An agent's days: it is there, it runs, it is late, it runs anew, it dies, it wakes.
func TestDaysOfAnAgent(t *testing.T) {
	c := impl.DeskCluster()
	for _, add := range []move{
		claimMove(impl.Claim{Name: "c", Size: 5, Class: "slow", Single: true}),
		podMove(impl.Pod{Name: "p", Cpu: 1000, Claims: []string{"c"}}),
		podMove(impl.Pod{Name: "q", Cpu: 1000}),
		stepMove("n1"),
	} {
		c = add.check(t, c)
	}
	c = impl.AttachNext(impl.PlacePod(impl.PlacePod(c, "p").Cluster, "q").Cluster).Cluster
	wantRuns(t, "placed", c, "n1")
	days := []struct {
		what string
		do   move
		live bool
		runs []string
	}{
		{"it runs", stepMove("n1"), true, []string{"p", "q"}},
		{"the last moment of its lease", tickMove(9), true, []string{"p", "q"}},
		{"just in time", stepMove("n1"), true, []string{"p", "q"}},
		{"its lease is just over", tickMove(10), false, []string{"p", "q"}},
		{"it is late", stepMove("n1"), true, nil},
		{"it runs anew", stepMove("n1"), true, []string{"p", "q"}},
		{"it dies", killMove("n1"), true, nil},
		{"it wakes, within its old lease", wakeMove("n1"), false, nil},
		{"it has a lease", stepMove("n1"), true, nil},
		{"it runs once more", stepMove("n1"), true, []string{"p", "q"}},
		{"it is very late", tickMove(1000), false, []string{"p", "q"}},
		{"it is stopped", stepMove("n1"), true, nil},
	}
	for _, day := range days {
		c = day.do.check(t, c)
		wantLive(t, day.what, c, "n1", day.live)
		wantRuns(t, day.what, c, "n1", day.runs...)
	}
}
