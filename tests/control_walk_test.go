package tests

import (
	"fmt"
	"slices"
	"strings"
	"testing"

	"loop.example/g00571/impl"
)

// act: any act, mostly one that may do something; at times what is none.
func (d *dice) act() string {
	switch d.roll(17) {
	case 0:
		return fmt.Sprintf("claim %s %dGi %s %s", d.word("a", "b", "c", "d"), 1+d.roll(5), d.word("fast", "slow", "slow", "none"), d.word("single", "single", "many"))
	case 1, 2, 3:
		return strings.Join(append([]string{"pod", d.word("p", "q", "r", "s", "t"), d.word("0", "500m", "700m", "1", "3"), d.word("-", "-", "east", "west")}, d.few("a", "b", "c")...), " ")
	case 4, 5:
		return "drop pod " + d.word("p", "q", "r", "s", "t")
	case 6:
		return d.word("drop claim a", "drop claim b", "drop claim c", "drop claim d", "drop volume v_a", "drop volume v_b", "drop volume v_c", "drop volume v_d")
	case 7:
		return "kill " + d.word("n1", "n2", "n3", "n4")
	case 8:
		return "wake " + d.word("n1", "n2", "n3")
	case 9:
		return "agent " + d.word("n1", "n2", "n3", "n9")
	case 10, 11:
		return "tick " + d.word("0", "1", "5", "9", "10", "11", "16", "1000", "1001", "01")
	case 12:
		return "round"
	case 13:
		return d.word("round ", "all all", "", "kill", "tick", "drop pod P", strings.Repeat("a", 201), overlong())
	}
	return "all"
}

// actKind: the first word of an act.
func actKind(act string) string {
	word, _, _ := strings.Cut(act, " ")
	if _, found := moveOf(act); !found {
		return "none"
	}
	return word
}

// storeWalk: acts, one by one, are done to a store, held against the model, which tells the past.
func storeWalk(t *testing.T, d *dice, c impl.Cluster, steps int, seen map[string]int) ([]string, past) {
	t.Helper()
	var acts []string
	told, s := pastOf(c), impl.Store{}
	for range steps {
		act := d.act()
		now := told.then()
		want, code := actMove(act).want(now)
		seen[fmt.Sprintf("%s: %d", actKind(act), code)]++
		wantOneWriter(t, "behind "+act, actMove(act).check(t, now))
		if code != impl.OK {
			wantNotStored(t, "on the way", s, c, act, code)
		} else {
			s = wantStored(t, "on the way", s, c, act)
			acts = append(acts, act)
			told.ends, told.after = append(told.ends, int64(len(s.Log))), append(told.after, want)
			wantReplay(t, "on the way", c, s.Log, want, told.size())
			countRuns(want, seen)
		}
		if t.Failed() {
			t.Fatalf("behind %q", acts)
		}
	}
	return acts, told
}

// countRuns: what kinds of things a cluster has that promise 13 speaks of.
func countRuns(c impl.Cluster, seen map[string]int) {
	w := viewOf(c)
	for _, p := range c.Pods {
		seen[fmt.Sprintf("phase %d of %d claims", p.Phase, min(len(p.Claims), 1))]++
		if p.Phase == impl.PhRunning && len(p.Claims) > 0 && w.volumes[w.claims[p.Claims[0]].Volume].Single {
			seen["runs with a single one"]++
		}
	}
	for _, v := range c.Volumes {
		seen[fmt.Sprintf("on %d, single %v", len(v.On), v.Single)]++
		for _, n := range c.Nodes {
			if v.Single && n.Dead && slices.Contains(n.Mounts, v.Name) && !slices.Contains(v.On, n.Name) {
				seen["mounted on a dead one, on none or another"]++
			}
		}
	}
}

// Promises 13 and 14, wherever many acts lead to.
func TestManyActs(t *testing.T) {
	d := &dice{2463534243}
	seen := map[string]int{}
	for turn := range 75 {
		c := changedTo(impl.DeskCluster(), func(c *impl.Cluster) {
			putClaim(c, impl.Claim{Name: "a", Size: 3, Class: "slow", Single: turn%2 == 0})
			putClaim(c, impl.Claim{Name: "b", Size: 3, Class: "fast", Single: turn%4 > 0})
		})
		acts, told := storeWalk(t, d, c, 60, seen)
		log := logOf(acts...)
		for range 20 {
			synced := told.ends[d.roll(len(told.ends))]
			checkCrash(t, c, told, impl.Store{Log: log, Synced: synced}, int64(d.roll(len(log)+20)-10))
		}
		if t.Failed() {
			t.Fatalf("crashes of %q", acts)
		}
	}
	wantSeen(t, "acts", seen, "claim: 0", "pod: 0", "drop: 0", "kill: 0", "wake: 0", "agent: 0", "tick: 0", "round: 0", "all: 0",
		fmt.Sprintf("claim: %d", impl.ErrNone), fmt.Sprintf("claim: %d", impl.ErrThere), fmt.Sprintf("pod: %d", impl.ErrNone), fmt.Sprintf("pod: %d", impl.ErrThere),
		fmt.Sprintf("drop: %d", impl.ErrNone), fmt.Sprintf("drop: %d", impl.ErrWait), fmt.Sprintf("kill: %d", impl.ErrState), fmt.Sprintf("kill: %d", impl.ErrNone),
		fmt.Sprintf("wake: %d", impl.ErrState), fmt.Sprintf("agent: %d", impl.ErrState), fmt.Sprintf("agent: %d", impl.ErrNone), fmt.Sprintf("tick: %d", impl.ErrRange),
		fmt.Sprintf("none: %d", impl.ErrSyntax), fmt.Sprintf("none: %d", impl.ErrSize),
		"phase 0 of 1 claims", "phase 1 of 1 claims", "phase 2 of 1 claims", "phase 2 of 0 claims", "runs with a single one", "on 0, single true", "on 1, single true", "on 1, single false",
		"on 2, single false", "mounted on a dead one, on none or another")
}

// Promise 13 in clusters of all kinds, full of disks and pods, right or not.
func TestManyRounds(t *testing.T) {
	d := &dice{521288}
	seen := map[string]int{}
	for range 12 {
		c := d.messCluster()
		for step := range 25 {
			c = d.messed(c, func(wrong impl.Cluster) {
				wantRefused(t, "a wrong cluster: Round", impl.Round(wrong), impl.ErrForm)
				wantRefused(t, "a wrong cluster: all", impl.Obey(wrong, "all"), impl.ErrForm)
				seen["not right"]++
			})
			for _, act := range []string{"round", "all", "kill " + c.Nodes[d.roll(6)].Name, "agent " + c.Nodes[d.roll(6)].Name} {
				then := actMove(act).check(t, c)
				wantOneWriter(t, act, then)
				seen[fmt.Sprintf("%s changes it: %v", actKind(act), !sameCluster(c, then))]++
				if d.roll(4) == 0 {
					c = then
				}
			}
			roundMove().check(t, c)
			pick(d, c.Nodes, func(n *impl.Node) { n.Until = c.Now + int64(d.roll(9)) - 6 })
			if t.Failed() {
				t.Fatalf("at step %d", step)
			}
		}
	}
	wantSeen(t, "rounds", seen, "not right", "round changes it: true", "round changes it: false", "all changes it: true", "kill changes it: true", "agent changes it: true")
}

// controlClusters: clusters, right ones and others, in which the control has much to do, or nothing.
func controlClusters() []impl.Cluster {
	return append(agentClusters(), manyOn(21), manyWanted(), impl.DeskCluster())
}

// controlActs: acts of each kind, done to some of these and refused by others, and what is none.
func controlActs() []string {
	return append(someActs(), "pod p8 0 -", "kill n2", "wake n1", "agent n2", "drop pod p", "drop claim c1", "drop volume v5", "drop pod p9", "tick 1001", "x", "", overlong())
}

// No call changes what it was handed, at any depth, nor what stands behind the ends of its lists; its answer is new memory.
func TestControlIsNewMemory(t *testing.T) {
	for _, start := range controlClusters() {
		c := roomyCluster(start)
		before := unfolded(c)
		for _, m := range controlMoves() {
			out := m.do(c).Cluster
			wantApart(t, m.what, out, stretches(c))
			// Two answers have nothing in common either.
			wantApart(t, m.what+" anew", m.do(c).Cluster, stretches(out))
		}
		for _, act := range controlActs() {
			log := logOf("tick 0", act)
			s := allSynced(log[:min(len(log), 8000)])
			impl.StoreRight(s, c)
			impl.StoreDo(s, c, act)
			impl.StoreRecover(s, c)
		}
		if !sameCluster(unfolded(c), before) {
			t.Fatalf("what was handed in got %s, want %s", shown(unfolded(c)), shown(before))
		}
	}
}

// controlMoves: Obey of each of these acts, Round, and Replay of what is gone through to its end, in part, and not at all.
func controlMoves() []move {
	out := []move{roundMove()}
	for _, act := range controlActs() {
		out = append(out, actMove(act))
	}
	for _, acts := range [][]string{{}, {"x"}, {"all"}, {"tick 3", "x"}, {"round", "tick 1", "all", "kill n1", "wake n1"}} {
		out = append(out, replayMove(acts...))
	}
	return out
}

// replayMove: Replay of the log of these acts, for what all calls have to hold to.
func replayMove(acts ...string) move {
	return move{fmt.Sprintf("Replay %q", acts), func(c impl.Cluster) impl.ClusterOut {
		out := impl.Replay(c, logOf(acts...))
		return impl.ClusterOut{Cluster: out.Cluster, Code: out.Code}
	}, func(c impl.Cluster) (impl.Cluster, int64) {
		if broken(c) != "" {
			return impl.Cluster{}, impl.ErrForm
		}
		return pastOf(c, acts...).then(), impl.OK
	}}
}

// An answer stays what it was when what was handed in is written over, and the other way round; nothing is kept.
func TestControlKeepsNothing(t *testing.T) {
	done := map[string]int{}
	for _, start := range controlClusters() {
		for _, m := range controlMoves() {
			want, code := m.want(start)
			c := deepCopy(start)
			out := m.do(c)
			scribble(c)
			if out.Code != code || out.Name != "" || !sameCluster(out.Cluster, want) {
				t.Errorf("%s, then what was handed in was written over: got %s, want code %d, %s", m.what, shown(out), code, shown(want))
			}
			c = deepCopy(start)
			scribble(m.do(c).Cluster)
			if !sameCluster(c, start) {
				t.Errorf("%s, then the answer was written over: what was handed in got %s", m.what, shown(c))
			}
			m.check(t, c)
			if code == impl.OK && !sameCluster(want, start) {
				done[m.what]++
			}
		}
	}
	for _, m := range controlMoves() {
		_, code := m.want(workCluster())
		if done[m.what] == 0 && code == impl.OK && m.what != replayMove().what && m.what != replayMove("x").what {
			t.Errorf("%s changed none of the clusters: this tells nothing of it", m.what)
		}
	}
}

// The texts that are handed back are new memory, too.
func TestStoresAreNewMemory(t *testing.T) {
	c := impl.DeskCluster()
	for _, log := range []string{logOf("all"), logOf(deskActs()...), logOf("all", "x"), fillers(8000), fillers(8001)} {
		act := string([]byte("round"))
		for _, synced := range []int64{-1, 0, 8, int64(len(log)), int64(len(log)) + 1} {
			s := impl.Store{Log: log, Synced: synced}
			for what, got := range map[string]impl.Store{
				"StoreDo": impl.StoreDo(s, c, act).Store, "StoreCrash": impl.StoreCrash(s, 3), "StoreCrash of all": impl.StoreCrash(s, 8001),
				"StoreRecover": impl.StoreRecover(s, c), "StoreRecover in a wrong cluster": impl.StoreRecover(s, wrongClusters()[0]),
			} {
				if sharesMemory(got.Log, log) || sharesMemory(got.Log, act) {
					t.Errorf("%s: Log shares memory with what was handed in", what)
				}
			}
		}
	}
	act := string([]byte("pod p 500m east"))
	p := impl.Obey(c, act).Cluster.Pods[0]
	if sharesMemory(p.Name, act) || sharesMemory(p.Zone, act) {
		t.Errorf("Obey: the pod shares memory with its text")
	}
}
