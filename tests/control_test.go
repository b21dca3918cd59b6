package tests

import (
	"fmt"
	"slices"
	"strings"
	"testing"

	"loop.example/g00571/impl"
)

// wantObeyed: the act changes the cluster, which is right, so, and nothing else; the cluster then.
func wantObeyed(t *testing.T, what string, c impl.Cluster, act string, change func(*impl.Cluster)) impl.Cluster {
	t.Helper()
	wantRight(t, what, c, true)
	then := changedTo(c, change)
	wantBecomes(t, what+": Obey "+act, impl.Obey(c, act), then)
	wantOneWriter(t, what, then)
	return then
}

// wantDisobeyed: this code, and nothing beside it, of a cluster that is right.
func wantDisobeyed(t *testing.T, what string, c impl.Cluster, act string, code int64) {
	t.Helper()
	wantRight(t, what, c, true)
	wantRefused(t, fmt.Sprintf("%s: Obey %.60q", what, act), impl.Obey(c, act), code)
}

// wantRound: Round, and the act round, change the cluster, which is right, so, and nothing else; the cluster then.
func wantRound(t *testing.T, what string, c impl.Cluster, change func(*impl.Cluster)) impl.Cluster {
	t.Helper()
	then := wantObeyed(t, what, c, "round", change)
	wantBecomes(t, what+": Round", impl.Round(c), then)
	return then
}

// someActs: one of each kind.
func someActs() []string {
	return []string{"claim c9 5Gi fast single", "pod p9 500m east c1 c2", "drop pod p1", "drop claim c4", "drop volume v4",
		"kill n1", "wake n3", "agent n1", "tick 7", "round", "all"}
}

// noActs: texts that are none, for many reasons.
func noActs() []string {
	return []string{
		"", " ", "\n", "x", "drop", "drop ", "drop pod", "drop pod ", "drop claim", "drop claim ", "drop volume", "drop volume ",
		"kill", "kill ", "wake", "wake ", "agent", "agent ", "tick", "tick ", "claim", "claim ", "pod", "pod ", "claim c9", "pod p9",
		"round ", " round", "round n1", "round\n", "rounds", "roun", "Round", "all ", " all", "all n1", "all\n", "alls", "al", "ALL", "all all", "round all",
		" drop pod p1", "drop  pod p1", "drop pod  p1", "drop pod p1 ", "drop pod p1\n", "drop pod p1 p2", "droppod p1", "drop podp1", "drop\tpod p1", "Drop pod p1", "drop Pod p1",
		" drop claim c4", "drop  claim c4", "drop claim  c4", "drop claim c4 ", "drop claimc4", "drop claim c4 c5", "drop claims c4",
		" drop volume v4", "drop  volume v4", "drop volume  v4", "drop volume v4 ", "drop volumev4", "drop volume v4 v5", "drop node n1", "drop class fast", "drop p1", "dropping pod p1",
		" kill n1", "kill  n1", "kill n1 ", "kill n1 n2", "killn1", "kill\tn1", "Kill n1", "kills n1", "kill\u00a0n1",
		" wake n3", "wake  n3", "wake n3 ", "wake n3 n1", "waken3", "wake-n3", "Wake n3",
		" agent n1", "agent  n1", "agent n1 ", "agent n1 n2", "agentn1", "agent_n1", "Agent n1", "agentstep n1",
		"drop pod P1", "drop pod 1p", "drop pod _p", "drop pod p-1", "drop pod -", "drop pod " + longName + "a", "drop pod p1\x00", "drop pod \xff",
		"drop claim C4", "drop claim 4", "drop volume V4", "drop volume v.4", "kill N1", "kill 1", "kill _", "kill " + longName + "a", "wake N3", "wake 3", "agent N1", "agent n1!", "agent \u00e4",
		"claim c9 5Gi fast single ", " claim c9 5Gi fast single", "claim  c9 5Gi fast single", "claim c9 5Gi fast", "claim c9 5Gi fast one", "claim c9 05Gi fast single", "claim C9 5Gi fast single",
		"claim c9 1024Gi fast single", "add claim c9 5Gi fast single", "claim c9 5Gi fast single v1",
		"pod p9 500m east ", " pod p9 500m east", "pod  p9 500m east", "pod p9 500m", "pod p9 1000m east", "pod p9 500m east c2 c1", "pod p9 500m east c1 c1", "pod p9 500m east a b c d", "pod p9 500m east -",
		"add pod p9 500m east", "pod p9 500m east n1 2", "node n9", "class fast", "volume v9", "bind c4", "evict p1", "place p5", "attach", "step", "crash", "sync",
	}
}

// Each kind of act, done: with what it changes, and nothing else.
func TestActsDone(t *testing.T) {
	c := workCluster()
	wantObeyed(t, "a claim", c, "claim c9 5Gi fast single", func(c *impl.Cluster) {
		putClaim(c, impl.Claim{Name: "c9", Size: 5, Class: "fast", Single: true})
	})
	wantObeyed(t, "a claim of many", c, "claim a 2Ti slow many", func(c *impl.Cluster) {
		putClaim(c, impl.Claim{Name: "a", Size: 2048, Class: "slow"})
	})
	wantObeyed(t, "a pod", c, "pod p9 500m east c1 c2", func(c *impl.Cluster) {
		putPod(c, impl.Pod{Name: "p9", Cpu: 500, Zone: "east", Claims: []string{"c1", "c2"}})
	})
	wantObeyed(t, "a pod of any zone", c, "pod a 3 -", func(c *impl.Cluster) { putPod(c, impl.Pod{Name: "a", Cpu: 3000}) })
	wantObeyed(t, "a pod less", c, "drop pod p1", func(c *impl.Cluster) { c.Pods = without(c.Pods, "p1", podName) })
	wantObeyed(t, "a claim less", restCluster(), "drop claim c3", func(c *impl.Cluster) { c.Claims = without(c.Claims, "c3", claimName) })
	wantObeyed(t, "a claim less, and its disk", restCluster(), "drop claim c1", func(c *impl.Cluster) {
		c.Claims, c.Volumes = without(c.Claims, "c1", claimName), without(c.Volumes, "v1", volumeName)
	})
	wantObeyed(t, "a volume less", c, "drop volume v4", func(c *impl.Cluster) { c.Volumes = without(c.Volumes, "v4", volumeName) })
	wantObeyed(t, "a spent volume less", c, "drop volume v5", func(c *impl.Cluster) { c.Volumes = without(c.Volumes, "v5", volumeName) })
	wantObeyed(t, "a claim less that keeps", restCluster(), "drop claim c2", func(c *impl.Cluster) {
		c.Claims = without(c.Claims, "c2", claimName)
		theVolume(c, "v2").Claim, theVolume(c, "v2").Spent = "", true
	})
	wantObeyed(t, "a death", c, "kill n1", func(c *impl.Cluster) {
		c.Nodes[0].Dead, c.Pods[0].Phase = true, impl.PhPlaced
	})
	wantObeyed(t, "a waking", c, "wake n3", func(c *impl.Cluster) {
		c.Nodes[2].Dead, c.Nodes[2].Until, c.Nodes[2].Mounts = false, 0, nil
	})
	wantObeyed(t, "a step with a lease", c, "agent n1", func(c *impl.Cluster) {
		c.Nodes[0].Until, c.Pods[1].Phase = 35, impl.PhRunning
	})
	wantObeyed(t, "a step without a lease", c, "agent n2", func(c *impl.Cluster) {
		c.Nodes[1].Until, c.Nodes[1].Mounts, c.Pods[2].Phase = 35, nil, impl.PhPlaced
	})
	wantObeyed(t, "all of one name", alikeCluster(), "drop pod a", func(c *impl.Cluster) { c.Pods = nil })
	wantObeyed(t, "all of one name", alikeCluster(), "kill a", func(c *impl.Cluster) {
		c.Nodes[0].Dead, c.Pods[0].Phase = true, impl.PhPlaced
	})
	// The longest acts that there are: none is near to 200 bytes.
	wantObeyed(t, "long names", c, "claim "+longName+" 1048575Gi fast single", func(c *impl.Cluster) {
		putClaim(c, impl.Claim{Name: longName, Size: 1048575, Class: "fast", Single: true})
	})
	long := wantObeyed(t, "long names", c, "pod "+longName+" 999999m "+longName+" c1 c2 c3", func(c *impl.Cluster) {
		putPod(c, impl.Pod{Name: longName, Cpu: 999999, Zone: longName, Claims: []string{"c1", "c2", "c3"}})
	})
	wantObeyed(t, "long names", long, "drop pod "+longName, func(c *impl.Cluster) { c.Pods = without(c.Pods, longName, podName) })
}

// Each kind of act, refused: with the code of the call, and nothing beside it.
func TestActsRefused(t *testing.T) {
	c := workCluster()
	full := changedTo(c, func(c *impl.Cluster) {
		for _, name := range nameRow(3) {
			putClaim(c, impl.Claim{Name: name, Size: 1, Class: "fast"})
			putPod(c, emptyPod(name))
		}
	})
	for _, x := range []struct {
		act  string
		code int64
	}{
		{"claim c1 5Gi fast single", impl.ErrThere}, {"claim c1 5Gi none single", impl.ErrThere}, {"claim c9 5Gi none single", impl.ErrNone}, {"claim c9 5Gi c1 many", impl.ErrNone},
		{"pod p1 500m east", impl.ErrThere}, {"pod p1 0 - c9", impl.ErrThere}, {"pod p9 0 - c9", impl.ErrNone}, {"pod p9 0 - c1 c9", impl.ErrNone}, {"pod p9 0 - p1", impl.ErrNone},
		{"drop pod p9", impl.ErrNone}, {"drop pod c1", impl.ErrNone}, {"drop pod " + longName, impl.ErrNone},
		{"drop claim c9", impl.ErrNone}, {"drop claim v1", impl.ErrNone}, {"drop claim c1", impl.ErrWait}, {"drop claim c2", impl.ErrWait}, {"drop claim c5", impl.ErrWait},
		{"drop volume v9", impl.ErrNone}, {"drop volume c1", impl.ErrNone}, {"drop volume v1", impl.ErrWait}, {"drop volume v3", impl.ErrWait},
		{"kill n9", impl.ErrNone}, {"kill p1", impl.ErrNone}, {"kill n3", impl.ErrState},
		{"wake n9", impl.ErrNone}, {"wake n1", impl.ErrState}, {"wake n2", impl.ErrState},
		{"agent n9", impl.ErrNone}, {"agent n3", impl.ErrState},
		{"tick 1001", impl.ErrRange}, {"tick 999999999", impl.ErrRange},
	} {
		wantDisobeyed(t, "refused", c, x.act, x.code)
	}
	wantDisobeyed(t, "as many as may be", full, "claim c9 5Gi fast single", impl.ErrFull)
	wantDisobeyed(t, "as many as may be", full, "claim c9 5Gi none single", impl.ErrFull)
	wantDisobeyed(t, "as many as may be", full, "claim c1 5Gi fast single", impl.ErrThere)
	wantDisobeyed(t, "as many as may be", full, "pod p9 0 -", impl.ErrFull)
	wantDisobeyed(t, "as many as may be", full, "pod p9 0 - c0", impl.ErrFull)
	wantDisobeyed(t, "as many as may be", full, "pod p1 0 -", impl.ErrThere)
	for _, act := range []string{"kill n1", "wake n1", "agent n1", "drop pod p1", "drop claim c1", "drop volume v1"} {
		wantDisobeyed(t, "nothing is there", impl.Cluster{}, act, impl.ErrNone)
	}
	wantObeyed(t, "nothing is there", impl.Cluster{}, "pod p1 0 -", func(c *impl.Cluster) { c.Pods = []impl.Pod{{Name: "p1"}} })
	wantDisobeyed(t, "nothing is there", impl.Cluster{}, "claim c1 1Gi fast many", impl.ErrNone)
}

func TestNoActs(t *testing.T) {
	for _, c := range []impl.Cluster{{}, impl.DeskCluster(), workCluster(), alikeCluster()} {
		for _, act := range noActs() {
			wantDisobeyed(t, "no act", c, act, impl.ErrSyntax)
		}
	}
}

// tick: 0, needless noughts, as many digits as may be and one more, signs, and no digit.
func TestTicksOfActs(t *testing.T) {
	for _, now := range []int64{0, 25, 999000, 999993, 1000000} {
		c := changedTo(workCluster(), func(c *impl.Cluster) { c.Now = now })
		for _, ticks := range []int64{0, 1, 7, 9, 10, 99, 100, 999, 1000, 1001, 1234, 10000, 999999, 1000000, 99999999, 100000000, 123456789, 999999999} {
			act := fmt.Sprintf("tick %d", ticks)
			if ticks > 1000 || now+ticks > 1000000 {
				wantDisobeyed(t, "too much", c, act, impl.ErrRange)
				continue
			}
			wantObeyed(t, "time goes by", c, act, func(c *impl.Cluster) { c.Now += ticks })
		}
		for _, rest := range []string{
			"", " ", " 7", "  7", "7 ", "7\n", "7 7", "00", "01", "07", "007", "000000007", "0000000007", "000000000", "0000000000", "0 ", "-0", "+0", "-7", "+7", "--7", "1e2", "7.", "7.0", ".7", "0x7", "7_0", "1,000",
			"1000000000", "1234567890", "9999999999", "4294967303", "18446744073709551623", "99999999999999999999999", strings.Repeat("1", 150), strings.Repeat("0", 150),
			"a", "7a", "a7", "n1", "\u0667", "\uff17", "\xff", "7\x00", "\x007",
		} {
			wantDisobeyed(t, "no number", c, "tick "+rest, impl.ErrSyntax)
		}
		wantDisobeyed(t, "no blank", c, "tick7", impl.ErrSyntax)
		wantDisobeyed(t, "no blank", c, "tick", impl.ErrSyntax)
		wantDisobeyed(t, "another blank", c, "tick\t7", impl.ErrSyntax)
	}
}

// A claim and a pod are told by just their texts.
func TestTextsOfActs(t *testing.T) {
	c := changedTo(impl.DeskCluster(), func(c *impl.Cluster) { putClaim(c, impl.Claim{Name: "c1", Size: 1, Class: "slow"}) })
	for _, size := range []int64{1, 5, 1023, 1024, 1025, 2048, 1048575, 1048576} {
		for _, single := range []bool{false, true} {
			for _, class := range []string{"fast", "slow"} {
				x := impl.Claim{Name: "x", Size: size, Class: class, Single: single}
				wantObeyed(t, "a claim", c, impl.ClaimText(x), func(c *impl.Cluster) { putClaim(c, x) })
				for _, wrong := range []string{" ", "\n", " v1", " many"} {
					wantDisobeyed(t, "a claim, and more", c, impl.ClaimText(x)+wrong, impl.ErrSyntax)
				}
			}
		}
	}
	for _, milli := range []int64{0, 1, 500, 999, 1000, 1001, 2000, 999999, 1000000} {
		for _, zone := range []string{"", "east", "north", "z"} {
			for _, claims := range [][]string{nil, {"c1"}} {
				p := impl.Pod{Name: "x", Cpu: milli, Zone: zone, Claims: claims}
				wantObeyed(t, "a pod", c, impl.PodText(p), func(c *impl.Cluster) { putPod(c, p) })
				for _, wrong := range []string{" ", "\n", " c1 c1", " -"} {
					wantDisobeyed(t, "a pod, and more", c, impl.PodText(p)+wrong, impl.ErrSyntax)
				}
			}
		}
	}
}

// One byte more, less or turned, at each place of each kind of act.
func TestNearlyRightActs(t *testing.T) {
	c := changedTo(impl.DeskCluster(), func(c *impl.Cluster) {
		putClaim(c, impl.Claim{Name: "c1", Size: 1, Class: "slow"})
		putPod(c, impl.Pod{Name: "p1"})
		putVolume(c, impl.Volume{Name: "v1", Size: 1, Zone: "east", Class: "slow"})
		c.Nodes[2].Dead = true
	})
	for _, act := range []string{"claim c9 5Gi fast single", "pod p9 1 - c1", "drop pod p1", "drop claim c1", "drop volume v1", "kill n1", "wake n3", "agent n1", "tick 10", "round", "all"} {
		for at := range len(act) + 1 {
			for _, b := range []string{"", " ", "a", "l", "0", "1", "_", "-", "P", "\n", "\x00", "\xff", "\u0661"} {
				actMove(act[:at]+b+act[at:]).check(t, c)
				if at < len(act) {
					actMove(act[:at]+b+act[at+1:]).check(t, c)
				}
			}
			actMove(act[:at]).check(t, c)
			actMove(act[at:]).check(t, c)
			// Two acts are none.
			actMove(act[:at]+act).check(t, c)
		}
	}
}

// 200 bytes and 201, 8,000 and 8,001, of clusters that are right and of others; the first fault is named.
func TestLongActs(t *testing.T) {
	fills := []string{" ", "a", "0", "_", "\n", "\xff"}
	for _, act := range append(someActs(), "") {
		for _, fill := range fills {
			long := act + strings.Repeat(fill, 100001)
			for _, size := range []int{199, 200, 201, 202, 7999, 8000} {
				wantDisobeyed(t, "long", workCluster(), long[:size], impl.ErrSyntax)
				wantDisobeyed(t, "long, nothing there", impl.Cluster{}, long[:size], impl.ErrSyntax)
				for _, c := range wrongClusters()[:3] {
					wantRefused(t, "long, a wrong cluster", impl.Obey(c, long[:size]), impl.ErrForm)
				}
			}
			for _, size := range []int{8001, 8002, 100001} {
				wantDisobeyed(t, "too long", workCluster(), long[:size], impl.ErrSize)
				for _, c := range wrongClusters()[:3] {
					wantRefused(t, "too long, a wrong cluster", impl.Obey(c, long[:size]), impl.ErrSize)
				}
			}
		}
	}
	// Blanks ahead do not shorten it either.
	wantDisobeyed(t, "too long", workCluster(), strings.Repeat(" ", 7997)+"round", impl.ErrSize)
	wantDisobeyed(t, "long", workCluster(), strings.Repeat(" ", 195)+"round", impl.ErrSyntax)
}

// A cluster that is not right is named ahead of what is no act, and of what would be refused.
func TestActsInWrongClusters(t *testing.T) {
	for _, c := range wrongClusters() {
		for _, act := range slices.Concat(someActs(), noActs(), []string{"drop pod p0", "kill n9", "tick 1001", "claim c1 5Gi fast single"}) {
			wantRefused(t, fmt.Sprintf("a wrong cluster: Obey %.60q", act), impl.Obey(c, act), impl.ErrForm)
		}
		wantRefused(t, "a wrong cluster: Round", impl.Round(c), impl.ErrForm)
		for _, act := range overlongs() {
			wantRefused(t, "a wrong cluster, too long", impl.Obey(c, act), impl.ErrSize)
		}
	}
}

// Clusters in which the control has nothing to do.
func TestRoundOfNothing(t *testing.T) {
	for _, c := range []impl.Cluster{{}, {Now: 1000000}, impl.DeskCluster(), alikeCluster(), attachCluster(nothingMore)} {
		wantRound(t, "nothing to do", c, nothingMore)
	}
	wantRound(t, "it waits", placeWith(func(c *impl.Cluster) { c.Pods[0].Cpu = 1001 }), nothingMore)
	wantRound(t, "no lease", placeWith(func(c *impl.Cluster) {
		for i := range c.Nodes {
			c.Nodes[i].Until = c.Now
		}
	}), nothingMore)
	for _, until := range []int64{20, 25, 30} {
		wantRound(t, "in the grace", attachCluster(func(c *impl.Cluster) {
			putBound(c, "a", disk("a", "east", true, "n1"))
			podOn(c, "p", "n1", "a")
			kill(c, "n1", until)
		}), nothingMore)
	}
	once := impl.Round(workCluster()).Cluster
	wantRound(t, "all is done", once, nothingMore)
}

// placeWith: placeCluster, so changed.
func placeWith(change func(*impl.Cluster)) impl.Cluster {
	return changedTo(placeCluster(), change)
}

// A pod is taken from a dead node, and placed elsewhere in the same round; its disk follows as soon as it may.
func TestRoundMovesPods(t *testing.T) {
	for _, until := range []int64{19, 20} {
		c := attachCluster(func(c *impl.Cluster) {
			putBound(c, "a", disk("a", "east", false, "n1"))
			putBound(c, "b", disk("b", "east", true, "n1"))
			putPod(c, impl.Pod{Name: "p", Cpu: 100, Node: "n1", Phase: impl.PhPlaced})
			putPod(c, impl.Pod{Name: "q", Cpu: 100, Claims: []string{"a"}, Node: "n1", Phase: impl.PhPlaced})
			putPod(c, impl.Pod{Name: "r", Cpu: 100, Claims: []string{"b"}, Node: "n1", Phase: impl.PhPlaced})
			c.Nodes[1].Cpu, c.Nodes[2].Cpu, c.Nodes[3].Cpu, c.Nodes[4].Cpu = 1000, 950, 0, 0
			kill(c, "n1", until)
			c.Nodes[0].Mounts = []string{"da", "db"}
		})
		if until == 20 {
			wantRound(t, "in the grace", c, nothingMore)
			continue
		}
		c = wantRound(t, "over", c, func(c *impl.Cluster) {
			putOn(c, "p", "n2")
			putOn(c, "q", "n3")
			theVolume(c, "da").On = []string{"n3"}
			// One that one alone may write has to be off first: its pod waits.
			thePod(c, "r").Node, thePod(c, "r").Phase = "", impl.PhPending
			theVolume(c, "db").On = nil
		})
		c = wantRound(t, "the second one", c, func(c *impl.Cluster) {
			putOn(c, "r", "n2")
			theVolume(c, "db").On = []string{"n2"}
		})
		wantRound(t, "the third one", c, nothingMore)
	}
}

// Claims are bound by themselves, or for a pod's sake; some wait for good.
func TestRoundBinds(t *testing.T) {
	c := placeWith(func(c *impl.Cluster) {
		c.Classes = append(c.Classes, impl.Class{Name: "wide"})
		putClaim(c, impl.Claim{Name: "a", Size: 3, Class: "fast", Single: true})
		putClaim(c, impl.Claim{Name: "b", Size: 2, Class: "fast", Single: true})
		putClaim(c, impl.Claim{Name: "c", Size: 3, Class: "slow"})
		putClaim(c, impl.Claim{Name: "d", Size: 3, Class: "slow"})
		putClaim(c, impl.Claim{Name: "e", Size: 3, Class: "wide"})
		putVolume(c, impl.Volume{Name: "x", Size: 4, Zone: "east", Class: "fast", Single: true})
		putPod(c, impl.Pod{Name: "q", Cpu: 100, Claims: []string{"b", "d"}})
		putPod(c, impl.Pod{Name: "r", Cpu: 100, Claims: []string{"e"}})
	})
	c = wantRound(t, "at first", c, func(c *impl.Cluster) {
		*c = tied(*c, "a", "x")
		tieIn(c, c.Claims[1], "v_b", "east")
		// p comes first, and takes the most room; q is next, and d is bound where it is.
		putOn(c, "p", "n1")
		tieIn(c, c.Claims[3], "v_d", "east")
		putOn(c, "q", "n1")
		theVolume(c, "v_b").On, theVolume(c, "v_d").On = []string{"n1"}, []string{"n1"}
	})
	wantRound(t, "then", c, nothingMore)
	for name, bound := range map[string]bool{"a": true, "b": true, "c": false, "d": true, "e": false} {
		if got := !slices.Contains(impl.Unbound(c), name); got != bound {
			t.Errorf("%s is bound: got %v, want %v", name, got, bound)
		}
	}
}

// Pods are placed in the order of their names, those that were taken from a node in the same round among them.
func TestRoundInOrder(t *testing.T) {
	c := placeWith(func(c *impl.Cluster) {
		c.Nodes = c.Nodes[:2]
		kill(c, "n2", 0)
		c.Nodes[0].Cpu = 150
		putPod(c, impl.Pod{Name: "z", Cpu: 100, Node: "n2", Phase: impl.PhPlaced})
		c.Pods = without(c.Pods, "p", podName)
		putPod(c, impl.Pod{Name: "a", Cpu: 100})
	})
	c = wantRound(t, "room for one", c, func(c *impl.Cluster) {
		thePod(c, "z").Node, thePod(c, "z").Phase = "", impl.PhPending
		putOn(c, "a", "n1")
	})
	c = impl.DropPod(c, "a").Cluster
	wantRound(t, "room for the other", c, func(c *impl.Cluster) { putOn(c, "z", "n1") })
}

// manyOn: a right cluster of six nodes and eight disks, of which so many are on a node in vain, disk by disk.
func manyOn(count int) impl.Cluster {
	c := impl.Cluster{Classes: []impl.Class{{Name: "slow"}}, Now: 25}
	for _, name := range nameRow(6) {
		c.Nodes = append(c.Nodes, impl.Node{Name: name, Zone: "east", Cpu: 1000, Slots: 8, Until: 30})
	}
	for at, name := range nameRow(8) {
		on := nameRow(6)[:min(6, max(0, count-6*at))]
		putBound(&c, name, impl.Volume{Name: name, Size: 1, Zone: "east", Class: "slow", On: on})
	}
	return c
}

// manyWanted: the same without these, and with eight pods, which want 24 pairs.
func manyWanted() impl.Cluster {
	c := manyOn(0)
	for at, name := range nameRow(8) {
		claims := nameRow(8)[:3]
		if at > 5 {
			claims = nameRow(8)[3:6]
		}
		podOn(&c, name, nameRow(6)[at%6], claims...)
	}
	return c
}

// 20 disks are taken off or put on in a round, and no more; those behind are for the next ones.
func TestRoundOfTwenty(t *testing.T) {
	for _, count := range []int{0, 1, 19, 20, 21, 39, 40, 41, 48} {
		c := manyOn(count)
		for left := count; left > 0; left -= 20 {
			wantExcessCount(t, c, left)
			c = wantRound(t, fmt.Sprintf("%d in vain", left), c, func(c *impl.Cluster) { takeOff(c, 20) })
		}
		wantExcessCount(t, c, 0)
		wantRound(t, "none in vain", c, nothingMore)
	}
	c := manyWanted()
	for _, done := range []int{20, 24, 24} {
		c = impl.Round(c).Cluster
		count := 0
		for _, v := range c.Volumes {
			count += len(v.On)
		}
		if count != done {
			t.Errorf("put on: got %d, want %d: %s", count, done, shown(c))
		}
	}
	roundMove().check(t, manyWanted())
	// Both kinds together are 20, those that are taken off first.
	both := changedTo(manyWanted(), func(c *impl.Cluster) {
		for at := range 12 {
			v := &c.Volumes[6+at%2]
			v.On = append(v.On, nameRow(6)[at/2])
		}
	})
	wantExcessCount(t, both, 12)
	then := roundMove().check(t, both)
	wantExcessCount(t, then, 0)
	if got := len(then.Volumes[0].On) + len(then.Volumes[1].On); got != 8 {
		t.Errorf("put on behind 12 that were taken off: got %d, want 8: %s", got, shown(then))
	}
}

// takeOff: the first so many pairs of disks and nodes that they are on are no more.
func takeOff(c *impl.Cluster, count int) {
	for i := range c.Volumes {
		off := min(count, len(c.Volumes[i].On))
		c.Volumes[i].On = c.Volumes[i].On[off:]
		count -= off
	}
}

func wantExcessCount(t *testing.T, c impl.Cluster, want int) {
	t.Helper()
	if got := len(impl.Excess(c)); got != want {
		t.Errorf("in vain: got %d, want %d: %s", got, want, shown(c))
	}
}

// all: steps, a round, and steps anew, so that a pod without disks runs at once, and one with disks, too.
func TestAllOfNewPods(t *testing.T) {
	c := impl.DeskCluster()
	until := func(c *impl.Cluster, times ...int64) {
		for i, time := range times {
			c.Nodes[i].Until = time
		}
	}
	wantObeyed(t, "nothing to do but to take leases", c, "all", func(c *impl.Cluster) { until(c, 10, 10, 10) })
	wantObeyed(t, "nothing at all", impl.Cluster{Now: 5}, "all", nothingMore)
	c = impl.Obey(c, "pod p 500m -").Cluster
	c = impl.Obey(c, "claim b 5Gi slow single").Cluster
	c = impl.Obey(c, "pod q 500m west b").Cluster
	c = impl.Obey(c, "claim c 5Gi fast many").Cluster
	c = impl.Obey(c, "pod r 2 - c").Cluster
	c = wantObeyed(t, "new pods", c, "all", func(c *impl.Cluster) {
		until(c, 10, 10, 10)
		tieIn(c, c.Claims[0], "v_b", "west")
		tieIn(c, c.Claims[1], "v_c", "east")
		putOn(c, "p", "n1")
		putOn(c, "q", "n3")
		theVolume(c, "v_b").On, c.Nodes[2].Mounts = []string{"n3"}, []string{"v_b"}
		phases(c, impl.PhRunning, "p", "q")
	})
	wantObeyed(t, "it is at rest", c, "all", nothingMore)
	c = impl.Obey(c, "drop pod p").Cluster
	c = wantObeyed(t, "room for another one", c, "all", func(c *impl.Cluster) {
		putOn(c, "r", "n1")
		theVolume(c, "v_c").On, c.Nodes[0].Mounts = []string{"n1"}, []string{"v_c"}
		phases(c, impl.PhRunning, "r")
	})
	c = wantObeyed(t, "time goes by", impl.Obey(c, "tick 9").Cluster, "all", func(c *impl.Cluster) { until(c, 19, 19, 19) })
	// Late agents stop all in the first step, and start it anew in the second one.
	wantObeyed(t, "too much time goes by", impl.Obey(c, "tick 10").Cluster, "all", func(c *impl.Cluster) { until(c, 29, 29, 29) })
}

// all with a dead node: its step tells a code, and so do others' doings, and all else is done.
func TestAllWithTheDead(t *testing.T) {
	c := changedTo(impl.DeskCluster(), func(c *impl.Cluster) {
		c.Now = 25
		kill(c, "n1", 19)
		putBound(c, "a", impl.Volume{Name: "da", Size: 5, Zone: "east", Class: "slow", Single: true, On: []string{"n1"}})
		putClaim(c, impl.Claim{Name: "b", Size: 5, Class: "slow"})
		putPod(c, impl.Pod{Name: "p", Cpu: 500, Claims: []string{"a"}, Node: "n1", Phase: impl.PhPlaced})
		putPod(c, impl.Pod{Name: "q", Cpu: 500, Zone: "west"})
		putPod(c, impl.Pod{Name: "r", Cpu: 500, Zone: "north"})
		c.Nodes[0].Mounts = []string{"da"}
	})
	c = wantObeyed(t, "its pod is taken from it, and its disk", c, "all", func(c *impl.Cluster) {
		c.Nodes[1].Until, c.Nodes[2].Until = 35, 35
		thePod(c, "p").Node, thePod(c, "p").Phase = "", impl.PhPending
		theVolume(c, "da").On = nil
		putOn(c, "q", "n3")
		phases(c, impl.PhRunning, "q")
	})
	c = wantObeyed(t, "both are elsewhere", c, "all", func(c *impl.Cluster) {
		putOn(c, "p", "n2")
		theVolume(c, "da").On, c.Nodes[1].Mounts = []string{"n2"}, []string{"da"}
		phases(c, impl.PhRunning, "p")
	})
	wantObeyed(t, "it is at rest", c, "all", nothingMore)
	c = impl.Obey(c, "wake n1").Cluster
	wantObeyed(t, "it is awake", c, "all", func(c *impl.Cluster) { c.Nodes[0].Until = 35 })
	for _, until := range []int64{20, 25, 30} {
		in := changedTo(impl.DeskCluster(), func(c *impl.Cluster) {
			c.Now = 25
			for i := range c.Nodes {
				kill(c, c.Nodes[i].Name, until)
			}
			putPod(c, impl.Pod{Name: "p", Node: "n1", Phase: impl.PhPlaced})
			putPod(c, impl.Pod{Name: "q"})
		})
		wantObeyed(t, "all are dead", in, "all", nothingMore)
	}
}

// At the end of time no lease is live any more: nothing is placed, and nothing runs.
func TestAllAtTheEndOfTime(t *testing.T) {
	c := changedTo(impl.DeskCluster(), func(c *impl.Cluster) {
		c.Now = 1000000
		putPod(c, impl.Pod{Name: "p"})
		runOn(c, "q", "n1")
	})
	c = wantObeyed(t, "at the end of time", c, "all", func(c *impl.Cluster) {
		for i := range c.Nodes {
			c.Nodes[i].Until = 1000000
		}
		phases(c, impl.PhPlaced, "q")
	})
	wantDisobeyed(t, "at the end of time", c, "tick 1", impl.ErrRange)
	wantObeyed(t, "at the end of time", c, "tick 0", nothingMore)
}
