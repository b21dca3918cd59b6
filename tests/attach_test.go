package tests

import (
	"fmt"
	"slices"
	"testing"

	"loop.example/g00571/impl"
)

// attachCluster: a right cluster, so changed, of the living nodes n1 to n4 in the east and n5 in the west, each with room for three disks.
func attachCluster(change func(*impl.Cluster)) impl.Cluster {
	c := impl.Cluster{
		Classes: []impl.Class{{Name: "keep", Keep: true}, {Name: "slow", Wait: true}},
		Now:     25,
	}
	for _, name := range []string{"n1", "n2", "n3", "n4", "n5"} {
		c.Nodes = append(c.Nodes, impl.Node{Name: name, Zone: "east", Cpu: 1000, Slots: 3, Until: 30})
	}
	c.Nodes[4].Zone = "west"
	change(&c)
	return c
}

// podOn: one more pod, placed on that node, with these claims.
func podOn(c *impl.Cluster, name string, node string, claims ...string) {
	putPod(c, impl.Pod{Name: name, Claims: claims, Node: node, Phase: impl.PhPlaced})
}

// theVolume: the disk of that name, to be changed.
func theVolume(c *impl.Cluster, name string) *impl.Volume {
	return &c.Volumes[slices.Index(namesOf(c.Volumes, volumeName), name)]
}

// kill: that node is dead, and its lease went up to then.
func kill(c *impl.Cluster, node string, until int64) {
	theNode(c, node).Dead, theNode(c, node).Until = true, until
}

// pairs: of disk, node, disk, node ..
func pairs(names ...string) []impl.Pair {
	var out []impl.Pair
	for two := range slices.Chunk(names, 2) {
		out = append(out, impl.Pair{Volume: two[0], Node: two[1]})
	}
	return out
}

// wantWanted: in the cluster, which is right, these.
func wantWanted(t *testing.T, what string, c impl.Cluster, names ...string) {
	t.Helper()
	wantRight(t, what, c, true)
	if got := impl.Wanted(c); !slices.Equal(got, pairs(names...)) {
		t.Errorf("%s: Wanted: got %v, want %v: %s", what, got, pairs(names...), shown(c))
	}
}

// wantExcess: in the cluster, which is right, these.
func wantExcess(t *testing.T, what string, c impl.Cluster, names ...string) {
	t.Helper()
	wantRight(t, what, c, true)
	if got := impl.Excess(c); !slices.Equal(got, pairs(names...)) {
		t.Errorf("%s: Excess: got %v, want %v: %s", what, got, pairs(names...), shown(c))
	}
}

// wantOff: that disk is taken off that node, and nothing else is changed; the cluster then.
func wantOff(t *testing.T, what string, c impl.Cluster, volume string, node string) impl.Cluster {
	t.Helper()
	wantRight(t, what, c, true)
	then := changedTo(c, func(c *impl.Cluster) {
		v := theVolume(c, volume)
		v.On = slices.DeleteFunc(v.On, func(name string) bool { return name == node })
	})
	if sameCluster(c, then) {
		t.Errorf("%s: %s is not on %s", what, volume, node)
	}
	wantNamed(t, what+": AttachNext", impl.AttachNext(c), then, "off "+volume)
	return then
}

// wantPutOn: that disk is put on that node, and nothing else is changed; the cluster then.
func wantPutOn(t *testing.T, what string, c impl.Cluster, volume string, node string) impl.Cluster {
	t.Helper()
	wantExcess(t, what, c)
	then := changedTo(c, func(c *impl.Cluster) {
		v := theVolume(c, volume)
		v.On = append(v.On, node)
		slices.Sort(v.On)
	})
	wantNamed(t, what+": AttachNext", impl.AttachNext(c), then, "on "+volume)
	return then
}

// wantRest: there is nothing to do, and nothing to be taken off.
func wantRest(t *testing.T, what string, c impl.Cluster) {
	t.Helper()
	wantExcess(t, what, c)
	wantRefused(t, what+": AttachNext", impl.AttachNext(c), impl.ErrNone)
}

// A cluster that is not right, and one without much in it.
func TestAttachingOfLittle(t *testing.T) {
	for _, c := range wrongClusters() {
		wantNothingAttached(t, c)
		// Neither is there anything if there would be something, were it right.
		wantNothingAttached(t, changedTo(c, func(c *impl.Cluster) { c.Volumes[0].On = []string{"n1"} }))
	}
	for _, change := range []func(*impl.Cluster){
		func(c *impl.Cluster) { c.Now = -1 },
		func(c *impl.Cluster) { c.Pods = append(c.Pods, impl.Pod{Name: "p", Phase: 3}) },
		func(c *impl.Cluster) { c.Volumes[0].On = []string{"n2"} },
		func(c *impl.Cluster) { c.Volumes[1].On = []string{"n2", "n1"} },
		func(c *impl.Cluster) { c.Volumes[1].On = []string{"n1", "n2", "n9"} },
		func(c *impl.Cluster) { c.Nodes[0].Slots = 1 },
	} {
		wantNothingAttached(t, changedTo(workCluster(), change))
	}
	for _, c := range []impl.Cluster{{}, {Now: 1000000}, impl.DeskCluster(), placeCluster(), attachCluster(nothingMore)} {
		wantWanted(t, "no disks", c)
		wantRest(t, "no disks", c)
	}
	noPods := attachCluster(func(c *impl.Cluster) {
		putBound(c, "a", disk("a", "east", true))
		putVolume(c, disk("b", "east", true))
	})
	wantWanted(t, "no pods", noPods)
	wantRest(t, "no pods", noPods)
	noDisks := attachCluster(func(c *impl.Cluster) { podOn(c, "p", "n1") })
	wantWanted(t, "no disks", noDisks)
	wantRest(t, "no disks", noDisks)
	wantWanted(t, "all of one name", alikeCluster(), "a", "a")
	wantRest(t, "all of one name", alikeCluster())
}

// wantNothingAttached: the cluster is not right.
func wantNothingAttached(t *testing.T, c impl.Cluster) {
	t.Helper()
	wantRight(t, "a wrong cluster", c, false)
	if wanted, excess := impl.Wanted(c), impl.Excess(c); len(wanted) > 0 || len(excess) > 0 {
		t.Errorf("a wrong cluster: Wanted %v, Excess %v, want none: %s", wanted, excess, shown(c))
	}
	wantRefused(t, "AttachNext in a wrong cluster", impl.AttachNext(c), impl.ErrForm)
}

func TestWantedOfPhases(t *testing.T) {
	for _, dead := range []bool{false, true} {
		for _, until := range []int64{0, 19, 20, 25, 30} {
			c := attachCluster(func(c *impl.Cluster) {
				putBound(c, "a", disk("a", "east", true))
				putPod(c, impl.Pod{Name: "p", Claims: []string{"a"}})
				c.Nodes[0].Until, c.Nodes[0].Dead = until, dead
			})
			wantWanted(t, "pending", c)
			putOn(&c, "p", "n1")
			// What becomes of the node does not count.
			wantWanted(t, "placed", c, "da", "n1")
			c.Volumes[0].On = []string{"n1"}
			wantWanted(t, "placed, and there", c, "da", "n1")
			c.Volumes[0].On = []string{"n2"}
			wantWanted(t, "placed, and elsewhere", c, "da", "n1")
			if dead {
				continue
			}
			c.Volumes[0].On, c.Nodes[0].Mounts, c.Pods[0].Phase = []string{"n1"}, []string{"da"}, impl.PhRunning
			wantWanted(t, "running", c, "da", "n1")
		}
	}
	c := workCluster()
	wantWanted(t, "all kinds", c, "v1", "n1", "v2", "n1", "v2", "n2", "v3", "n3")
	wantWanted(t, "one is gone", impl.DropPod(c, "p3").Cluster, "v1", "n1", "v2", "n1", "v3", "n3")
	wantWanted(t, "one of two is gone", impl.DropPod(c, "p1").Cluster, "v1", "n1", "v2", "n2", "v3", "n3")
	wantWanted(t, "without claims", restCluster())
}

func TestWantedOfManyClaims(t *testing.T) {
	c := attachCluster(func(c *impl.Cluster) {
		putBound(c, "a", disk("z", "east", false))
		putBound(c, "b", disk("y", "east", false))
		putBound(c, "c", disk("x", "east", true))
		putBound(c, "d", disk("w", "west", true))
		putClaim(c, impl.Claim{Name: "e", Size: 1, Class: "slow"})
		putPod(c, impl.Pod{Name: "f", Claims: []string{"a", "d", "e"}})
	})
	wantWanted(t, "pending alone", c)
	podOn(&c, "p", "n2")
	wantWanted(t, "without claims", c)
	podOn(&c, "q", "n2", "a", "b", "c")
	wantWanted(t, "disks in another order than claims", c, "dx", "n2", "dy", "n2", "dz", "n2")
	podOn(&c, "r", "n2", "a", "c")
	wantWanted(t, "two of one node have the same", c, "dx", "n2", "dy", "n2", "dz", "n2")
	podOn(&c, "s", "n1", "a")
	podOn(&c, "b", "n3", "a", "b")
	wantWanted(t, "some of other nodes have the same", c, "dx", "n2", "dy", "n2", "dy", "n3", "dz", "n1", "dz", "n2", "dz", "n3")
	podOn(&c, "a", "n5", "d")
	wantWanted(t, "the last pod's is the first one", c, "dw", "n5", "dx", "n2", "dy", "n2", "dy", "n3", "dz", "n1", "dz", "n2", "dz", "n3")
	for _, name := range []string{"p", "q", "r", "f"} {
		c = impl.DropPod(c, name).Cluster
	}
	wantWanted(t, "those are gone", c, "dw", "n5", "dy", "n3", "dz", "n1", "dz", "n3")
}

// Whichever order nodes, pods and claims come in, pairs come by disk, then by node.
func TestWantedInOrder(t *testing.T) {
	six := []string{"n1", "n10", "n2", "n20", "n3", "n_"}
	for turn := range 6 {
		c := impl.Cluster{Classes: []impl.Class{{Name: "slow"}}}
		var want []string
		for at, name := range six {
			c.Nodes = append(c.Nodes, impl.Node{Name: name, Zone: "east"})
			// The disks' names go down as the claims' go up.
			putBound(&c, nameRow(6)[at], impl.Volume{Name: nameRow(6)[5-at], Size: 1, Zone: "east", Class: "slow"})
		}
		for at := range 6 {
			podOn(&c, nameRow(6)[at], six[(at*5+turn)%6], nameRow(6)[1:4]...)
		}
		for _, volume := range nameRow(6)[2:5] {
			for _, node := range six {
				want = append(want, volume, node)
			}
		}
		wantWanted(t, fmt.Sprintf("turn %d", turn), c, want...)
		wantRest(t, "no slot at all", c)
	}
}

func TestExcessOfOneDisk(t *testing.T) {
	c := attachCluster(func(c *impl.Cluster) {
		putBound(c, "a", disk("a", "east", true, "n1"))
		putPod(c, impl.Pod{Name: "p", Claims: []string{"a"}})
	})
	wantExcess(t, "its pod is pending", c, "da", "n1")
	putOn(&c, "p", "n1")
	wantExcess(t, "where it is wanted", c)
	wantRest(t, "where it is wanted", c)
	putOn(&c, "p", "n2")
	wantExcess(t, "where it is not", c, "da", "n1")
	c.Nodes[0].Mounts = []string{"da"}
	wantExcess(t, "it is mounted there", c)
	wantRest(t, "it is mounted where it is not wanted", c)
	c.Nodes[0].Until = 0
	wantExcess(t, "it is mounted there, without a lease", c)
	c.Nodes[0].Mounts = nil
	wantExcess(t, "no more", c, "da", "n1")
	c = impl.DropPod(c, "p").Cluster
	wantExcess(t, "without a pod", c, "da", "n1")
	none := wantOff(t, "without a pod", c, "da", "n1")
	wantRest(t, "it is off", none)
	wantBecomes(t, "it is off", impl.DropClaim(none, "a"), attachCluster(func(c *impl.Cluster) { c.Nodes[0].Until = 0 }))
}

// What has no claim, or had one, is wanted nowhere.
func TestExcessOfNoClaim(t *testing.T) {
	for _, spent := range []bool{false, true} {
		for _, single := range []bool{false, true} {
			c := attachCluster(func(c *impl.Cluster) {
				putVolume(c, impl.Volume{Name: "v", Size: 1, Zone: "east", Class: "keep", Single: single, Spent: spent, On: []string{"n2"}})
				podOn(c, "p", "n2")
			})
			wantWanted(t, "of no claim", c)
			wantRest(t, "of no claim, off", wantOff(t, "of no claim", c, "v", "n2"))
			c.Nodes[1].Mounts = []string{"v"}
			wantRest(t, "of no claim, mounted", c)
			kill(&c, "n2", 20)
			wantRest(t, "of no claim, mounted, in the grace", c)
			kill(&c, "n2", 19)
			wantOff(t, "of no claim, mounted, over", c, "v", "n2")
			c.Volumes[0].On = nil
			wantRest(t, "of no claim, on none", c)
		}
	}
}

func TestExcessOfManyNodes(t *testing.T) {
	c := attachCluster(func(c *impl.Cluster) {
		putBound(c, "a", disk("b", "east", false, "n1", "n2", "n3", "n4"))
		putBound(c, "b", disk("a", "east", false, "n2", "n4"))
		podOn(c, "p", "n1", "b")
		podOn(c, "q", "n2", "a")
		podOn(c, "r", "n4", "a", "b")
	})
	wantExcess(t, "some want it", c, "da", "n2", "db", "n1", "db", "n3")
	c.Nodes[0].Mounts, c.Nodes[1].Mounts = []string{"db"}, []string{"da"}
	wantExcess(t, "some have it mounted", c, "db", "n3")
	c.Nodes[1].Mounts = []string{"db"}
	wantExcess(t, "another one is mounted", c, "da", "n2", "db", "n3")
	kill(&c, "n3", 20)
	wantExcess(t, "one is dead", c, "da", "n2")
	kill(&c, "n4", 0)
	wantExcess(t, "one is dead that wants it", c, "da", "n2")
	kill(&c, "n3", 19)
	wantExcess(t, "one is over", c, "da", "n2", "db", "n3")
	kill(&c, "n1", 0)
	wantExcess(t, "one is over that has it mounted", c, "da", "n2", "db", "n1", "db", "n3")
}

// Until and Grace together one less than Now, just Now, and one more, of the living and of the dead, mounted and not.
func TestExcessOfTheDead(t *testing.T) {
	for _, now := range []int64{0, 1, 4, 5, 6, 7, 25, 999999, 1000000} {
		for _, until := range []int64{0, 1, now - 7, now - 6, now - 5, now - 4, now - 1, now, now + 1, 1000000} {
			if until < 0 || until > 1000000 {
				continue
			}
			for kind := range 16 {
				dead, mounted, wanted, bound := kind&1 > 0, kind&2 > 0, kind&4 > 0, kind&8 > 0
				c := attachCluster(func(c *impl.Cluster) {
					c.Now = now
					putBound(c, "a", disk("a", "east", true, "n2"))
					putVolume(c, disk("b", "east", false, "n2", "n3"))
					c.Nodes[1].Dead, c.Nodes[1].Until = dead, until
				})
				volume := "db"
				if bound {
					volume = "da"
				}
				if mounted {
					c.Nodes[1].Mounts = []string{volume}
				}
				if wanted {
					podOn(&c, "p", "n2", "a")
				}
				got := slices.Contains(impl.Excess(c), impl.Pair{Volume: volume, Node: "n2"})
				free := dead && until+5 < now || !dead && !mounted
				if want := free && !(wanted && bound); got != want {
					t.Errorf("Until %d, Now %d, dead %v, mounted %v, wanted %v: %s in Excess %v, want %v", until, now, dead, mounted, wanted, volume, got, want)
				}
				wantRight(t, "of a dead node", c, true)
			}
		}
	}
}

// Promise 11: what nobody wants is taken off first.
func TestOffAheadOfOn(t *testing.T) {
	c := attachCluster(func(c *impl.Cluster) {
		putBound(c, "a", disk("a", "east", false))
		putBound(c, "b", disk("b", "east", false, "n1", "n3", "n4"))
		putBound(c, "c", disk("c", "west", true, "n5"))
		putBound(c, "d", disk("d", "east", true, "n4"))
		podOn(c, "p", "n1", "a")
		podOn(c, "q", "n2", "a", "b")
		podOn(c, "r", "n3", "b", "d")
	})
	wantWanted(t, "at first", c, "da", "n1", "da", "n2", "db", "n2", "db", "n3", "dd", "n3")
	wantExcess(t, "at first", c, "db", "n1", "db", "n4", "dc", "n5", "dd", "n4")
	for _, off := range pairs("db", "n1", "db", "n4", "dc", "n5", "dd", "n4") {
		c = wantOff(t, "one by one", c, off.Volume, off.Node)
	}
	for _, on := range pairs("da", "n1", "da", "n2", "db", "n2", "dd", "n3") {
		c = wantPutOn(t, "one by one", c, on.Volume, on.Node)
	}
	wantRest(t, "all is done", c)
	c = impl.DropPod(c, "q").Cluster
	c = wantOff(t, "a pod less", c, "da", "n2")
	c = wantOff(t, "a pod less", c, "db", "n2")
	wantRest(t, "a pod less, all is done", c)
}

// A single disk waits until it is on no other node.
func TestSingleDiskWaits(t *testing.T) {
	for _, single := range []bool{true, false} {
		c := attachCluster(func(c *impl.Cluster) {
			putBound(c, "a", disk("a", "east", single, "n1"))
			podOn(c, "p", "n2", "a")
			c.Nodes[0].Mounts = []string{"da"}
		})
		if !single {
			c = wantPutOn(t, "many", c, "da", "n2")
			wantRest(t, "many, on both", c)
			continue
		}
		wantRest(t, "single, mounted elsewhere", c)
		kill(&c, "n1", 20)
		wantRest(t, "single, in the grace", c)
		c.Now = 26
		c = wantOff(t, "single, over", c, "da", "n1")
		c = wantPutOn(t, "single, off", c, "da", "n2")
		wantRest(t, "single, on", c)
		if !slices.Equal(c.Nodes[0].Mounts, []string{"da"}) {
			t.Errorf("the mounts of a dead node: got %q, want da", c.Nodes[0].Mounts)
		}
	}
}

// A node with a slot less than it would need, with just enough, and with none.
func TestSlots(t *testing.T) {
	for slots := int64(0); slots <= 8; slots++ {
		c := attachCluster(func(c *impl.Cluster) {
			for _, name := range nameRow(7) {
				putBound(c, name, impl.Volume{Name: name, Size: 1, Zone: "east", Class: "slow", Single: true})
			}
			for at := range 3 {
				podOn(c, nameRow(3)[at], "n1", nameRow(7)[2*at:2*at+3]...)
			}
			c.Nodes[0].Slots = slots
			// What is mounted on a dead one takes no slot.
			kill(c, "n2", 0)
			c.Nodes[1].Mounts = nameRow(7)
		})
		for _, name := range nameRow(7)[:min(slots, 7)] {
			c = wantPutOn(t, fmt.Sprintf("%d slots", slots), c, name, "n1")
		}
		wantRest(t, fmt.Sprintf("%d slots", slots), c)
	}
	c := attachCluster(func(c *impl.Cluster) {
		putBound(c, "a", disk("a", "east", true))
		putVolume(c, disk("b", "east", true, "n1"))
		podOn(c, "p", "n1", "a")
		c.Nodes[0].Slots, c.Nodes[0].Mounts = 1, []string{"db"}
	})
	wantRest(t, "the slot is taken", c)
	c.Nodes[0].Mounts = nil
	c = wantOff(t, "the slot can be had", c, "db", "n1")
	c = wantPutOn(t, "the slot is free", c, "da", "n1")
	wantRest(t, "the slot is taken again", c)
}

// A wanted pair that can't be put on keeps none behind it.
func TestNextThatCan(t *testing.T) {
	c := attachCluster(func(c *impl.Cluster) {
		putBound(c, "a", disk("a", "east", true, "n2"))
		putBound(c, "b", disk("b", "east", false))
		putBound(c, "c", disk("c", "east", false))
		podOn(c, "p", "n1", "a", "b")
		podOn(c, "q", "n3", "b", "c")
		podOn(c, "r", "n4", "b")
		c.Nodes[1].Mounts = []string{"da"}
	})
	c.Nodes[0].Slots, c.Nodes[2].Slots = 0, 1
	wantWanted(t, "at first", c, "da", "n1", "db", "n1", "db", "n3", "db", "n4", "dc", "n3")
	c = wantPutOn(t, "a single one elsewhere, a node without slots", c, "db", "n3")
	c = wantPutOn(t, "behind these", c, "db", "n4")
	wantRest(t, "no slot for the last one", c)
	c.Nodes[2].Slots = 2
	c = wantPutOn(t, "a slot for the last one", c, "dc", "n3")
	c.Nodes[0].Slots = 2
	c = wantPutOn(t, "a slot for the first ones", c, "db", "n1")
	wantRest(t, "all but the single one", c)
	c.Nodes[1].Mounts = nil
	c = wantOff(t, "the single one is off", c, "da", "n2")
	c = wantPutOn(t, "the single one", c, "da", "n1")
	wantRest(t, "all", c)
}

// The dead get their disks, too, as long as their pods are theirs: no word rules that out.
func TestDeadNodesDisks(t *testing.T) {
	for _, until := range []int64{0, 19, 20, 25, 30} {
		c := attachCluster(func(c *impl.Cluster) {
			putBound(c, "a", disk("a", "east", true))
			podOn(c, "p", "n2", "a")
			kill(c, "n2", until)
		})
		c = wantPutOn(t, "of a dead node", c, "da", "n2")
		wantRest(t, "of a dead node", c)
		if until+5 < c.Now {
			c = wantOff(t, "its pod is taken from it", impl.Evict(c, "p").Cluster, "da", "n2")
			wantRest(t, "its pod is taken from it", c)
		}
	}
}

// Put on or taken off, whatever it is on already: On is in its order, and no other disk is touched.
func TestOnInItsOrder(t *testing.T) {
	six := nameRow(6)
	for has := range 64 {
		for at, node := range six {
			c := impl.Cluster{Classes: []impl.Class{{Name: "slow"}}}
			v := impl.Volume{Name: "v", Size: 1, Zone: "east", Class: "slow"}
			for n, name := range six {
				c.Nodes = append(c.Nodes, impl.Node{Name: name, Zone: "east", Slots: 3})
				if has>>n&1 > 0 {
					v.On = append(v.On, name)
				}
			}
			putBound(&c, "a", v)
			putBound(&c, "b", impl.Volume{Name: "u", Size: 1, Zone: "east", Class: "slow", On: slices.Clone(six)})
			putBound(&c, "c", impl.Volume{Name: "w", Size: 1, Zone: "east", Class: "slow", Single: true})
			for n, name := range six {
				claims := []string{"a", "b"}
				// It is wanted where it is, and on the one node more, or all but that one.
				if (has>>n&1 > 0) == (n == at) {
					claims = []string{"b"}
				}
				podOn(&c, name, name, claims...)
			}
			if has>>at&1 > 0 {
				wantRest(t, "taken off", wantOff(t, "taken off", c, "v", node))
			} else {
				wantRest(t, "put on", wantPutOn(t, "put on", c, "v", node))
			}
		}
	}
}

// From the desk's nodes to a disk on one, off it again, and on another.
func TestDiskGoesAbout(t *testing.T) {
	c := impl.AddPod(impl.AddClaim(impl.DeskCluster(), impl.Claim{Name: "c1", Size: 5, Class: "slow", Single: true}).Cluster, impl.Pod{Name: "p1", Cpu: 500, Claims: []string{"c1"}}).Cluster
	c = impl.AgentStep(impl.AgentStep(c, "n1").Cluster, "n2").Cluster
	wantRest(t, "not placed", c)
	c = impl.PlacePod(c, "p1").Cluster
	wantWanted(t, "placed", c, "v_c1", "n1")
	c = wantPutOn(t, "placed", c, "v_c1", "n1")
	wantRest(t, "put on", c)
	c = impl.AgentStep(c, "n1").Cluster
	if got := c.Pods[0].Phase; got != impl.PhRunning {
		t.Errorf("with its disk: got phase %d, want it running", got)
	}
	wantWanted(t, "running", c, "v_c1", "n1")
	c = impl.Tick(impl.Kill(c, "n1").Cluster, 15).Cluster
	wantRest(t, "dead, in the grace", c)
	wantRefused(t, "dead, in the grace", impl.Evict(c, "p1"), impl.ErrWait)
	c = impl.Tick(c, 1).Cluster
	wantRest(t, "over, still of the dead", c)
	c = wantOff(t, "over", impl.Evict(c, "p1").Cluster, "v_c1", "n1")
	wantRest(t, "off", c)
	c = impl.PlacePod(impl.AgentStep(c, "n2").Cluster, "p1").Cluster
	c = wantPutOn(t, "elsewhere", c, "v_c1", "n2")
	wantRest(t, "elsewhere", c)
}
