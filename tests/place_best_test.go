package tests

import (
	"fmt"
	"testing"

	"loop.example/g00571/impl"
)

// Promise 9: over all that three nodes may be like, the one that fits of the most room, of these the first.
func TestBestOfNodes(t *testing.T) {
	fits := func(*impl.Cluster, int) {}
	states := []func(*impl.Cluster, int){
		fits,
		func(c *impl.Cluster, at int) { c.Nodes[at].Dead = true },
		func(c *impl.Cluster, at int) { c.Nodes[at].Until = c.Now },
		func(c *impl.Cluster, at int) { c.Nodes[at].Zone = "south" },
	}
	for kinds := range 16 * 16 * 16 {
		c := changedTo(placeCluster(), func(c *impl.Cluster) { c.Nodes[2].Zone, c.Pods[0].Zone = "east", "east" })
		best, most := "", int64(-1)
		for at, kind := range []int{kinds % 16, kinds / 16 % 16, kinds / 256} {
			room := int64(kind%4)*100 + 50
			// The more there is, the less of it is left: it is what is left that counts.
			c.Nodes[at].Cpu = 900 - room
			putPod(&c, impl.Pod{Name: "q" + c.Nodes[at].Name, Cpu: 900 - 2*room, Node: c.Nodes[at].Name, Phase: impl.PhPlaced})
			states[kind/4](&c, at)
			if kind/4 == 0 && room >= 100 && room > most {
				best, most = c.Nodes[at].Name, room
			}
		}
		what := fmt.Sprintf("nodes of kinds %d", kinds)
		if best == "" {
			wantNotPlaced(t, what, c, "p", impl.ErrWait)
			continue
		}
		wantPlacedOn(t, what, c, "p", best, nothingMore)
	}
}

func TestBestNodeEdges(t *testing.T) {
	c := placeCluster()
	wantPlacedOn(t, "the most room", c, "p", "n1", nothingMore)
	c.Nodes[1].Cpu = 1000
	wantPlacedOn(t, "the first of two alike", c, "p", "n1", nothingMore)
	c.Nodes[2].Cpu = 1000
	wantPlacedOn(t, "the first of three alike", c, "p", "n1", nothingMore)
	c.Nodes[0].Cpu = 999
	wantPlacedOn(t, "the first of the last two", c, "p", "n2", nothingMore)
	c.Nodes[1].Cpu = 999
	wantPlacedOn(t, "the last one", c, "p", "n3", nothingMore)
	c.Nodes[2].Until = c.Now
	wantPlacedOn(t, "the last one can't", c, "p", "n1", nothingMore)
	c.Nodes[0].Dead = true
	wantPlacedOn(t, "one that can", c, "p", "n2", nothingMore)
	c.Nodes[1].Cpu = 99
	wantNotPlaced(t, "none that can", c, "p", impl.ErrWait)
	c.Pods[0].Cpu = 0
	wantPlacedOn(t, "it needs nothing", c, "p", "n2", nothingMore)
	c.Nodes = nil
	wantNotPlaced(t, "no node", c, "p", impl.ErrWait)
	wantNotPlaced(t, "no node, no such pod", c, "q", impl.ErrNone)
	six := impl.Cluster{Pods: []impl.Pod{{Name: "p", Cpu: 5}}}
	for at, name := range nameRow(6) {
		six.Nodes = append(six.Nodes, impl.Node{Name: name, Zone: "east", Cpu: int64(at), Until: 1})
	}
	wantPlacedOn(t, "the last of six", six, "p", nameRow(6)[5], nothingMore)
	six.Pods[0].Cpu = 6
	wantNotPlaced(t, "none of six", six, "p", impl.ErrWait)
}

// Whatever the reason of each node is, ErrWait is told if none fits.
func TestNoNodeFits(t *testing.T) {
	for _, x := range nodeFaults()[4:] {
		c := placeCluster()
		c.Nodes = c.Nodes[:1]
		x.change(&c)
		if len(c.Nodes) > 1 {
			c.Nodes[1].Dead = true
		}
		wantNotPlaced(t, x.what, c, "p", impl.ErrWait)
	}
	for _, x := range boundKinds() {
		c := claiming([]string{"a"}, func(c *impl.Cluster) {
			x.put(c, "a")
			c.Nodes[1].Until, c.Nodes[2].Until = 0, 0
		})
		if x.code == impl.OK {
			wantPlacedOn(t, x.what, c, "p", "n1", nothingMore)
		} else {
			wantNotPlaced(t, x.what, c, "p", impl.ErrWait)
		}
	}
}

// A claim that is bound by itself keeps the pod from all nodes, whichever comes first.
func TestPlacedBehindItsClaims(t *testing.T) {
	c := claiming([]string{"a", "b"}, func(c *impl.Cluster) {
		putBound(c, "a", disk("a", "east", true))
		putClaim(c, impl.Claim{Name: "b", Size: 5, Class: "fast"})
	})
	for _, order := range [][3]int64{{3, 2, 1}, {1, 2, 3}, {2, 3, 1}, {2, 1, 3}, {2, 2, 2}} {
		for at := range c.Nodes {
			c.Nodes[at].Cpu = order[at] * 100
		}
		wantNotPlaced(t, "it is not bound", c, "p", impl.ErrWait)
		bound := impl.BindClaim(c, "b").Cluster
		best := "n1"
		if order[1] > order[0] {
			best = "n2"
		}
		wantPlacedOn(t, "it is bound", bound, "p", best, nothingMore)
	}
	// Of a disk in the west there is one node alone.
	west := claiming([]string{"a"}, func(c *impl.Cluster) { putBound(c, "a", disk("a", "west", true)) })
	wantPlacedOn(t, "its disk is in the west", west, "p", "n3", nothingMore)
}

// A pod that has a node is not placed anew.
func TestPlacedAgain(t *testing.T) {
	for _, phase := range []int64{impl.PhPlaced, impl.PhRunning} {
		for _, until := range []int64{0, 25, 26, 1000000} {
			c := placeCluster()
			c.Pods[0].Node, c.Pods[0].Phase, c.Nodes[0].Until = "n2", phase, until
			wantNotPlaced(t, "it has a node", c, "p", impl.ErrState)
			for _, n := range c.Nodes {
				wantFits(t, "it has a node", c, "p", n.Name, impl.ErrState)
			}
			c.Nodes = c.Nodes[1:2]
			c.Nodes[0].Until = until
			wantNotPlaced(t, "it has the only node", c, "p", impl.ErrState)
		}
	}
	once := impl.PlacePod(placeCluster(), "p").Cluster
	wantNotPlaced(t, "it was placed", once, "p", impl.ErrState)
}

// What is placed takes room: the next ones go elsewhere, until there is none.
func TestPlacedOneByOne(t *testing.T) {
	c := placeCluster()
	c.Pods = filled(nameRow(8), func(name string) impl.Pod { return impl.Pod{Name: name, Cpu: 400} })
	for at, node := range []string{"n1", "n2", "n3", "n1", "n2", "n3"} {
		wantPlacedOn(t, "one by one", c, nameRow(8)[at], node, nothingMore)
		c = impl.PlacePod(c, nameRow(8)[at]).Cluster
	}
	wantFreeCpu(t, "two each", c, "n1", 200)
	wantNotPlaced(t, "no room left", c, nameRow(8)[6], impl.ErrWait)
	c = impl.DropPod(c, nameRow(8)[2]).Cluster
	wantPlacedOn(t, "room again", c, nameRow(8)[6], "n3", nothingMore)
}

// Two pods of one claim: to a disk that one may write, they come to one node; else wherever there is room.
func TestPlacedTogether(t *testing.T) {
	for _, single := range []bool{false, true} {
		x := impl.Claim{Name: "a", Size: 5, Class: "slow", Single: single}
		c := claiming([]string{"a"}, func(c *impl.Cluster) {
			putClaim(c, x)
			putPod(c, impl.Pod{Name: "q", Cpu: 200, Claims: []string{"a"}})
		})
		wantPlacedOn(t, "the first", c, "p", "n1", func(c *impl.Cluster) { tieIn(c, x, "v_a", "east") })
		c = impl.PlacePod(c, "p").Cluster
		c.Nodes[0].Cpu = 800
		wantDisks(t, "the first", c, "n1", "v_a")
		if !single {
			wantPlacedOn(t, "the second", c, "q", "n2", nothingMore)
			continue
		}
		wantFits(t, "the second", c, "q", "n2", impl.ErrState)
		wantPlacedOn(t, "the second", c, "q", "n1", nothingMore)
		c.Nodes[0].Cpu = 299
		wantFits(t, "no room for the second", c, "q", "n1", impl.ErrFull)
		wantNotPlaced(t, "no room for the second", c, "q", impl.ErrWait)
	}
}

// deadCluster: a right cluster in which p, q and r are on n1, which is dead, and s is running on n2.
func deadCluster(now int64, until int64) impl.Cluster {
	c := claiming([]string{"a"}, func(c *impl.Cluster) {
		withUser(c, "a", disk("a", "east", true, "n1"), "n1")
		putBound(c, "b", disk("b", "east", false, "n1", "n2"))
		putPod(c, impl.Pod{Name: "q", Zone: "east", Claims: []string{"a", "b"}, Node: "n1", Phase: impl.PhPlaced})
		putPod(c, impl.Pod{Name: "r", Cpu: 300, Node: "n1", Phase: impl.PhPlaced})
		putPod(c, impl.Pod{Name: "s", Cpu: 300, Claims: []string{"b"}, Node: "n2", Phase: impl.PhRunning})
		putPod(c, impl.Pod{Name: "t", Cpu: 300, Claims: []string{"b"}})
		putOn(c, "p", "n1")
		c.Nodes[0].Mounts, c.Nodes[1].Mounts = []string{"da", "db"}, []string{"db"}
	})
	c.Now, c.Nodes[0].Until, c.Nodes[0].Dead = now, until, true
	return c
}

// Promise 10: a pod is taken from its node just when that is dead, and its lease and the grace are over.
func TestEvict(t *testing.T) {
	if impl.Grace != 5 {
		t.Errorf("Grace: got %d, want 5", impl.Grace)
	}
	for _, now := range []int64{0, 1, 4, 5, 6, 7, 25, 999999, 1000000} {
		for _, until := range []int64{0, 1, now - 7, now - 6, now - 5, now - 4, now - 1, now, now + 1, 1000000} {
			if until < 0 || until > 1000000 {
				continue
			}
			what := fmt.Sprintf("Until %d, Now %d", until, now)
			dead := deadCluster(now, until)
			alive := changedTo(dead, func(c *impl.Cluster) { c.Nodes[0].Dead = false })
			for _, pod := range []string{"p", "q", "r"} {
				if until+5 < now {
					wantEvicted(t, what, dead, pod)
				} else {
					wantNotEvicted(t, what, dead, pod, impl.ErrWait)
				}
				wantNotEvicted(t, what+", not dead", alive, pod, impl.ErrWait)
				thePod(&alive, pod).Phase = impl.PhRunning
				wantNotEvicted(t, what+", running", alive, pod, impl.ErrWait)
			}
			for _, c := range []impl.Cluster{dead, alive} {
				wantNotEvicted(t, what+", another node", c, "s", impl.ErrWait)
				wantNotEvicted(t, what+", without node", c, "t", impl.ErrState)
				wantNotEvicted(t, what+", no such pod", c, "w", impl.ErrNone)
				wantNotEvicted(t, what+", a node", c, "n1", impl.ErrNone)
			}
		}
	}
}

// It is the pod's own node that counts.
func TestEvictFromItsNode(t *testing.T) {
	for at := range 3 {
		for dead := range 3 {
			for stale := range 3 {
				c := changedTo(placeCluster(), func(c *impl.Cluster) {
					putOn(c, "p", c.Nodes[at].Name)
					c.Nodes[dead].Dead, c.Nodes[stale].Until = true, 19
				})
				if at == dead && at == stale {
					wantEvicted(t, "its own", c, "p")
				} else {
					wantNotEvicted(t, "others", c, "p", impl.ErrWait)
				}
			}
		}
	}
}

// What was taken from its node may be placed elsewhere, as soon as its disk is.
func TestEvictedAndPlaced(t *testing.T) {
	c := deadCluster(25, 19)
	for _, pod := range []string{"p", "q", "r", "ua"} {
		wantEvicted(t, "one by one", c, pod)
		c = impl.Evict(c, pod).Cluster
		wantNotEvicted(t, "again", c, pod, impl.ErrState)
	}
	wantFreeCpu(t, "all gone", c, "n1", 1000)
	wantDisks(t, "still on it", c, "n1", "da", "db")
	wantFits(t, "its disk is still elsewhere", c, "p", "n2", impl.ErrState)
	wantNotPlaced(t, "its disk is still elsewhere", c, "p", impl.ErrWait)
	wantPlacedOn(t, "without disks", c, "r", "n3", nothingMore)
	c.Volumes[0].On = nil
	wantPlacedOn(t, "its disk was taken off", c, "p", "n2", nothingMore)
}
