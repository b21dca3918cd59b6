package tests

import (
	"fmt"
	"slices"
	"strings"
	"testing"

	"loop.example/g00571/impl"
)

// placeCluster: a right cluster in which the pod p, without claims, fits on each node, and best on n1.
func placeCluster() impl.Cluster {
	return impl.Cluster{
		Nodes: []impl.Node{
			{Name: "n1", Zone: "east", Cpu: 1000, Slots: 8, Until: 26},
			{Name: "n2", Zone: "east", Cpu: 900, Slots: 8, Until: 26},
			{Name: "n3", Zone: "west", Cpu: 800, Slots: 8, Until: 26},
		},
		Classes: []impl.Class{
			{Name: "far", Wait: true, Zone: "west"},
			{Name: "fast", Zone: "east"},
			{Name: "slim", Wait: true},
			{Name: "slow", Wait: true},
			{Name: "soon", Wait: true},
		},
		Pods: []impl.Pod{{Name: "p", Cpu: 100}},
		Now:  25,
	}
}

func putVolume(c *impl.Cluster, v impl.Volume) {
	c.Volumes = sorted(append(c.Volumes, v), volumeName)
}

func putClaim(c *impl.Cluster, x impl.Claim) {
	c.Claims = sorted(append(c.Claims, x), claimName)
}

func putPod(c *impl.Cluster, p impl.Pod) {
	c.Pods = sorted(append(c.Pods, p), podName)
}

// putBound: one more claim, bound to that disk, which is one more, too.
func putBound(c *impl.Cluster, name string, v impl.Volume) {
	v.Claim = name
	putVolume(c, v)
	putClaim(c, impl.Claim{Name: name, Size: v.Size, Class: v.Class, Single: v.Single, Volume: v.Name})
}

// thePod: the pod of that name, to be changed.
func thePod(c *impl.Cluster, name string) *impl.Pod {
	return &c.Pods[slices.Index(namesOf(c.Pods, podName), name)]
}

// putOn: that pod is placed on that node.
func putOn(c *impl.Cluster, pod string, node string) {
	thePod(c, pod).Node, thePod(c, pod).Phase = node, impl.PhPlaced
}

// claiming: placeCluster, so changed, in which p has these claims.
func claiming(names []string, change func(*impl.Cluster)) impl.Cluster {
	c := placeCluster()
	change(&c)
	thePod(&c, "p").Claims = names
	return c
}

// wantFits: in the cluster, which is right, this code.
func wantFits(t *testing.T, what string, c impl.Cluster, pod string, node string, code int64) {
	t.Helper()
	wantRight(t, what, c, true)
	wantFitCode(t, what, c, pod, node, code)
}

func wantFitCode(t *testing.T, what string, c impl.Cluster, pod string, node string, code int64) {
	t.Helper()
	if got := impl.Fits(c, pod, node); got != code {
		t.Errorf("%s: Fits %.24q %.24q: got %d, want %d: %s", what, pod, node, got, code, shown(c))
	}
}

func wantFreeCpu(t *testing.T, what string, c impl.Cluster, node string, want int64) {
	t.Helper()
	if got := impl.FreeCpu(c, node); got != want {
		t.Errorf("%s: FreeCpu %.24q: got %d, want %d", what, node, got, want)
	}
}

func wantDisks(t *testing.T, what string, c impl.Cluster, node string, want ...string) {
	t.Helper()
	if got := impl.DisksOf(c, node); !slices.Equal(got, want) {
		t.Errorf("%s: DisksOf %.24q: got %q, want %q", what, node, got, want)
	}
}

// wantPlacedOn: the node is the best one for the pod; with that pod on it, and bound what is to be bound, nothing else is changed.
func wantPlacedOn(t *testing.T, what string, c impl.Cluster, pod string, node string, bind func(*impl.Cluster)) {
	t.Helper()
	wantRight(t, what, c, true)
	wantNamed(t, what+": BestNode", impl.BestNode(c, pod), c, node)
	then := changedTo(c, func(c *impl.Cluster) {
		bind(c)
		putOn(c, pod, node)
	})
	wantNamed(t, what+": PlacePod", impl.PlacePod(c, pod), then, node)
}

// nothingMore: no claim is to be bound.
func nothingMore(*impl.Cluster) {}

// wantNotPlaced: the pod goes nowhere, for this reason, in a right cluster.
func wantNotPlaced(t *testing.T, what string, c impl.Cluster, pod string, code int64) {
	t.Helper()
	wantRight(t, what, c, true)
	wantRefused(t, what+": BestNode", impl.BestNode(c, pod), code)
	wantRefused(t, what+": PlacePod", impl.PlacePod(c, pod), code)
}

func wantNotEvicted(t *testing.T, what string, c impl.Cluster, pod string, code int64) {
	t.Helper()
	wantRight(t, what, c, true)
	wantRefused(t, what+": Evict", impl.Evict(c, pod), code)
}

// wantEvicted: the pod is taken from its node, and nothing else is changed.
func wantEvicted(t *testing.T, what string, c impl.Cluster, pod string) {
	t.Helper()
	wantRight(t, what, c, true)
	wantBecomes(t, what+": Evict", impl.Evict(c, pod), changedTo(c, func(c *impl.Cluster) {
		thePod(c, pod).Node, thePod(c, pod).Phase = "", impl.PhPending
	}))
}

// strangers: names of no pod and no node of the clusters of these tests, all of them short enough to be handed in.
func strangers() []string {
	return []string{"", "b", "n", "n0", "n10", "n11", "n9", "p0", "p10", "p9", "zz", "N1", "n1 ", " n1", "n1\n", "P", "p ", "_", "-", "\x00", "\xff",
		"east", "fast", "slow", "v1", "c1", longName, longName + "a", strings.Repeat("n", impl.MaxBytes), strings.Repeat("p", impl.MaxBytes)}
}

// overlongs: texts of more bytes than any call takes.
func overlongs() []string {
	return []string{overlong(), strings.Repeat(" ", impl.MaxBytes+1), strings.Repeat("n", 100000)}
}

// placingClusters: right clusters of many kinds.
func placingClusters() []impl.Cluster {
	return []impl.Cluster{{}, impl.DeskCluster(), workCluster(), restCluster(), alikeCluster(), bindCluster(), placeCluster()}
}

func TestFreeCpu(t *testing.T) {
	c := workCluster()
	wantFreeCpu(t, "two pods", c, "n1", 0)
	wantFreeCpu(t, "one pod of all of it", c, "n2", 0)
	wantFreeCpu(t, "a dead one", c, "n3", 500)
	wantFreeCpu(t, "no such node", c, "n4", -1)
	wantFreeCpu(t, "without pods", impl.DeskCluster(), "n2", 1500)
	wantFreeCpu(t, "without any of it", alikeCluster(), "a", 0)
	wantFreeCpu(t, "one that is running", bindCluster(), "n1", 900)
	wantFreeCpu(t, "one without", bindCluster(), "n2", 1000)
	most := changedTo(placeCluster(), func(c *impl.Cluster) { c.Nodes[0].Cpu, c.Nodes[1].Cpu = 1000000, 0 })
	wantFreeCpu(t, "as much as may be", most, "n1", 1000000)
	wantFreeCpu(t, "none", most, "n2", 0)
	for at, name := range nameRow(8) {
		putPod(&c, impl.Pod{Name: name, Cpu: 1, Node: "n3", Phase: impl.PhPlaced})
		if at < 3 {
			wantFreeCpu(t, "one pod more", c, "n3", 499-int64(at))
			continue
		}
		wantFreeCpu(t, "too many pods", c, "n3", -1)
	}
}

func TestDisksOf(t *testing.T) {
	c := workCluster()
	wantDisks(t, "On, and its pods'", c, "n1", "v1", "v2")
	wantDisks(t, "one of two", c, "n2", "v2")
	wantDisks(t, "its pod's, On none", c, "n3", "v3")
	wantDisks(t, "no such node", c, "n4")
	wantDisks(t, "nothing at all", impl.Cluster{}, "n1")
	wantDisks(t, "without pods and disks", impl.DeskCluster(), "n1")
	wantDisks(t, "all of one name", alikeCluster(), "a", "a")
	c = claiming([]string{"x"}, func(c *impl.Cluster) {
		putVolume(c, impl.Volume{Name: "w", Size: 1, Zone: "east", Class: "slow", On: []string{"n1", "n2"}})
		putBound(c, "x", impl.Volume{Name: "m", Size: 1, Zone: "east", Class: "slow"})
		putBound(c, "y", impl.Volume{Name: "a", Size: 1, Zone: "east", Class: "slow", On: []string{"n1"}})
		putBound(c, "z", impl.Volume{Name: "k", Size: 1, Zone: "west", Class: "slow"})
		putClaim(c, impl.Claim{Name: "u", Size: 1, Class: "slow"})
		putPod(c, impl.Pod{Name: "q", Claims: []string{"u", "x"}})
		putPod(c, impl.Pod{Name: "r", Claims: []string{"y", "z"}})
	})
	wantRight(t, "not placed", c, true)
	wantDisks(t, "On alone, of pods that are not placed", c, "n1", "a", "w")
	wantDisks(t, "On alone", c, "n2", "w")
	wantDisks(t, "none", c, "n3")
	wantDisks(t, "pods without a node have no disks there", c, "")
	thePod(&c, "r").Claims = []string{"y"}
	putOn(&c, "p", "n1")
	putOn(&c, "r", "n1")
	wantRight(t, "placed", c, true)
	wantDisks(t, "one that is both, one of a pod, one On it", c, "n1", "a", "m", "w")
	wantDisks(t, "as it was", c, "n2", "w")
	putOn(&c, "r", "n2")
	wantDisks(t, "of a pod of another node", c, "n2", "a", "w")
	wantDisks(t, "still On it", c, "n1", "a", "m", "w")
	thePod(&c, "q").Claims = []string{"x", "y"}
	putOn(&c, "q", "n1")
	wantRight(t, "one claim of two pods", c, true)
	wantDisks(t, "one claim of two pods", c, "n1", "a", "m", "w")
	wantDisks(t, "all eight", claiming(nil, func(c *impl.Cluster) {
		for _, name := range nameRow(8) {
			putVolume(c, impl.Volume{Name: name, Size: 1, Zone: "east", Class: "slow", Single: true, On: []string{"n1"}})
		}
	}), "n1", nameRow(8)...)
}

// Names of nothing, too long a text ahead of all else, and a cluster that is not right ahead of the rest.
func TestPlacingOfNoSuchNames(t *testing.T) {
	for _, c := range placingClusters() {
		for _, name := range strangers() {
			wantFreeCpu(t, "no such node", c, name, -1)
			wantDisks(t, "no such node", c, name)
			wantNotPlaced(t, "no such pod", c, name, impl.ErrNone)
			wantNotEvicted(t, "no such pod", c, name, impl.ErrNone)
			for _, other := range []string{"", "a", "n1", "n2", "p", "p1", "p2"} {
				wantFits(t, "no such node", c, other, name, impl.ErrNone)
				wantFits(t, "no such pod", c, name, other, impl.ErrNone)
			}
		}
		for _, name := range overlongs() {
			wantFreeCpu(t, "too long a text", c, name, 0)
			wantDisks(t, "too long a text", c, name)
			wantNotPlaced(t, "too long a text", c, name, impl.ErrSize)
			wantNotEvicted(t, "too long a text", c, name, impl.ErrSize)
			for _, other := range []string{"", "a", "n1", "p", "p1", name} {
				wantFits(t, "too long a node", c, other, name, impl.ErrSize)
				wantFits(t, "too long a pod", c, name, other, impl.ErrSize)
			}
		}
	}
	for _, c := range wrongClusters() {
		for _, name := range append(strangers(), "n1", "n2", "p1", "p2", "p3", "p") {
			wantFreeCpu(t, "a wrong cluster", c, name, -1)
			wantDisks(t, "a wrong cluster", c, name)
			wantFitCode(t, "a wrong cluster", c, "p1", name, impl.ErrForm)
			wantFitCode(t, "a wrong cluster", c, name, "n1", impl.ErrForm)
			wantRefused(t, "BestNode in a wrong cluster", impl.BestNode(c, name), impl.ErrForm)
			wantRefused(t, "PlacePod in a wrong cluster", impl.PlacePod(c, name), impl.ErrForm)
			wantRefused(t, "Evict in a wrong cluster", impl.Evict(c, name), impl.ErrForm)
		}
		for _, name := range overlongs() {
			wantFreeCpu(t, "too long a text, a wrong cluster", c, name, 0)
			wantDisks(t, "too long a text, a wrong cluster", c, name)
			wantFitCode(t, "too long a node, a wrong cluster", c, "p1", name, impl.ErrSize)
			wantFitCode(t, "too long a pod, a wrong cluster", c, name, "n1", impl.ErrSize)
			wantRefused(t, "BestNode of too long a text", impl.BestNode(c, name), impl.ErrSize)
			wantRefused(t, "PlacePod of too long a text", impl.PlacePod(c, name), impl.ErrSize)
			wantRefused(t, "Evict of too long a text", impl.Evict(c, name), impl.ErrSize)
		}
	}
}

// One kind's name is not the other's.
func TestPlacingOfOtherKinds(t *testing.T) {
	c := placeCluster()
	wantFits(t, "crosswise", c, "n1", "p", impl.ErrNone)
	wantFits(t, "a pod as its node", c, "p", "p", impl.ErrNone)
	wantFits(t, "a node as its pod", c, "n1", "n1", impl.ErrNone)
	wantFreeCpu(t, "a pod", c, "p", -1)
	wantNotPlaced(t, "a node", c, "n1", impl.ErrNone)
	wantNotEvicted(t, "a node", c, "n1", impl.ErrNone)
	alike := changedTo(alikeCluster(), func(c *impl.Cluster) {
		c.Pods[0].Node, c.Pods[0].Phase, c.Nodes[0].Until = "", impl.PhPending, 1
	})
	wantFits(t, "all of one name", alike, "a", "a", impl.OK)
	wantPlacedOn(t, "all of one name", alike, "a", "a", nothingMore)
}

// fault is a change of placeCluster after which p does not fit on n1, for this reason.
type fault struct {
	what   string
	code   int64
	change func(*impl.Cluster)
}

// nodeFaults: one for each reason that has to do with no claim, in the order in which the document names them.
func nodeFaults() []fault {
	return []fault{
		{"no such pod", impl.ErrNone, func(c *impl.Cluster) { thePod(c, "p").Name = "q" }},
		{"no such node", impl.ErrNone, func(c *impl.Cluster) { c.Nodes = c.Nodes[1:] }},
		{"it is placed", impl.ErrState, func(c *impl.Cluster) { c.Pods[0].Node, c.Pods[0].Phase = "n2", impl.PhPlaced }},
		{"it is running", impl.ErrState, func(c *impl.Cluster) { c.Pods[0].Node, c.Pods[0].Phase = "n2", impl.PhRunning }},
		{"the node is dead", impl.ErrWait, func(c *impl.Cluster) { c.Nodes[0].Dead = true }},
		{"its lease is just over", impl.ErrWait, func(c *impl.Cluster) { c.Nodes[0].Until = c.Now }},
		{"its lease was over before", impl.ErrWait, func(c *impl.Cluster) { c.Nodes[0].Until = c.Now - 1 }},
		{"it never had one", impl.ErrWait, func(c *impl.Cluster) { c.Nodes[0].Until = 0 }},
		{"another zone", impl.ErrRange, func(c *impl.Cluster) { c.Nodes[0].Zone, c.Pods[0].Zone = "eas", "east" }},
		{"too little is left", impl.ErrFull, func(c *impl.Cluster) { c.Nodes[0].Cpu, c.Pods[0].Cpu = 99, 100 }},
		{"its disk is in another zone", impl.ErrRange, func(c *impl.Cluster) {
			putBound(c, "a", impl.Volume{Name: "a", Size: 1, Zone: "nowhere", Class: "slow"})
			c.Pods[0].Claims = append(c.Pods[0].Claims, "a")
		}},
		{"its disk is another one's", impl.ErrState, func(c *impl.Cluster) {
			putBound(c, "b", impl.Volume{Name: "b", Size: 1, Zone: c.Nodes[0].Zone, Class: "slow", Single: true})
			c.Pods[0].Claims = append(c.Pods[0].Claims, "b")
			c.Nodes = append(c.Nodes, impl.Node{Name: "n4", Zone: c.Nodes[0].Zone})
			putPod(c, impl.Pod{Name: "z", Claims: []string{"b"}, Node: "n4", Phase: impl.PhPlaced})
		}},
		{"its claim is bound by itself", impl.ErrWait, func(c *impl.Cluster) {
			putClaim(c, impl.Claim{Name: "c", Size: 1, Class: "fast"})
			c.Pods[0].Claims = append(c.Pods[0].Claims, "c")
		}},
		{"its disk can't be made", impl.ErrNone, func(c *impl.Cluster) {
			putClaim(c, impl.Claim{Name: "d", Size: 1, Class: "far"})
			c.Pods[0].Claims = append(c.Pods[0].Claims, "d")
		}},
		{"too few slots", impl.ErrFull, func(c *impl.Cluster) {
			c.Nodes[0].Slots = 0
			putBound(c, "e", impl.Volume{Name: "e", Size: 1, Zone: c.Nodes[0].Zone, Class: "slow"})
			c.Pods[0].Claims = append(c.Pods[0].Claims, "e")
		}},
	}
}

// Each code alone, and of two faults the one that is named first.
func TestFirstFaultOfFits(t *testing.T) {
	wantFits(t, "nothing speaks against it", placeCluster(), "p", "n1", impl.OK)
	faults := nodeFaults()
	both := 0
	for at, first := range faults {
		c := changedTo(placeCluster(), first.change)
		wantFits(t, first.what, c, "p", "n1", first.code)
		wantNotBest(t, first.what, c)
		for _, second := range faults[at+1:] {
			c := changedTo(placeCluster(), func(c *impl.Cluster) {
				first.change(c)
				second.change(c)
			})
			// A pod that is placed has no claims that are not bound, and no disks elsewhere.
			if broken(c) != "" {
				continue
			}
			both++
			wantFits(t, first.what+", and "+second.what, c, "p", "n1", first.code)
			wantNotBest(t, first.what+", and "+second.what, c)
		}
	}
	if both < 80 {
		t.Errorf("%d pairs of faults can be: this tells too little of their order", both)
	}
}

// wantNotBest: p goes anywhere but to n1.
func wantNotBest(t *testing.T, what string, c impl.Cluster) {
	t.Helper()
	best, put := impl.BestNode(c, "p"), impl.PlacePod(c, "p")
	if best.Name == "n1" || put.Name == "n1" || best.Code != put.Code {
		t.Errorf("%s: BestNode %q, code %d, PlacePod %q, code %d, want anything but n1", what, best.Name, best.Code, put.Name, put.Code)
	}
}

// Until, the zone and the processor, one less, just so, and one more.
func TestEdgesOfFits(t *testing.T) {
	for _, now := range []int64{0, 1, 25, 999999, 1000000} {
		for until := max(0, now-2); until <= min(now+2, 1000000); until++ {
			for _, dead := range []bool{false, true} {
				c := changedTo(placeCluster(), func(c *impl.Cluster) {
					c.Now, c.Nodes[0].Until, c.Nodes[0].Dead = now, until, dead
				})
				want := int64(impl.ErrWait)
				if until > now && !dead {
					want = impl.OK
				}
				wantFits(t, fmt.Sprintf("Until %d, Now %d, Dead %v", until, now, dead), c, "p", "n1", want)
			}
		}
	}
	for _, zone := range []string{"", "east", "west", "eas", "eastt", "n1"} {
		c := changedTo(placeCluster(), func(c *impl.Cluster) { c.Pods[0].Zone = zone })
		for _, n := range c.Nodes {
			want := int64(impl.ErrRange)
			if zone == "" || zone == n.Zone {
				want = impl.OK
			}
			wantFits(t, "a pod for "+zone, c, "p", n.Name, want)
		}
	}
	for _, used := range []int64{0, 1, 300, 999, 1000} {
		for _, asked := range []int64{0, 1, 699, 700, 701, 999, 1000, 1001, 1000000} {
			c := changedTo(placeCluster(), func(c *impl.Cluster) {
				c.Pods[0].Cpu = asked
				putPod(c, impl.Pod{Name: "q", Cpu: used / 2, Node: "n1", Phase: impl.PhPlaced})
				putPod(c, impl.Pod{Name: "r", Cpu: used - used/2, Node: "n1", Phase: impl.PhRunning})
				putPod(c, impl.Pod{Name: "s", Cpu: 900, Node: "n2", Phase: impl.PhRunning})
				putPod(c, impl.Pod{Name: "t", Cpu: 1000})
			})
			want := int64(impl.OK)
			if asked > 1000-used {
				want = impl.ErrFull
			}
			wantFits(t, fmt.Sprintf("Cpu %d of %d", asked, 1000-used), c, "p", "n1", want)
		}
	}
}

// claimKind is what a claim of a pod may be like, and the code if it is so.
type claimKind struct {
	what string
	code int64
	put  func(c *impl.Cluster, name string)
}

// disk: one of size 1, of the class slow, named after the claim.
func disk(claim string, zone string, single bool, on ...string) impl.Volume {
	return impl.Volume{Name: "d" + claim, Size: 1, Zone: zone, Class: "slow", Single: single, On: on}
}

// withUser: one more claim bound to that disk, and a pod that has it, on that node (empty: none).
func withUser(c *impl.Cluster, name string, v impl.Volume, node string) {
	putBound(c, name, v)
	p := impl.Pod{Name: "u" + name, Claims: []string{name}}
	if node != "" {
		p.Node, p.Phase = node, impl.PhPlaced
	}
	putPod(c, p)
}

// boundKinds: claims that are bound, and whether a pod that has one fits on n1.
func boundKinds() []claimKind {
	return []claimKind{
		{"near", impl.OK, func(c *impl.Cluster, name string) { putBound(c, name, disk(name, "east", true)) }},
		{"on the node", impl.OK, func(c *impl.Cluster, name string) { putBound(c, name, disk(name, "east", true, "n1")) }},
		{"of a pod of the node", impl.OK, func(c *impl.Cluster, name string) { withUser(c, name, disk(name, "east", true, "n1"), "n1") }},
		{"of a pod without node", impl.OK, func(c *impl.Cluster, name string) { withUser(c, name, disk(name, "east", true), "") }},
		{"many, on another node", impl.OK, func(c *impl.Cluster, name string) { putBound(c, name, disk(name, "east", false, "n2")) }},
		{"many, of a pod of another node", impl.OK, func(c *impl.Cluster, name string) { withUser(c, name, disk(name, "east", false, "n1", "n2"), "n2") }},
		{"far", impl.ErrRange, func(c *impl.Cluster, name string) { putBound(c, name, disk(name, "west", true)) }},
		{"many, far", impl.ErrRange, func(c *impl.Cluster, name string) { putBound(c, name, disk(name, "west", false)) }},
		{"far, on another node", impl.ErrRange, func(c *impl.Cluster, name string) { putBound(c, name, disk(name, "west", true, "n3")) }},
		{"far, of a pod of another node", impl.ErrRange, func(c *impl.Cluster, name string) { withUser(c, name, disk(name, "west", true), "n3") }},
		{"on another node", impl.ErrState, func(c *impl.Cluster, name string) { putBound(c, name, disk(name, "east", true, "n2")) }},
		{"of a pod of another node", impl.ErrState, func(c *impl.Cluster, name string) { withUser(c, name, disk(name, "east", true), "n2") }},
		{"both on another node", impl.ErrState, func(c *impl.Cluster, name string) { withUser(c, name, disk(name, "east", true, "n2"), "n2") }},
		{"on the node, of a pod of another one", impl.ErrState, func(c *impl.Cluster, name string) { withUser(c, name, disk(name, "east", true, "n1"), "n2") }},
		{"of a pod of the node, on another one", impl.ErrState, func(c *impl.Cluster, name string) { withUser(c, name, disk(name, "east", true, "n2"), "n1") }},
	}
}

// looseKinds: claims that are not bound, each of which finds nothing of what is there for another one.
func looseKinds() []claimKind {
	return []claimKind{
		{"its class does not wait", impl.ErrWait, func(c *impl.Cluster, name string) {
			putClaim(c, impl.Claim{Name: name, Size: 1, Class: "fast"})
		}},
		{"its class does not wait, and a disk is there", impl.ErrWait, func(c *impl.Cluster, name string) {
			putVolume(c, with(disk(name, "east", true), func(v *impl.Volume) { v.Class = "fast" }))
			putClaim(c, impl.Claim{Name: name, Size: 1, Class: "fast", Single: true})
		}},
		{"its class does not wait, and none can be made", impl.ErrWait, func(c *impl.Cluster, name string) {
			putVolume(c, with(nothing("v_"+name), func(v *impl.Volume) { v.Class = "fast" }))
			putClaim(c, impl.Claim{Name: name, Size: 1, Class: "fast"})
		}},
		{"found", impl.OK, func(c *impl.Cluster, name string) {
			putVolume(c, disk(name, "east", true))
			putClaim(c, impl.Claim{Name: name, Size: 1, Class: "slow", Single: true})
		}},
		{"found on another node", impl.OK, func(c *impl.Cluster, name string) {
			putVolume(c, disk(name, "east", true, "n2"))
			putClaim(c, impl.Claim{Name: name, Size: 1, Class: "slow", Single: true})
		}},
		{"made", impl.OK, func(c *impl.Cluster, name string) {
			putClaim(c, impl.Claim{Name: name, Size: 1, Class: "slim"})
		}},
		{"made elsewhere", impl.ErrNone, func(c *impl.Cluster, name string) {
			putClaim(c, impl.Claim{Name: name, Size: 1, Class: "far"})
		}},
		{"its disk's name is there", impl.ErrThere, func(c *impl.Cluster, name string) {
			putVolume(c, with(nothing("v_"+name), func(v *impl.Volume) { v.Class = "soon" }))
			putClaim(c, impl.Claim{Name: name, Size: 1, Class: "soon"})
		}},
	}
}

// Claim by claim: the first fault counts, whatever those behind it are like.
func TestClaimsOfFits(t *testing.T) {
	kinds := slices.Concat(boundKinds(), looseKinds())
	for _, x := range kinds {
		one := claiming([]string{"a"}, func(c *impl.Cluster) { x.put(c, "a") })
		wantFits(t, x.what, one, "p", "n1", x.code)
		for _, y := range kinds {
			two := claiming([]string{"a", "b"}, func(c *impl.Cluster) { x.put(c, "a"); y.put(c, "b") })
			code := firstCode(x.code, y.code)
			wantFits(t, x.what+"; "+y.what, two, "p", "n1", code)
			// The claims of other pods do not count.
			thePod(&two, "p").Claims = []string{"b"}
			wantFits(t, "("+x.what+";) "+y.what, two, "p", "n1", y.code)
			for _, z := range kinds {
				three := claiming([]string{"a", "b", "c"}, func(c *impl.Cluster) { x.put(c, "a"); y.put(c, "b"); z.put(c, "c") })
				wantFits(t, x.what+"; "+y.what+"; "+z.what, three, "p", "n1", firstCode(code, z.code))
			}
		}
	}
}

// firstCode: the first of these that is not OK, if one is not.
func firstCode(codes ...int64) int64 {
	for _, code := range codes {
		if code != impl.OK {
			return code
		}
	}
	return impl.OK
}

// What is found or made for a claim is in the node's zone, and nowhere else.
func TestBoundInTheZoneOfTheNode(t *testing.T) {
	x := impl.Claim{Name: "a", Size: 5, Class: "slow", Single: true}
	free := func(name string, size int64, zone string) impl.Volume {
		return impl.Volume{Name: name, Size: size, Zone: zone, Class: "slow", Single: true}
	}
	cases := []struct {
		what  string
		disks []impl.Volume
		east  string
		west  string
	}{
		{"nothing there", nil, "v_a", "v_a"},
		{"one there", []impl.Volume{free("d", 5, "east")}, "d", "v_a"},
		{"a better one elsewhere", []impl.Volume{free("d", 5, "west"), free("e", 9, "east")}, "e", "d"},
		{"the best of more", []impl.Volume{free("b", 8, "east"), free("d", 7, "east"), free("e", 5, "west"), free("f", 7, "east")}, "d", "e"},
		{"too small", []impl.Volume{free("d", 4, "east"), free("e", 5, "west")}, "v_a", "e"},
		{"one in a zone without node", []impl.Volume{free("d", 5, "nowhere")}, "v_a", "v_a"},
		{"one of the made one's name", []impl.Volume{free("v_a", 6, "west"), free("z", 7, "east")}, "z", "v_a"},
	}
	for _, y := range cases {
		c := claiming([]string{"a"}, func(c *impl.Cluster) {
			c.Volumes = y.disks
			putClaim(c, x)
		})
		for _, zone := range []string{"east", "west"} {
			c := changedTo(c, func(c *impl.Cluster) { thePod(c, "p").Zone = zone })
			node, disk := "n1", y.east
			if zone == "west" {
				node, disk = "n3", y.west
			}
			wantFits(t, y.what+", "+zone, c, "p", node, impl.OK)
			wantPlacedOn(t, y.what+", "+zone, c, "p", node, func(c *impl.Cluster) { tieIn(c, x, disk, zone) })
		}
	}
}

// tieIn: the claim and that disk have each other; the disk is made in that zone, if it is not there.
func tieIn(c *impl.Cluster, x impl.Claim, disk string, zone string) {
	if !slices.Contains(namesOf(c.Volumes, volumeName), disk) {
		putVolume(c, impl.Volume{Name: disk, Size: x.Size, Zone: zone, Class: x.Class, Single: x.Single})
	}
	*c = tied(*c, x.Name, disk)
}

// A claim is bound behind those ahead of it: what these take is theirs.
func TestClaimsOneBehindTheOther(t *testing.T) {
	loose := func(name string, size int64, class string) impl.Claim {
		return impl.Claim{Name: name, Size: size, Class: class}
	}
	// Nothing of the class far is made in the east, so the disks that are there must do.
	far := func(name string, size int64) impl.Volume {
		return impl.Volume{Name: name, Size: size, Zone: "east", Class: "far"}
	}
	cases := []struct {
		what  string
		disks []impl.Volume
		sizes []int64
		code  int64
		binds []string
	}{
		{"one for one", []impl.Volume{far("d", 5)}, []int64{5}, impl.OK, []string{"d"}},
		{"one for two", []impl.Volume{far("d", 5)}, []int64{5, 5}, impl.ErrNone, nil},
		{"two for two", []impl.Volume{far("d", 5), far("e", 5)}, []int64{5, 5}, impl.OK, []string{"d", "e"}},
		{"two for three", []impl.Volume{far("d", 5), far("e", 5)}, []int64{5, 5, 5}, impl.ErrNone, nil},
		{"the smaller one first", []impl.Volume{far("d", 9), far("e", 5)}, []int64{5, 9}, impl.OK, []string{"e", "d"}},
		{"the first takes what the second needs", []impl.Volume{far("d", 9), far("e", 4)}, []int64{5, 9}, impl.ErrNone, nil},
		{"the other way round it would do", []impl.Volume{far("d", 9), far("e", 5)}, []int64{9, 5}, impl.OK, []string{"d", "e"}},
		{"three, crosswise", []impl.Volume{far("d", 7), far("e", 8), far("f", 6)}, []int64{7, 6, 1}, impl.OK, []string{"d", "f", "e"}},
	}
	for _, y := range cases {
		names := []string{"a", "b", "c"}[:len(y.sizes)]
		c := claiming(names, func(c *impl.Cluster) {
			c.Volumes = y.disks
			for at, size := range y.sizes {
				putClaim(c, loose(names[at], size, "far"))
			}
			thePod(c, "p").Zone = "east"
		})
		wantFits(t, y.what, c, "p", "n1", y.code)
		if y.code != impl.OK {
			wantNotPlaced(t, y.what, c, "p", impl.ErrWait)
			continue
		}
		wantPlacedOn(t, y.what, c, "p", "n1", func(c *impl.Cluster) {
			for at, volume := range y.binds {
				*c = tied(*c, names[at], volume)
			}
		})
	}
	// One more is made for each, until there is no room for it.
	for count := 4; count <= 8; count++ {
		for asked := range 4 {
			names := []string{"a", "b", "c"}[:asked]
			c := claiming(names, func(c *impl.Cluster) {
				c.Volumes = filled(nameRow(count), func(name string) impl.Volume {
					return with(nothing(name), func(v *impl.Volume) { v.Class = "slow" })
				})
				for _, name := range names {
					putClaim(c, loose(name, 3, "slow"))
				}
			})
			what := fmt.Sprintf("%d disks and %d more", count, asked)
			if count+asked > 8 {
				wantFits(t, what, c, "p", "n1", impl.ErrFull)
				wantNotPlaced(t, what, c, "p", impl.ErrWait)
				continue
			}
			wantPlacedOn(t, what, c, "p", "n1", func(c *impl.Cluster) {
				for at, name := range names {
					tieIn(c, c.Claims[at], "v_"+name, "east")
				}
			})
		}
	}
}

// A claim of more than 18 bytes has no disk made, for a pod's sake either.
func TestPlacedWithLongNames(t *testing.T) {
	for size := 17; size <= 20; size++ {
		name := longName[:size]
		x := impl.Claim{Name: name, Size: 5, Class: "slow"}
		c := claiming([]string{name}, func(c *impl.Cluster) { putClaim(c, x) })
		if size <= 18 {
			wantPlacedOn(t, "a long name", c, "p", "n1", func(c *impl.Cluster) { tieIn(c, x, "v_"+name, "east") })
			continue
		}
		wantFits(t, "too long a name", c, "p", "n1", impl.ErrNone)
		wantNotPlaced(t, "too long a name", c, "p", impl.ErrWait)
		putVolume(&c, impl.Volume{Name: "d", Size: 5, Zone: "west", Class: "slow"})
		wantFits(t, "too long a name, a disk elsewhere", c, "p", "n1", impl.ErrNone)
		wantPlacedOn(t, "too long a name, a disk elsewhere", c, "p", "n3", func(c *impl.Cluster) { tieIn(c, x, "d", "west") })
	}
}

// The slots: as many as disks are there then, and one less.
func TestSlotsOfFits(t *testing.T) {
	cases := []struct {
		what   string
		claims []string
		disks  int64
		change func(*impl.Cluster)
	}{
		{"none", nil, 0, nothingMore},
		{"one of its own", []string{"a"}, 1, func(c *impl.Cluster) { putBound(c, "a", disk("a", "east", true)) }},
		{"one of its own, on the node", []string{"a"}, 1, func(c *impl.Cluster) { putBound(c, "a", disk("a", "east", true, "n1")) }},
		{"one that a pod of the node has, too", []string{"a"}, 1, func(c *impl.Cluster) { withUser(c, "a", disk("a", "east", true), "n1") }},
		{"one that is all of this", []string{"a"}, 1, func(c *impl.Cluster) { withUser(c, "a", disk("a", "east", true, "n1"), "n1") }},
		{"one that is found", []string{"a"}, 1, func(c *impl.Cluster) { looseKinds()[3].put(c, "a") }},
		{"one that is found, on the node", []string{"a"}, 1, func(c *impl.Cluster) {
			putVolume(c, disk("a", "east", true, "n1"))
			putClaim(c, impl.Claim{Name: "a", Size: 1, Class: "slow", Single: true})
		}},
		{"one that is made", []string{"a"}, 1, func(c *impl.Cluster) { looseKinds()[5].put(c, "a") }},
		{"three that are made", []string{"a", "b", "c"}, 3, func(c *impl.Cluster) {
			for _, name := range []string{"a", "b", "c"} {
				looseKinds()[5].put(c, name)
			}
		}},
		{"one made, one found, one bound", []string{"a", "b", "c"}, 3, func(c *impl.Cluster) {
			looseKinds()[5].put(c, "a")
			looseKinds()[3].put(c, "b")
			putBound(c, "c", disk("c", "east", false))
		}},
		{"others that are on the node", nil, 2, func(c *impl.Cluster) {
			putVolume(c, disk("a", "east", true, "n1"))
			putBound(c, "b", disk("b", "east", false, "n1", "n2"))
		}},
		{"one that another pod waits for", []string{"a"}, 2, func(c *impl.Cluster) {
			putBound(c, "a", disk("a", "east", true))
			withUser(c, "b", disk("b", "east", true), "n1")
		}},
		{"some of each", []string{"a", "b"}, 5, func(c *impl.Cluster) {
			looseKinds()[5].put(c, "a")
			withUser(c, "b", disk("b", "east", true), "n1")
			withUser(c, "c", disk("c", "east", false, "n1", "n2"), "n1")
			putVolume(c, disk("d", "east", true, "n1"))
			withUser(c, "e", disk("e", "east", true), "n1")
		}},
		{"none of another node's", []string{"a"}, 1, func(c *impl.Cluster) {
			looseKinds()[5].put(c, "a")
			withUser(c, "b", disk("b", "east", true), "n2")
			putBound(c, "c", disk("c", "east", true, "n2"))
			withUser(c, "d", disk("d", "east", true), "")
		}},
	}
	for _, x := range cases {
		c := claiming(x.claims, x.change)
		for slots := range int64(9) {
			c.Nodes[0].Slots = slots
			if broken(c) != "" {
				continue
			}
			want := int64(impl.OK)
			if slots < x.disks {
				want = impl.ErrFull
			}
			wantFits(t, fmt.Sprintf("%s: %d disks, %d slots", x.what, x.disks, slots), c, "p", "n1", want)
		}
	}
}

// Pods of the node may wait for more disks than it has slots; then not even a pod without claims fits.
func TestSlotsOfOthers(t *testing.T) {
	c := claiming(nil, func(c *impl.Cluster) {
		withUser(c, "a", disk("a", "east", true), "n1")
		withUser(c, "b", disk("b", "east", true), "n1")
		c.Nodes[0].Slots = 1
	})
	wantFits(t, "without claims", c, "p", "n1", impl.ErrFull)
	wantPlacedOn(t, "without claims", c, "p", "n2", nothingMore)
}
