package tests

import (
	"math"
	"slices"
	"testing"

	"loop.example/g00571/impl"
)

// The things of workCluster that are changed, by their places.
const (
	one = iota
	two
	three
	four
	five
)

// twist is a change of workCluster, and which sentences do not hold then (none: it is still right).
type twist struct {
	what   string
	breaks string
	change func(*impl.Cluster)
}

func wantTwists(t *testing.T, twists []twist) {
	t.Helper()
	for _, x := range twists {
		c := workCluster()
		x.change(&c)
		if got := broken(c); got != x.breaks {
			t.Errorf("%s: breaks %q, it was meant to break %q", x.what, got, x.breaks)
		}
		wantRight(t, x.what, c, x.breaks == "")
	}
}

func TestRightClusters(t *testing.T) {
	if impl.MaxNodes != 6 || impl.MaxThings != 8 {
		t.Errorf("limits: got %d, %d", impl.MaxNodes, impl.MaxThings)
	}
	wantRight(t, "nothing at all", impl.Cluster{}, true)
	wantRight(t, "empty lists", impl.Cluster{Nodes: []impl.Node{}, Classes: []impl.Class{}, Volumes: []impl.Volume{}, Claims: []impl.Claim{}, Pods: []impl.Pod{}}, true)
	wantRight(t, "that of the desk", impl.DeskCluster(), true)
	wantRight(t, "one at work", workCluster(), true)
	wantRight(t, "all of one name", alikeCluster(), true)
	wantRight(t, "one at rest", restCluster(), true)
}

func TestNowOfClusters(t *testing.T) {
	for _, now := range []int64{-1, 0, 1, 999999, 1000000, 1000001, math.MinInt64, math.MaxInt64, 1 << 32, -1 << 32} {
		want := now >= 0 && now <= 1000000
		wantRight(t, "nothing but a time", impl.Cluster{Now: now}, want)
		c := workCluster()
		c.Now = now
		wantRight(t, "one at work", c, want)
	}
}

// alikeCluster: one of each kind, all of the same name, in use.
func alikeCluster() impl.Cluster {
	return impl.Cluster{
		Nodes:   []impl.Node{{Name: "a", Zone: "a", Slots: 1, Mounts: []string{"a"}}},
		Classes: []impl.Class{{Name: "a", Zone: "a"}},
		Volumes: []impl.Volume{{Name: "a", Size: 1, Zone: "a", Class: "a", Single: true, Claim: "a", On: []string{"a"}}},
		Claims:  []impl.Claim{{Name: "a", Size: 1, Class: "a", Single: true, Volume: "a"}},
		Pods:    []impl.Pod{{Name: "a", Zone: "a", Claims: []string{"a"}, Node: "a", Phase: impl.PhRunning}},
	}
}

// rowKind is one of the five kinds of things that a cluster has rows of.
type rowKind struct {
	what string
	most int
	// fill: a cluster in which things of these names stand, right by themselves.
	fill func(names []string) impl.Cluster
	// spoil: the same, but that the one at that place is not right by itself.
	spoil func(c *impl.Cluster, at int)
	names func(c impl.Cluster) []string
}

// filled: one thing of each name.
func filled[T any](names []string, make func(string) T) []T {
	var out []T
	for _, name := range names {
		out = append(out, make(name))
	}
	return out
}

func emptyNode(name string) impl.Node   { return impl.Node{Name: name, Zone: "east"} }
func emptyClass(name string) impl.Class { return impl.Class{Name: name} }
func emptyPod(name string) impl.Pod     { return impl.Pod{Name: name} }
func freeVolume(name string) impl.Volume {
	return impl.Volume{Name: name, Size: 1, Zone: "east", Class: "fast"}
}
func freeClaim(name string) impl.Claim { return impl.Claim{Name: name, Size: 1, Class: "fast"} }

func rowKinds() []rowKind {
	fast := []impl.Class{{Name: "fast"}}
	return []rowKind{
		{"Nodes", 6, func(l []string) impl.Cluster { return impl.Cluster{Nodes: filled(l, emptyNode)} },
			func(c *impl.Cluster, at int) { c.Nodes[at].Slots = 9 },
			func(c impl.Cluster) []string { return namesOf(c.Nodes, nodeName) }},
		{"Classes", 8, func(l []string) impl.Cluster { return impl.Cluster{Classes: filled(l, emptyClass)} },
			func(c *impl.Cluster, at int) { c.Classes[at].Zone = "-" },
			func(c impl.Cluster) []string { return namesOf(c.Classes, className) }},
		{"Volumes", 8, func(l []string) impl.Cluster { return impl.Cluster{Classes: fast, Volumes: filled(l, freeVolume)} },
			func(c *impl.Cluster, at int) { c.Volumes[at].Size = 0 },
			func(c impl.Cluster) []string { return namesOf(c.Volumes, volumeName) }},
		{"Claims", 8, func(l []string) impl.Cluster { return impl.Cluster{Classes: fast, Claims: filled(l, freeClaim)} },
			func(c *impl.Cluster, at int) { c.Claims[at].Size = 1048577 },
			func(c impl.Cluster) []string { return namesOf(c.Claims, claimName) }},
		{"Pods", 8, func(l []string) impl.Cluster { return impl.Cluster{Pods: filled(l, emptyPod)} },
			func(c *impl.Cluster, at int) { c.Pods[at].Cpu = -1 },
			func(c impl.Cluster) []string { return namesOf(c.Pods, podName) }},
	}
}

func TestRowsOfClusters(t *testing.T) {
	for _, k := range rowKinds() {
		for count := range 12 {
			wantRight(t, k.what, k.fill(nameRow(count)), count <= k.most)
		}
		for _, count := range []int{impl.MaxList, impl.MaxList + 1} {
			wantRight(t, k.what, k.fill(nameRow(count)), false)
		}
		for count := 1; count <= k.most; count++ {
			for at := range count {
				c := k.fill(nameRow(count))
				k.spoil(&c, at)
				wantRight(t, k.what+", one of them wrong", c, false)
				for _, wrong := range []string{"", "N", "n a", longName + "a", "zz\n", overlong()} {
					names := nameRow(count)
					names[at] = wrong
					wantRight(t, k.what+", one that has no name", k.fill(names), false)
				}
				if at == 0 {
					continue
				}
				twice, fall := nameRow(count), nameRow(count)
				twice[at] = twice[at-1]
				fall[at], fall[at-1] = fall[at-1], fall[at]
				wantRight(t, k.what+", two of one name", k.fill(twice), false)
				wantRight(t, k.what+", falling", k.fill(fall), false)
			}
		}
		// The shorter one first, and byte by byte.
		for _, names := range [][]string{{"a", "a0"}, {"a", "a0", "a9", "a_", "aa"}, {longName[:19], longName}, {"z"}} {
			wantRight(t, k.what, k.fill(names), true)
			slices.Reverse(names)
			wantRight(t, k.what+", falling", k.fill(names), len(names) == 1)
		}
		wantRight(t, k.what+", the last and the first of one name", k.fill([]string{"a", "b", "a"}), false)
	}
}

func TestThingsOfClusters(t *testing.T) {
	fast := []impl.Class{{Name: "fast"}}
	for _, v := range wrongDisks() {
		wantRight(t, "a wrong Volume", impl.Cluster{Nodes: []impl.Node{emptyNode("n1"), emptyNode("n2")}, Classes: fast, Volumes: []impl.Volume{v}}, false)
	}
	for _, x := range wrongClaims() {
		wantRight(t, "a wrong Claim", impl.Cluster{Classes: fast, Claims: []impl.Claim{x}}, false)
	}
	for _, k := range wrongClasses() {
		wantRight(t, "a wrong Class", impl.Cluster{Classes: []impl.Class{k}}, false)
	}
	wantTwists(t, []twist{
		{"a Node whose Until is no time", "nodes", func(c *impl.Cluster) { c.Nodes[one].Until = -1 }},
		{"a Node whose Until is too late", "nodes", func(c *impl.Cluster) { c.Nodes[one].Until = 1000001 }},
		{"a Node whose Until is the last time", "", func(c *impl.Cluster) { c.Nodes[one].Until = 1000000 }},
		{"a Node whose Mounts fall", "nodes", func(c *impl.Cluster) { c.Nodes[one].Mounts = []string{"v2", "v1"} }},
		{"a Node whose Mounts stand twice", "nodes", func(c *impl.Cluster) { c.Nodes[two].Mounts = []string{"v2", "v2"} }},
		{"a Node without a Zone", "nodes, pod's disks near, on its zone", func(c *impl.Cluster) { c.Nodes[two].Zone, c.Pods[three].Zone = "", "" }},
		{"a Volume whose Nodes fall", "volumes", func(c *impl.Cluster) { c.Volumes[two].On = []string{"n2", "n1"} }},
		{"a Volume whose Nodes stand twice", "volumes, slots", func(c *impl.Cluster) { c.Volumes[two].On = []string{"n1", "n1", "n2"} }},
		{"a Single Volume On two", "volumes", func(c *impl.Cluster) { c.Volumes[four].On = []string{"n2", "n4"}; addEast(c, "n4") }},
		{"a Volume that is not Single On two", "", func(c *impl.Cluster) {
			c.Volumes[four].On, c.Volumes[four].Single = []string{"n2", "n4"}, false
			addEast(c, "n4")
		}},
		{"a Spent Volume of a Claim", "volumes", func(c *impl.Cluster) { c.Volumes[one].Spent = true }},
		{"a Pod whose Claims fall", "pods", func(c *impl.Cluster) { c.Pods[one].Claims = []string{"c2", "c1"} }},
		{"a Pod of four Claims", "pods", func(c *impl.Cluster) { c.Pods[five].Claims = []string{"c1", "c2", "c3", "c4"} }},
		{"a Pod on a Node that is PhPending", "pods", func(c *impl.Cluster) { c.Pods[two].Phase = impl.PhPending }},
		{"a Pod on no Node that is PhPlaced", "pods", func(c *impl.Cluster) { c.Pods[five].Phase = impl.PhPlaced }},
		{"a Pod of a phase that is none", "pods", func(c *impl.Cluster) { c.Pods[two].Phase = 3 }},
	})
}

// addEast: one more Node, in the zone east, behind the others.
func addEast(c *impl.Cluster, name string) {
	c.Nodes = append(c.Nodes, impl.Node{Name: name, Zone: "east", Cpu: 1000, Slots: 1})
}

func TestBoundClusters(t *testing.T) {
	wantTwists(t, []twist{
		{"a smaller Volume", "claim's volume", func(c *impl.Cluster) { c.Volumes[one].Size = 4 }},
		{"a greater Volume", "", func(c *impl.Cluster) { c.Volumes[one].Size = 6 }},
		{"the greatest Volume", "", func(c *impl.Cluster) { c.Volumes[one].Size = 1048576 }},
		{"a smaller Claim", "", func(c *impl.Cluster) { c.Claims[one].Size = 4 }},
		{"a Claim of just that Size", "", func(c *impl.Cluster) { c.Claims[two].Size = 9 }},
		{"a greater Claim", "claim's volume", func(c *impl.Cluster) { c.Claims[two].Size = 10 }},
		{"a Volume of another Class", "claim's volume", func(c *impl.Cluster) { c.Volumes[two].Class = "slow" }},
		{"a Claim of another Class", "claim's volume", func(c *impl.Cluster) { c.Claims[two].Class = "slow" }},
		{"both of another Class", "", func(c *impl.Cluster) { c.Volumes[two].Class, c.Claims[two].Class = "slow", "slow" }},
		{"a Volume that is Single no more", "claim's volume", func(c *impl.Cluster) { c.Volumes[three].Single = false }},
		{"a Volume that is Single now", "claim's volume", func(c *impl.Cluster) { bindBoth(c, five, five); c.Volumes[five].Single = true }},
		{"a Claim that is Single now", "claim's volume", func(c *impl.Cluster) { c.Claims[two].Single = true }},
		{"a Claim that is Single no more", "claim's volume", func(c *impl.Cluster) { c.Claims[one].Single = false }},
		{"both Single no more", "", func(c *impl.Cluster) { c.Volumes[one].Single, c.Claims[one].Single = false, false }},
		{"a Claim that is not there", "volume's claim", func(c *impl.Cluster) { c.Volumes[four].Claim = "c9" }},
		{"a Claim that begins another", "volume's claim", func(c *impl.Cluster) { c.Volumes[four].Claim = "c" }},
		{"a Claim that has no Volume", "volume's claim", func(c *impl.Cluster) { c.Volumes[four].Claim = "c4" }},
		{"a Claim that has another Volume", "volume's claim", func(c *impl.Cluster) { c.Volumes[four].Claim = "c1" }},
		{"a Volume that is not there", "claim's volume", func(c *impl.Cluster) { c.Claims[four].Volume = "v9" }},
		{"a Volume that begins another", "claim's volume", func(c *impl.Cluster) { c.Claims[four].Volume = "v" }},
		{"a Volume of no Claim", "claim's volume", func(c *impl.Cluster) { c.Claims[four].Volume = "v4" }},
		{"a Volume of another Claim", "claim's volume", func(c *impl.Cluster) { c.Claims[four].Volume = "v1" }},
		{"a Volume that is Spent", "claim's volume", func(c *impl.Cluster) { c.Claims[five].Volume = "v5" }},
		{"both have each other", "", func(c *impl.Cluster) { bindBoth(c, four, four) }},
		{"both have each other, Spent no more", "", func(c *impl.Cluster) { bindBoth(c, five, five) }},
		{"both have each other, too small", "claim's volume", func(c *impl.Cluster) { bindBoth(c, four, four); c.Claims[four].Size = 5 }},
		{"crossed", "volume's claim, claim's volume", func(c *impl.Cluster) {
			bindBoth(c, four, four)
			c.Claims[one].Volume, c.Claims[four].Volume = "v4", "v1"
			c.Volumes[four].Size, c.Pods[one].Phase = 5, impl.PhPlaced
		}},
	})
}

// bindBoth: the Volume and the Claim at these places have each other.
func bindBoth(c *impl.Cluster, volume int, claim int) {
	c.Volumes[volume].Claim, c.Volumes[volume].Spent = c.Claims[claim].Name, false
	c.Claims[claim].Volume = c.Volumes[volume].Name
}

func TestClassesOfClusters(t *testing.T) {
	wantTwists(t, []twist{
		{"a Volume's Class that is not there", "class there", func(c *impl.Cluster) { c.Volumes[four].Class = "none" }},
		{"a Spent Volume's Class that is not there", "class there", func(c *impl.Cluster) { c.Volumes[five].Class = "none" }},
		{"a Claim's Class that is not there", "class there", func(c *impl.Cluster) { c.Claims[four].Class = "none" }},
		{"a Class of both that is not there", "class there", func(c *impl.Cluster) { c.Volumes[one].Class, c.Claims[one].Class = "none", "none" }},
		{"a Class that begins another", "class there", func(c *impl.Cluster) { c.Volumes[four].Class = "fas" }},
		{"a Class that another begins", "class there", func(c *impl.Cluster) { c.Claims[four].Class = "fast0" }},
		{"another Class of a Volume that is there", "", func(c *impl.Cluster) { c.Volumes[four].Class = "slow" }},
		{"another Class of a Claim that is there", "", func(c *impl.Cluster) { c.Claims[four].Class = "slow" }},
		{"a Class that is gone", "class there", func(c *impl.Cluster) { c.Classes = c.Classes[:two] }},
		{"no Classes", "class there", func(c *impl.Cluster) { c.Classes = nil }},
		{"a Class more", "", func(c *impl.Cluster) { c.Classes = append(c.Classes, impl.Class{Name: "z"}) }},
		{"a Class of another Zone than its Volume", "", func(c *impl.Cluster) { c.Classes[one].Zone = "west" }},
		{"a Class that keeps, waits", "", func(c *impl.Cluster) { c.Classes[one].Wait, c.Classes[one].Keep = true, true }},
	})
	c := workCluster()
	c.Volumes, c.Pods, c.Nodes = nil, nil, nil
	for i := range c.Claims {
		c.Claims[i].Volume = ""
	}
	wantRight(t, "Claims alone", c, true)
	c.Classes = c.Classes[:two]
	wantRight(t, "Claims alone, one without its Class", c, false)
}

func TestPlacedClusters(t *testing.T) {
	wantTwists(t, []twist{
		{"a Claim that is not there", "pod's claims", func(c *impl.Cluster) { c.Pods[five].Claims = []string{"c9"} }},
		{"the first Claim that is not there", "pod's claims", func(c *impl.Cluster) { c.Pods[five].Claims = []string{"c0", "c1", "c4"} }},
		{"the last Claim that is not there", "pod's claims", func(c *impl.Cluster) { c.Pods[five].Claims = []string{"c1", "c4", "c6"} }},
		{"a placed Pod's Claim that is not there", "pod's claims, pod's disks bound", func(c *impl.Cluster) { c.Pods[two].Claims = []string{"c1", "c9"} }},
		{"no Claims", "", func(c *impl.Cluster) { c.Pods[one].Claims, c.Pods[five].Claims = nil, []string{} }},
		{"a Node that is not there", "pod's node", func(c *impl.Cluster) { c.Pods[four].Node = "n9" }},
		{"a Node that is not there, of a Pod without Claims", "pod's node", func(c *impl.Cluster) { c.Pods[two].Node, c.Pods[two].Claims = "n0", nil }},
		{"a Node that is not there, of a Pod that runs", "pod's node", func(c *impl.Cluster) { c.Pods[three].Node, c.Pods[three].Claims = "n", nil }},
		{"a Node that is not there, of a Pod that asks for nothing", "pod's node", func(c *impl.Cluster) {
			c.Pods[five] = impl.Pod{Name: "p5", Node: "n4", Phase: impl.PhPlaced}
		}},
		{"no Nodes", "pod's node, on nodes", func(c *impl.Cluster) { c.Nodes = nil }},
		{"a Zone that is not the Node's", "pod's zone", func(c *impl.Cluster) { c.Pods[three].Zone = "west" }},
		{"a Zone that begins the Node's", "pod's zone", func(c *impl.Cluster) { c.Pods[three].Zone = "eas" }},
		{"a Zone that the Node's begins", "pod's zone", func(c *impl.Cluster) { c.Pods[two].Zone = "east0" }},
		{"a Zone that is a dead Node's no more", "pod's zone", func(c *impl.Cluster) { c.Pods[four].Zone = "east" }},
		{"any Zone", "", func(c *impl.Cluster) { c.Pods[three].Zone, c.Pods[four].Zone = "", "" }},
		{"the Zone of a Pod that has no Node", "", func(c *impl.Cluster) { c.Pods[five].Zone = "nowhere" }},
		{"a Claim that is not bound", "pod's disks bound", func(c *impl.Cluster) { c.Pods[two].Claims = []string{"c1", "c4"} }},
		{"a Claim that is not bound, of a dead Node's Pod", "pod's disks bound", func(c *impl.Cluster) { c.Pods[four].Claims = []string{"c5"} }},
		{"a Claim that is bound then", "", func(c *impl.Cluster) { c.Pods[two].Claims = []string{"c1", "c4"}; bindBoth(c, four, four) }},
		{"a Claim that is bound elsewhere", "pod's disks near", func(c *impl.Cluster) { c.Pods[two].Claims = []string{"c1", "c5"}; bindBoth(c, five, five) }},
		{"a Volume in another Zone", "pod's disks near", func(c *impl.Cluster) { c.Volumes[three].Zone = "east" }},
		{"a Volume in a Zone that begins the Node's", "pod's disks near", func(c *impl.Cluster) { c.Volumes[three].Zone = "wes" }},
		{"a dead Node in another Zone", "pod's disks near", func(c *impl.Cluster) { c.Nodes[three].Zone, c.Pods[four].Zone = "east", "" }},
		{"both in another Zone", "", func(c *impl.Cluster) {
			c.Nodes[three].Zone, c.Volumes[three].Zone, c.Pods[four].Zone = "up", "up", "up"
		}},
		{"a lease that is over", "", func(c *impl.Cluster) { c.Nodes[one].Until = 0 }},
		{"a lease that just ends", "", func(c *impl.Cluster) { c.Nodes[one].Until = 25 }},
	})
}

func TestCpuOfClusters(t *testing.T) {
	wantTwists(t, []twist{
		{"just as much", "", func(c *impl.Cluster) { c.Pods[one].Cpu, c.Pods[two].Cpu = 1, 999 }},
		{"one more, of the first", "cpu", func(c *impl.Cluster) { c.Pods[one].Cpu = 601 }},
		{"one more, of the second", "cpu", func(c *impl.Cluster) { c.Pods[two].Cpu = 401 }},
		{"one less", "", func(c *impl.Cluster) { c.Pods[one].Cpu = 599 }},
		{"a Node of one less", "cpu", func(c *impl.Cluster) { c.Nodes[one].Cpu = 999 }},
		{"a Node of one more", "", func(c *impl.Cluster) { c.Nodes[one].Cpu = 1001 }},
		{"a Pod that runs alone, of one more", "cpu", func(c *impl.Cluster) { c.Pods[three].Cpu = 1001 }},
		{"a Pod of the most", "cpu", func(c *impl.Cluster) { c.Pods[three].Cpu = 1000000 }},
		{"both of the most", "", func(c *impl.Cluster) { c.Pods[three].Cpu, c.Nodes[two].Cpu = 1000000, 1000000 }},
		{"a dead Node of just as much", "", func(c *impl.Cluster) { c.Nodes[three].Cpu = 500 }},
		{"a dead Node of one less", "cpu", func(c *impl.Cluster) { c.Nodes[three].Cpu = 499 }},
		{"a Pod of no Node", "", func(c *impl.Cluster) { c.Pods[five].Cpu = 1000000 }},
		{"nothing of nothing", "", func(c *impl.Cluster) { c.Nodes[two].Cpu, c.Pods[three].Cpu = 0, 0 }},
		{"something of nothing", "cpu", func(c *impl.Cluster) { c.Nodes[two].Cpu, c.Pods[three].Cpu = 0, 1 }},
	})
	for _, more := range []int64{-1, 0, 1} {
		c := impl.Cluster{Nodes: []impl.Node{{Name: "n1", Zone: "east", Cpu: 800}, {Name: "n2", Zone: "east", Cpu: 800}}, Pods: filled(nameRow(8), emptyPod)}
		for i := range c.Pods {
			c.Pods[i].Cpu, c.Pods[i].Node, c.Pods[i].Phase = 100, "n2", 1+int64(i%2)
		}
		c.Pods[7].Cpu += more
		wantRight(t, "eight Pods of one Node", c, more <= 0)
		c.Pods[0].Node = "n1"
		wantRight(t, "seven Pods of one Node", c, true)
	}
}

func TestPodsOfOneClaim(t *testing.T) {
	room := func(c *impl.Cluster) { c.Nodes[one].Cpu, c.Nodes[two].Cpu = 1000000, 1000000 }
	wantTwists(t, []twist{
		{"Single, on one Node", "", func(c *impl.Cluster) { room(c) }},
		{"Single, on two Nodes", "one node", func(c *impl.Cluster) { room(c); c.Pods[two].Node = "n2" }},
		{"Single, on two Nodes, with others between", "one node", func(c *impl.Cluster) {
			room(c)
			c.Pods[two].Claims = nil
			c.Pods[five] = impl.Pod{Name: "p5", Claims: []string{"c1"}, Node: "n2", Phase: impl.PhPlaced}
		}},
		{"Single, three of them, the last one elsewhere", "one node", func(c *impl.Cluster) {
			room(c)
			c.Pods[five] = impl.Pod{Name: "p5", Claims: []string{"c1", "c2"}, Node: "n2", Phase: impl.PhPlaced}
		}},
		{"Single, three of them on one Node", "", func(c *impl.Cluster) {
			room(c)
			c.Pods[five] = impl.Pod{Name: "p5", Claims: []string{"c1", "c2"}, Node: "n1", Phase: impl.PhPlaced}
		}},
		{"Single, one of them on none", "", func(c *impl.Cluster) { room(c); c.Pods[two].Node, c.Pods[two].Phase = "", 0 }},
		{"Single, both on none", "", func(c *impl.Cluster) {
			c.Pods[one].Node, c.Pods[one].Phase = "", 0
			c.Pods[two].Node, c.Pods[two].Phase = "", 0
		}},
		{"not Single, on two Nodes", "", func(c *impl.Cluster) { room(c); c.Pods[two].Node, c.Pods[two].Claims = "n2", []string{"c2"} }},
		{"Single no more, on two Nodes", "", func(c *impl.Cluster) {
			room(c)
			c.Pods[two].Node, c.Volumes[one].Single, c.Claims[one].Single = "n2", false, false
		}},
		{"two Claims, both Single, on two Nodes", "", func(c *impl.Cluster) {
			room(c)
			bindBoth(c, four, four)
			c.Pods[two].Node, c.Pods[two].Claims = "n2", []string{"c4"}
		}},
		{"Single, on two Nodes, one of them dead", "one node", func(c *impl.Cluster) {
			c.Nodes = append(c.Nodes, impl.Node{Name: "n4", Zone: "east", Cpu: 1000, Dead: true})
			c.Pods[two].Node = "n4"
		}},
	})
}

func TestAttachedClusters(t *testing.T) {
	wantTwists(t, []twist{
		{"a Node that is not there", "on nodes", func(c *impl.Cluster) { c.Volumes[four].On = []string{"n9"} }},
		{"a Node that is not there, behind others", "on nodes", func(c *impl.Cluster) { c.Volumes[two].On = []string{"n1", "n2", "n4"} }},
		{"a Node that is not there, ahead of others", "on nodes", func(c *impl.Cluster) { c.Volumes[two].On = []string{"n", "n1", "n2"} }},
		{"a Node in another Zone", "on its zone", func(c *impl.Cluster) { c.Volumes[four].On = []string{"n3"} }},
		{"a Node in another Zone, of a Spent Volume", "on its zone", func(c *impl.Cluster) { c.Volumes[five].On = []string{"n2"} }},
		{"a Node in another Zone, behind others", "on its zone", func(c *impl.Cluster) { c.Volumes[two].On = []string{"n1", "n2", "n3"} }},
		{"a Zone that the Node's begins", "on its zone", func(c *impl.Cluster) { c.Volumes[four].On, c.Volumes[four].Zone = []string{"n2"}, "east0" }},
		{"On no Node", "", func(c *impl.Cluster) {
			c.Volumes[one].On, c.Nodes[one].Mounts, c.Pods[one].Phase = nil, []string{"v2"}, impl.PhPlaced
		}},
		{"On a Node without Pods of it", "", func(c *impl.Cluster) { c.Volumes[four].On = []string{"n2"} }},
		{"On a dead Node", "", func(c *impl.Cluster) { c.Volumes[three].On = []string{"n3"} }},
		{"Spent, On a dead Node", "", func(c *impl.Cluster) { c.Volumes[five].On = []string{"n3"} }},
		{"more than Slots", "slots", func(c *impl.Cluster) { c.Volumes[four].On = []string{"n1"} }},
		{"just as many as Slots", "", func(c *impl.Cluster) { c.Nodes[two].Slots = 1 }},
		{"one On none at all", "slots", func(c *impl.Cluster) { c.Nodes[two].Slots = 0 }},
		{"one less Slot", "slots", func(c *impl.Cluster) { c.Nodes[one].Slots = 1 }},
		{"more than Slots of a dead Node", "slots", func(c *impl.Cluster) { c.Volumes[three].On, c.Volumes[five].On = []string{"n3"}, []string{"n3"} }},
		{"just as many as a dead Node's Slots", "", func(c *impl.Cluster) {
			c.Volumes[three].On, c.Volumes[five].On, c.Nodes[three].Slots = []string{"n3"}, []string{"n3"}, 2
		}},
		{"mounted on a dead Node without Slots", "", func(c *impl.Cluster) { c.Nodes[three].Slots = 0 }},
	})
	for slots := range int64(9) {
		c := impl.Cluster{Nodes: []impl.Node{emptyNode("n1"), emptyNode("n2")}, Classes: []impl.Class{{Name: "fast"}}, Volumes: filled(nameRow(8), freeVolume)}
		c.Nodes[0].Slots, c.Nodes[1].Slots = slots, 8
		for at := range c.Volumes {
			c.Volumes[at].On = []string{"n1", "n2"}
			wantRight(t, "Volumes On two Nodes", c, int64(at) < slots)
		}
	}
	c := impl.Cluster{Nodes: filled(nameRow(6), emptyNode), Classes: []impl.Class{{Name: "fast"}}, Volumes: []impl.Volume{freeVolume("v1")}}
	for at := range c.Nodes {
		c.Volumes[0].On = nameRow(at + 1)
		wantRight(t, "On a Node that has no Slot", c, false)
		c.Nodes[at].Slots = 1
		wantRight(t, "On as many Nodes as there are", c, true)
	}
}

func TestMountedClusters(t *testing.T) {
	wantTwists(t, []twist{
		{"a Mount that is no Volume", "mounts are volumes", func(c *impl.Cluster) { c.Nodes[two].Mounts = []string{"v2", "v9"} }},
		{"a Mount that is no Volume, ahead of others", "mounts are volumes", func(c *impl.Cluster) { c.Nodes[one].Mounts = []string{"v", "v1", "v2"} }},
		{"a Mount of a dead Node that is no Volume", "mounts are volumes", func(c *impl.Cluster) { c.Nodes[three].Mounts = []string{"v3", "v6"} }},
		{"a Mount that is a Claim", "mounts are volumes", func(c *impl.Cluster) { c.Nodes[three].Mounts = []string{"c1"} }},
		{"a Mount that is On none", "mounts on it", func(c *impl.Cluster) { c.Nodes[two].Mounts = []string{"v2", "v4"} }},
		{"a Mount that is On another", "mounts on it", func(c *impl.Cluster) {
			c.Volumes[four].On, c.Nodes[one].Mounts = []string{"n2"}, []string{"v1", "v2", "v4"}
		}},
		{"a Mount that is On it", "", func(c *impl.Cluster) { c.Volumes[four].On, c.Nodes[two].Mounts = []string{"n2"}, []string{"v2", "v4"} }},
		{"Mounts of a dead Node that are On none, or others", "", func(c *impl.Cluster) { c.Nodes[three].Mounts = []string{"v1", "v2", "v3", "v4", "v5"} }},
		{"a Mount that is On none, of a Node that lives again", "mounts on it", func(c *impl.Cluster) { c.Nodes[three].Dead = false }},
		{"a Mount that is On it, of a Node that lives again", "", func(c *impl.Cluster) { c.Nodes[three].Dead, c.Volumes[three].On = false, []string{"n3"} }},
		{"no Mounts of a Node that lives again", "", func(c *impl.Cluster) { c.Nodes[three].Dead, c.Nodes[three].Mounts = false, nil }},
		{"Single, mounted on two", "mounts on it, mounted once", func(c *impl.Cluster) { c.Nodes[two].Mounts = []string{"v1", "v2"} }},
		{"Single, mounted on two, one of them dead", "", func(c *impl.Cluster) { c.Nodes[three].Mounts = []string{"v1", "v3"} }},
		{"Single, mounted on two, both dead", "", func(c *impl.Cluster) {
			c.Nodes = append(c.Nodes, impl.Node{Name: "n4", Zone: "west", Dead: true, Mounts: []string{"v3"}})
		}},
		{"not Single, mounted on two and a dead one", "", func(c *impl.Cluster) { c.Nodes[three].Mounts = []string{"v2", "v3"} }},
		{"no Mounts of a Pod that does not run", "", func(c *impl.Cluster) { c.Nodes[one].Mounts, c.Pods[one].Phase = nil, impl.PhPlaced }},
	})
}

func TestRunningClusters(t *testing.T) {
	wantTwists(t, []twist{
		{"on a dead Node", "runs on the living", func(c *impl.Cluster) { c.Nodes[two].Dead = true }},
		{"on a dead Node, without Claims", "runs on the living", func(c *impl.Cluster) { c.Nodes[two].Dead, c.Pods[three].Claims = true, nil }},
		{"on a dead Node, all mounted", "runs on the living", func(c *impl.Cluster) { c.Pods[four].Phase = impl.PhRunning }},
		{"placed on a dead Node", "", func(c *impl.Cluster) { c.Nodes[two].Dead, c.Pods[three].Phase = true, impl.PhPlaced }},
		{"without its first Volume", "runs with its disks", func(c *impl.Cluster) { c.Nodes[one].Mounts = []string{"v2"} }},
		{"without its last Volume", "runs with its disks", func(c *impl.Cluster) { c.Nodes[one].Mounts = []string{"v1"} }},
		{"without any of its Volumes", "runs with its disks", func(c *impl.Cluster) { c.Nodes[one].Mounts = nil }},
		{"with a Volume that another Node has", "runs with its disks", func(c *impl.Cluster) { c.Nodes[two].Mounts = []string{} }},
		{"without Claims", "", func(c *impl.Cluster) { c.Nodes[two].Mounts, c.Pods[three].Claims = nil, nil }},
		{"with another one's Volume", "", func(c *impl.Cluster) { c.Pods[two].Phase = impl.PhRunning }},
		{"with a Volume that is not its own", "runs with its disks", func(c *impl.Cluster) {
			bindBoth(c, four, four)
			c.Volumes[four].On, c.Pods[three].Claims = []string{"n2"}, []string{"c4"}
		}},
		{"with that one, mounted", "", func(c *impl.Cluster) {
			bindBoth(c, four, four)
			c.Volumes[four].On, c.Pods[three].Claims, c.Nodes[two].Mounts = []string{"n2"}, []string{"c4"}, []string{"v4"}
		}},
		{"alive again", "", func(c *impl.Cluster) {
			c.Nodes[three].Dead, c.Volumes[three].On, c.Pods[four].Phase = false, []string{"n3"}, impl.PhRunning
		}},
	})
}
