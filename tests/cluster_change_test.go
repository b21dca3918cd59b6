package tests

import (
	"math"
	"slices"
	"strings"
	"testing"

	"loop.example/g00571/impl"
)

// restCluster: a right cluster in which nothing is On a Node, mounted, or a Claim of a Pod.
func restCluster() impl.Cluster {
	return impl.Cluster{
		Nodes: []impl.Node{
			{Name: "n1", Zone: "east", Cpu: 1000, Slots: 8, Until: 30},
			{Name: "n2", Zone: "west", Cpu: 1000, Slots: 8, Until: 12, Dead: true},
		},
		Classes: []impl.Class{{Name: "fast", Zone: "east"}, {Name: "keep", Keep: true}},
		Volumes: []impl.Volume{
			{Name: "v1", Size: 5, Zone: "east", Class: "fast", Single: true, Claim: "c1"},
			{Name: "v2", Size: 9, Zone: "west", Class: "keep", Claim: "c2"},
			{Name: "v3", Size: 4, Zone: "east", Class: "fast"},
			{Name: "v4", Size: 4, Zone: "west", Class: "keep", Single: true, Spent: true},
		},
		Claims: []impl.Claim{
			{Name: "c1", Size: 5, Class: "fast", Single: true, Volume: "v1"},
			{Name: "c2", Size: 8, Class: "keep", Volume: "v2"},
			{Name: "c3", Size: 3, Class: "fast"},
			{Name: "c4", Size: 3, Class: "keep", Single: true},
		},
		Pods: []impl.Pod{
			{Name: "p1", Cpu: 100, Zone: "north"},
			{Name: "p2", Cpu: 400, Zone: "west", Node: "n2", Phase: impl.PhPlaced},
			{Name: "p3", Cpu: 1000, Node: "n1", Phase: impl.PhRunning},
		},
		Now: 25,
	}
}

// changedTo: the cluster, in memory of its own, so changed.
func changedTo(c impl.Cluster, change func(*impl.Cluster)) impl.Cluster {
	out := deepCopy(c)
	change(&out)
	return out
}

// wrongClusters: clusters that are not right, each by one fault.
func wrongClusters() []impl.Cluster {
	var out []impl.Cluster
	for _, change := range []func(*impl.Cluster){
		func(c *impl.Cluster) { c.Now = -1 },
		func(c *impl.Cluster) { c.Now = 1000001 },
		func(c *impl.Cluster) { c.Nodes[0].Slots = 9 },
		func(c *impl.Cluster) { c.Nodes = append(c.Nodes, filled(nameRow(5), emptyNode)...) },
		func(c *impl.Cluster) { slices.Reverse(c.Classes) },
		func(c *impl.Cluster) { c.Claims = append(c.Claims, filled(nameRow(5), freeClaim)...) },
		func(c *impl.Cluster) { c.Pods = filled(nameRow(impl.MaxList+1), emptyPod) },
		func(c *impl.Cluster) { c.Volumes[0].Size = 4 },
		func(c *impl.Cluster) { c.Pods[1].Node = "n9" },
		func(c *impl.Cluster) { c.Volumes[2].On = []string{"n2"} },
		func(c *impl.Cluster) { c.Nodes[0].Mounts = []string{"v3"} },
		func(c *impl.Cluster) { c.Pods[1].Phase = impl.PhRunning },
	} {
		out = append(out, changedTo(restCluster(), change))
	}
	return out
}

// adder is how one more of a kind comes to a cluster.
type adder struct {
	rowKind
	call string
	add  func(c impl.Cluster, name string) impl.ClusterOut
}

// adders: one for each kind; what is added is such a thing as the kind's fill has.
func adders() []adder {
	kinds := rowKinds()
	return []adder{
		{kinds[0], "AddNode", func(c impl.Cluster, name string) impl.ClusterOut { return impl.AddNode(c, name, "east", 0, 0) }},
		{kinds[1], "AddClass", func(c impl.Cluster, name string) impl.ClusterOut { return impl.AddClass(c, emptyClass(name)) }},
		{kinds[2], "AddVolume", func(c impl.Cluster, name string) impl.ClusterOut { return impl.AddVolume(c, freeVolume(name)) }},
		{kinds[3], "AddClaim", func(c impl.Cluster, name string) impl.ClusterOut { return impl.AddClaim(c, freeClaim(name)) }},
		{kinds[4], "AddPod", func(c impl.Cluster, name string) impl.ClusterOut { return impl.AddPod(c, emptyPod(name)) }},
	}
}

// Promise 6: what is added stands in its place, beside what was there.
func TestAddedInPlace(t *testing.T) {
	names := []string{"a", "a0", "a_", "aa", "b", longName}
	slices.Sort(names)
	for _, a := range adders() {
		wantBecomes(t, a.call+" to nothing", a.add(a.fill(nil), "a"), a.fill([]string{"a"}))
		for count := 1; count <= len(names); count++ {
			for at := range count {
				others := slices.Delete(slices.Clone(names[:count]), at, at+1)
				wantBecomes(t, a.call+" "+names[at], a.add(a.fill(others), names[at]), a.fill(names[:count]))
			}
		}
	}
}

func TestAddedToTheLast(t *testing.T) {
	for _, a := range adders() {
		names := append(nameRow(a.most), "zz")
		wantBecomes(t, a.call+", as the last that may be", a.add(a.fill(names[:a.most-1]), names[a.most-1]), a.fill(names[:a.most]))
		full := a.fill(names[:a.most])
		for _, name := range []string{"zz", "a", names[0] + "0"} {
			wantRefused(t, a.call+", one too many", a.add(full, name), impl.ErrFull)
		}
		for _, name := range names[:a.most] {
			wantRefused(t, a.call+", one too many, of a name that is there", a.add(full, name), impl.ErrThere)
			wantRefused(t, a.call+", of a name that is there", a.add(a.fill([]string{name}), name), impl.ErrThere)
		}
	}
}

// A name of another kind is not in the way.
func TestAddedBesideOtherKinds(t *testing.T) {
	c := workCluster()
	c.Classes = append(c.Classes, impl.Class{Name: "z"})
	names := slices.Concat(namesOf(c.Nodes, nodeName), namesOf(c.Classes, className), namesOf(c.Volumes, volumeName), namesOf(c.Claims, claimName), namesOf(c.Pods, podName))
	for _, a := range adders() {
		for _, name := range names {
			got := a.add(c, name)
			if slices.Contains(a.names(c), name) {
				wantRefused(t, a.call+" "+name, got, impl.ErrThere)
			} else if got.Code != impl.OK || !slices.Contains(a.names(got.Cluster), name) || !impl.ClusterRight(got.Cluster) {
				t.Errorf("%s %s: got %s", a.call, name, shown(got))
			}
		}
	}
}

func TestAddedToWrongClusters(t *testing.T) {
	for _, a := range adders() {
		for _, c := range wrongClusters() {
			for _, name := range []string{"a", "n1", "fast", "v1", "c1", "p1", "", "A", longName + "a"} {
				wantRefused(t, a.call+" to a wrong cluster", a.add(c, name), impl.ErrForm)
			}
		}
		for _, name := range []string{"", "A", "_a", "0a", "a b", "a\n", "-", "\xff", longName + "a", strings.Repeat("a", impl.MaxBytes)} {
			wantRefused(t, a.call+" of no name", a.add(workCluster(), name), impl.ErrForm)
			wantRefused(t, a.call+" of no name to a full row", a.add(a.fill(nameRow(a.most)), name), impl.ErrForm)
		}
	}
}

func TestAddNode(t *testing.T) {
	c := workCluster()
	want := func(name string, zone string, cpu int64, slots int64) {
		t.Helper()
		wantBecomes(t, "AddNode "+name, impl.AddNode(c, name, zone, cpu, slots), changedTo(c, func(c *impl.Cluster) {
			c.Nodes = append(c.Nodes, impl.Node{Name: name, Zone: zone, Cpu: cpu, Slots: slots})
		}))
	}
	for _, cpu := range []int64{0, 1, 999999, 1000000} {
		for _, slots := range []int64{0, 1, 7, 8} {
			want("n4", "east", cpu, slots)
			want("zz", longName, cpu, slots)
			wantRefused(t, "AddNode n1", impl.AddNode(c, "n1", "east", cpu, slots), impl.ErrThere)
		}
	}
	form := func(name string, zone string, cpu int64, slots int64) {
		t.Helper()
		for _, c := range []impl.Cluster{c, {}, {Nodes: filled(nameRow(6), emptyNode)}, wrongClusters()[0]} {
			wantRefused(t, "AddNode", impl.AddNode(c, name, zone, cpu, slots), impl.ErrForm)
		}
	}
	for _, name := range []string{"n4", "n1"} {
		for _, cpu := range []int64{-1, 1000001, math.MinInt64, math.MaxInt64, 1 << 32} {
			form(name, "east", cpu, 1)
		}
		for _, slots := range []int64{-1, 9, math.MinInt64, math.MaxInt64, 1 << 32} {
			form(name, "east", 1, slots)
		}
		for _, zone := range append(noZones(), "") {
			form(name, zone, 1, 1)
		}
	}
}

// Texts that are too long are seen ahead of all else.
func TestAddNodeOfLongTexts(t *testing.T) {
	for _, c := range append(wrongClusters(), workCluster(), impl.Cluster{}, impl.Cluster{Nodes: filled(nameRow(6), emptyNode)}) {
		for _, numbers := range [][2]int64{{1, 1}, {-1, 1}, {1, 9}} {
			for _, other := range []string{"n1", "", "-", strings.Repeat("a", impl.MaxBytes), overlong()} {
				wantRefused(t, "AddNode, name too long", impl.AddNode(c, overlong(), other, numbers[0], numbers[1]), impl.ErrSize)
				wantRefused(t, "AddNode, zone too long", impl.AddNode(c, other, overlong(), numbers[0], numbers[1]), impl.ErrSize)
			}
		}
	}
}

func TestAddClass(t *testing.T) {
	for _, wait := range []bool{false, true} {
		for _, keep := range []bool{false, true} {
			for _, zone := range []string{"", "east", "nowhere"} {
				k := impl.Class{Name: "z", Wait: wait, Keep: keep, Zone: zone}
				wantBecomes(t, "AddClass z", impl.AddClass(workCluster(), k), changedTo(workCluster(), func(c *impl.Cluster) { c.Classes = append(c.Classes, k) }))
			}
		}
	}
	full := impl.Cluster{Classes: filled(nameRow(8), emptyClass)}
	for _, k := range wrongClasses() {
		for _, c := range append(wrongClusters(), workCluster(), impl.Cluster{}, full) {
			wantRefused(t, "AddClass of a wrong one", impl.AddClass(c, k), impl.ErrForm)
		}
	}
	// As a field of something, a text that is too long is just no name.
	wantRefused(t, "AddClass of a long Name", impl.AddClass(workCluster(), impl.Class{Name: overlong()}), impl.ErrForm)
	wantRefused(t, "AddClass of a long Zone", impl.AddClass(workCluster(), impl.Class{Name: "z", Zone: overlong()}), impl.ErrForm)
}

func TestAddVolume(t *testing.T) {
	c := workCluster()
	for _, v := range []impl.Volume{
		{Name: "z", Size: 1, Zone: "east", Class: "fast"},
		{Name: "z", Size: 1048576, Zone: "nowhere", Class: "keep", Single: true},
		{Name: "az", Size: 5, Zone: "east", Class: "slow", On: []string{}},
	} {
		want := changedTo(c, func(c *impl.Cluster) {
			c.Volumes = append(c.Volumes, v)
			slices.SortFunc(c.Volumes, func(a impl.Volume, b impl.Volume) int { return strings.Compare(a.Name, b.Name) })
		})
		wantBecomes(t, "AddVolume "+v.Name, impl.AddVolume(c, v), want)
	}
	full := changedTo(c, func(c *impl.Cluster) {
		c.Volumes = append(c.Volumes, filled([]string{"w1", "w2", "w3"}, freeVolume)...)
	})
	// One that has a Claim, is Spent, or On a Node is refused, as one that is not right is; ahead of all but a wrong cluster.
	wrong := append(wrongDisks(), freeDisk(), freeDisk(), freeDisk(), freeDisk(), freeDisk())
	last := wrong[len(wrong)-5:]
	last[0].Claim = "c1"
	last[1].Claim = "nobody"
	last[2].Spent = true
	last[3].On = []string{"n2"}
	last[4].Single, last[4].On = false, []string{"n1", "n9"}
	for _, v := range wrong {
		for _, name := range []string{v.Name, "v1"} {
			for _, class := range []string{v.Class, "none"} {
				v := with(v, func(v *impl.Volume) { v.Name, v.Class = name, class })
				if impl.VolumeRight(v) && v.Claim == "" && !v.Spent && len(v.On) == 0 {
					continue
				}
				for _, c := range []impl.Cluster{c, full, {}, wrongClusters()[0]} {
					wantRefused(t, "AddVolume of a wrong one", impl.AddVolume(c, v), impl.ErrForm)
				}
			}
		}
	}
}

func TestAddClaim(t *testing.T) {
	c := workCluster()
	for _, x := range []impl.Claim{
		{Name: "z", Size: 1, Class: "fast"},
		{Name: "z", Size: 1048576, Class: "slow", Single: true},
		{Name: "c6", Size: 4, Class: "fast", Single: true},
	} {
		wantBecomes(t, "AddClaim "+x.Name, impl.AddClaim(c, x), changedTo(c, func(c *impl.Cluster) { c.Claims = append(c.Claims, x) }))
	}
	full := impl.Cluster{Classes: []impl.Class{{Name: "fast"}}, Claims: filled(nameRow(8), freeClaim)}
	wrong := wrongClaims()
	for _, volume := range []string{"v1", "v4", "nowhere"} {
		for _, name := range []string{"z", "c1"} {
			for _, class := range []string{"fast", "none"} {
				wrong = append(wrong, impl.Claim{Name: name, Size: 3, Class: class, Single: true, Volume: volume})
			}
		}
	}
	for _, x := range wrong {
		for _, c := range []impl.Cluster{c, full, {}, wrongClusters()[0]} {
			wantRefused(t, "AddClaim of a wrong one", impl.AddClaim(c, x), impl.ErrForm)
		}
	}
}

// wrongPods: pods that are not right, or not PhPending, each by one fault.
func wrongPods() []impl.Pod {
	var out []impl.Pod
	for _, change := range []func(*impl.Pod){
		func(p *impl.Pod) { p.Name = "" },
		func(p *impl.Pod) { p.Name = "P" },
		func(p *impl.Pod) { p.Name = overlong() },
		func(p *impl.Pod) { p.Cpu = -1 },
		func(p *impl.Pod) { p.Cpu = 1000001 },
		func(p *impl.Pod) { p.Zone = "-" },
		func(p *impl.Pod) { p.Claims = []string{"c2", "c1"} },
		func(p *impl.Pod) { p.Claims = []string{"c1", "c1"} },
		func(p *impl.Pod) { p.Claims = []string{"c1", "c2", "c3", "c4"} },
		func(p *impl.Pod) { p.Claims = []string{""} },
		func(p *impl.Pod) { p.Claims = nameRow(impl.MaxList + 1) },
		func(p *impl.Pod) { p.Node = "n1" },
		func(p *impl.Pod) { p.Phase = impl.PhPlaced },
		func(p *impl.Pod) { p.Phase = impl.PhRunning },
		func(p *impl.Pod) { p.Phase = 3 },
		func(p *impl.Pod) { p.Phase, p.Node = impl.PhPlaced, "n1" },
		func(p *impl.Pod) { p.Phase, p.Node, p.Claims = impl.PhRunning, "n1", nil },
		func(p *impl.Pod) { p.Phase, p.Node, p.Claims = impl.PhPlaced, "n9", []string{"c9"} },
	} {
		out = append(out, with(impl.Pod{Name: "q", Claims: []string{"c1", "c2"}}, change))
	}
	return out
}

func TestAddPod(t *testing.T) {
	c := workCluster()
	for _, p := range []impl.Pod{
		{Name: "z"},
		{Name: "z", Cpu: 1000000, Zone: "nowhere", Claims: []string{}},
		{Name: "p6", Cpu: 1, Zone: "east", Claims: []string{"c1"}},
		{Name: "p6", Claims: []string{"c1", "c3", "c5"}},
		{Name: "p6", Claims: []string{"c2", "c4"}},
	} {
		wantBecomes(t, "AddPod "+p.Name, impl.AddPod(c, p), changedTo(c, func(c *impl.Cluster) { c.Pods = append(c.Pods, p) }))
	}
	full := impl.Cluster{Pods: filled(nameRow(8), emptyPod)}
	for _, p := range wrongPods() {
		for _, c := range []impl.Cluster{c, full, {}, wrongClusters()[0]} {
			wantRefused(t, "AddPod of a wrong one", impl.AddPod(c, p), impl.ErrForm)
		}
		if impl.NameRight(p.Name) {
			wantRefused(t, "AddPod of a wrong one, its name there", impl.AddPod(c, with(p, func(p *impl.Pod) { p.Name = "p1" })), impl.ErrForm)
		}
	}
}

// lack is an addition that names what is not there.
type lack struct {
	what string
	add  func(c impl.Cluster, name string) impl.ClusterOut
}

func volumeLack(class string) lack {
	return lack{"a Volume of the Class " + class, func(c impl.Cluster, name string) impl.ClusterOut {
		return impl.AddVolume(c, impl.Volume{Name: name, Size: 1, Zone: "east", Class: class})
	}}
}

func claimLack(class string) lack {
	return lack{"a Claim of the Class " + class, func(c impl.Cluster, name string) impl.ClusterOut {
		return impl.AddClaim(c, impl.Claim{Name: name, Size: 1, Class: class})
	}}
}

func podLack(claims ...string) lack {
	return lack{"a Pod of the Claims " + strings.Join(claims, " "), func(c impl.Cluster, name string) impl.ClusterOut {
		return impl.AddPod(c, impl.Pod{Name: name, Claims: claims})
	}}
}

// What an addition names must be there; that is seen last.
func TestAddedWithoutWhatTheyName(t *testing.T) {
	c := workCluster()
	lacks := []lack{podLack("c9"), podLack("c0"), podLack("c"), podLack("v1"), podLack("c0", "c1", "c2"), podLack("c1", "c2", "c6"), podLack("c1", "c11", "c2")}
	for _, class := range []string{"none", "fas", "fast0", "a", "zz", "c1", "v1", longName} {
		lacks = append(lacks, volumeLack(class), claimLack(class))
	}
	full := changedTo(c, func(c *impl.Cluster) {
		c.Volumes = append(c.Volumes, filled([]string{"w1", "w2", "w3"}, freeVolume)...)
		c.Claims = append(c.Claims, filled([]string{"d1", "d2", "d3"}, freeClaim)...)
		c.Pods = append(c.Pods, filled([]string{"q1", "q2", "q3"}, emptyPod)...)
	})
	there := changedTo(full, func(c *impl.Cluster) {
		c.Volumes[7].Name, c.Claims[7].Name, c.Pods[7].Name = "z1", "z1", "z1"
	})
	wantRight(t, "a full one", full, true)
	wantRight(t, "a full one with that name", there, true)
	for _, x := range lacks {
		wantRefused(t, x.what, x.add(c, "z1"), impl.ErrNone)
		wantRefused(t, x.what+", to a full row", x.add(full, "z1"), impl.ErrFull)
		wantRefused(t, x.what+", its name there", x.add(there, "z1"), impl.ErrThere)
		wantRefused(t, x.what+", to a wrong cluster", x.add(wrongClusters()[1], "z1"), impl.ErrForm)
		wantRefused(t, x.what+", without a name", x.add(c, "Z"), impl.ErrForm)
	}
}

func TestWrongClusters(t *testing.T) {
	for _, c := range wrongClusters() {
		if why := broken(c); why == "" || strings.Contains(why, ",") {
			t.Errorf("meant to be wrong by one fault: %q, %s", why, shown(c))
		}
		wantRight(t, "a wrong one", c, false)
	}
}
