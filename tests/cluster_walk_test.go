package tests

import (
	"fmt"
	"slices"
	"testing"

	"loop.example/g00571/impl"
)

// move is a call of chapter 6, and what it ought to do by the document's words alone.
type move struct {
	what string
	do   func(c impl.Cluster) impl.ClusterOut
	want func(c impl.Cluster) (impl.Cluster, int64)
}

// sorted: the list in the order of its names.
func sorted[T any](list []T, name func(T) string) []T {
	out := slices.Clone(list)
	slices.SortFunc(out, func(a T, b T) int {
		if name(a) < name(b) {
			return -1
		}
		return 1
	})
	return out
}

// addition: what adding one of that name to those names does.
func addition(c impl.Cluster, right bool, names []string, name string, most int, missing bool, put func(*impl.Cluster)) (impl.Cluster, int64) {
	switch {
	case broken(c) != "" || !right:
		return impl.Cluster{}, impl.ErrForm
	case slices.Contains(names, name):
		return impl.Cluster{}, impl.ErrThere
	case len(names) >= most:
		return impl.Cluster{}, impl.ErrFull
	case missing:
		return impl.Cluster{}, impl.ErrNone
	}
	return changedTo(c, put), impl.OK
}

func nodeMove(n impl.Node) move {
	return move{fmt.Sprintf("AddNode %+v", n), func(c impl.Cluster) impl.ClusterOut { return impl.AddNode(c, n.Name, n.Zone, n.Cpu, n.Slots) },
		func(c impl.Cluster) (impl.Cluster, int64) {
			return addition(c, impl.NodeRight(n), namesOf(c.Nodes, nodeName), n.Name, 6, false, func(c *impl.Cluster) {
				c.Nodes = sorted(append(c.Nodes, n), nodeName)
			})
		}}
}

func classMove(k impl.Class) move {
	return move{fmt.Sprintf("AddClass %+v", k), func(c impl.Cluster) impl.ClusterOut { return impl.AddClass(c, k) },
		func(c impl.Cluster) (impl.Cluster, int64) {
			return addition(c, impl.ClassRight(k), namesOf(c.Classes, className), k.Name, 8, false, func(c *impl.Cluster) {
				c.Classes = sorted(append(c.Classes, k), className)
			})
		}}
}

func volumeMove(v impl.Volume) move {
	return move{fmt.Sprintf("AddVolume %+v", v), func(c impl.Cluster) impl.ClusterOut { return impl.AddVolume(c, v) },
		func(c impl.Cluster) (impl.Cluster, int64) {
			right := impl.VolumeRight(v) && v.Claim == "" && !v.Spent && len(v.On) == 0
			missing := !slices.Contains(namesOf(c.Classes, className), v.Class)
			return addition(c, right, namesOf(c.Volumes, volumeName), v.Name, 8, missing, func(c *impl.Cluster) {
				c.Volumes = sorted(append(c.Volumes, v), volumeName)
			})
		}}
}

func claimMove(x impl.Claim) move {
	return move{fmt.Sprintf("AddClaim %+v", x), func(c impl.Cluster) impl.ClusterOut { return impl.AddClaim(c, x) },
		func(c impl.Cluster) (impl.Cluster, int64) {
			missing := !slices.Contains(namesOf(c.Classes, className), x.Class)
			return addition(c, impl.ClaimRight(x) && x.Volume == "", namesOf(c.Claims, claimName), x.Name, 8, missing, func(c *impl.Cluster) {
				c.Claims = sorted(append(c.Claims, x), claimName)
			})
		}}
}

func podMove(p impl.Pod) move {
	return move{fmt.Sprintf("AddPod %+v", p), func(c impl.Cluster) impl.ClusterOut { return impl.AddPod(c, p) },
		func(c impl.Cluster) (impl.Cluster, int64) {
			there := namesOf(c.Claims, claimName)
			missing := !each(p.Claims, func(name string) bool { return slices.Contains(there, name) })
			return addition(c, impl.PodRight(p) && p.Phase == impl.PhPending, namesOf(c.Pods, podName), p.Name, 8, missing, func(c *impl.Cluster) {
				c.Pods = sorted(append(c.Pods, p), podName)
			})
		}}
}

// removal: what dropping does.
func removal(c impl.Cluster, names []string, name string, used bool, take func(*impl.Cluster)) (impl.Cluster, int64) {
	switch {
	case broken(c) != "":
		return impl.Cluster{}, impl.ErrForm
	case !slices.Contains(names, name):
		return impl.Cluster{}, impl.ErrNone
	case used:
		return impl.Cluster{}, impl.ErrWait
	}
	return changedTo(c, take), impl.OK
}

// attached: is the Volume of that name On a Node, or mounted?
func attached(c impl.Cluster, name string) bool {
	return slices.ContainsFunc(c.Nodes, func(n impl.Node) bool { return slices.Contains(n.Mounts, name) }) ||
		slices.ContainsFunc(c.Volumes, func(v impl.Volume) bool { return v.Name == name && len(v.On) > 0 })
}

// without: all but those of that name.
func without[T any](list []T, name string, called func(T) string) []T {
	return slices.DeleteFunc(slices.Clone(list), func(x T) bool { return called(x) == name })
}

func podDrop(name string) move {
	return move{"DropPod " + name, func(c impl.Cluster) impl.ClusterOut { return impl.DropPod(c, name) },
		func(c impl.Cluster) (impl.Cluster, int64) {
			return removal(c, namesOf(c.Pods, podName), name, false, func(c *impl.Cluster) { c.Pods = without(c.Pods, name, podName) })
		}}
}

func claimDrop(name string) move {
	return move{"DropClaim " + name, func(c impl.Cluster) impl.ClusterOut { return impl.DropClaim(c, name) },
		func(c impl.Cluster) (impl.Cluster, int64) {
			w := viewOf(c)
			v, bound := w.volumes[w.claims[name].Volume]
			used := bound && attached(c, v.Name) || slices.ContainsFunc(c.Pods, func(p impl.Pod) bool { return slices.Contains(p.Claims, name) })
			return removal(c, namesOf(c.Claims, claimName), name, used, func(c *impl.Cluster) {
				c.Claims = without(c.Claims, name, claimName)
				if bound {
					c.Volumes = without(c.Volumes, v.Name, volumeName)
				}
				if bound && w.classes[v.Class].Keep {
					v.Claim, v.Spent = "", true
					c.Volumes = sorted(append(c.Volumes, v), volumeName)
				}
			})
		}}
}

func volumeDrop(name string) move {
	return move{"DropVolume " + name, func(c impl.Cluster) impl.ClusterOut { return impl.DropVolume(c, name) },
		func(c impl.Cluster) (impl.Cluster, int64) {
			used := attached(c, name) || viewOf(c).volumes[name].Claim != ""
			return removal(c, namesOf(c.Volumes, volumeName), name, used, func(c *impl.Cluster) { c.Volumes = without(c.Volumes, name, volumeName) })
		}}
}

// check: does the call do what it ought to? What is the cluster then?
func (m move) check(t *testing.T, c impl.Cluster) impl.Cluster {
	t.Helper()
	want, code := m.want(c)
	got := m.do(c)
	if code != impl.OK {
		wantRefused(t, m.what, got, code)
		return c
	}
	wantBecomes(t, m.what, got, want)
	return want
}

// dice makes choices, the same in every run.
type dice struct {
	state uint64
}

// roll: a number from 0 to below most.
func (d *dice) roll(most int) int {
	d.state ^= d.state << 13
	d.state ^= d.state >> 7
	d.state ^= d.state << 17
	return int((d.state >> 33) % uint64(most))
}

// word: one of the words.
func (d *dice) word(words ...string) string {
	return words[d.roll(len(words))]
}

// flip: yes or no.
func (d *dice) flip() bool {
	return d.roll(2) == 0
}

// few: some of the words, in their order.
func (d *dice) few(words ...string) []string {
	var out []string
	for _, word := range words {
		if d.roll(3) == 0 {
			out = append(out, word)
		}
	}
	return out
}

func (d *dice) nodeName() string   { return d.word("n1", "n2", "n3", "n4") }
func (d *dice) className() string  { return d.word("fast", "keep", "slow", "none") }
func (d *dice) volumeName() string { return d.word("v0", "v1", "v2", "v3", "v4", "v5", "v6") }
func (d *dice) claimName() string  { return d.word("c0", "c1", "c2", "c3", "c4", "c5", "c6") }
func (d *dice) podName() string    { return d.word("p0", "p1", "p2", "p3", "p4", "p5", "p6") }
func (d *dice) zone() string       { return d.word("east", "east", "west") }

// move: any call, mostly one that may do something.
func (d *dice) move() move {
	single := d.flip()
	switch d.roll(8) {
	case 0:
		return nodeMove(impl.Node{Name: d.word("n0", "n1", "n4", "n5", "N"), Zone: d.zone(), Cpu: int64(d.roll(3) * 500), Slots: int64(d.roll(10))})
	case 1:
		return classMove(impl.Class{Name: d.word("a", "fast", "m", "zz", ""), Wait: single, Keep: d.flip(), Zone: d.word("", "east", "-")})
	case 2:
		v := impl.Volume{Name: d.volumeName(), Size: int64(d.roll(9)), Zone: d.zone(), Class: d.className(), Single: single, Spent: d.roll(9) == 0}
		return volumeMove(v)
	case 3:
		return claimMove(impl.Claim{Name: d.claimName(), Size: int64(d.roll(9)), Class: d.className(), Single: single})
	case 4:
		return podMove(impl.Pod{Name: d.podName(), Cpu: int64(d.roll(900)), Claims: d.few("c0", "c1", "c2", "c4", "c6")})
	case 5:
		return podDrop(d.podName())
	case 6:
		return claimDrop(d.claimName())
	}
	return volumeDrop(d.volumeName())
}

// pick changes one of the list, if there is any.
func pick[T any](d *dice, list []T, change func(*T)) {
	if len(list) > 0 {
		change(&list[d.roll(len(list))])
	}
}

// shake changes something of the cluster that has to do with something else.
func (d *dice) shake(c *impl.Cluster) {
	switch d.roll(14) {
	case 0:
		pick(d, c.Nodes, func(n *impl.Node) { n.Dead = !n.Dead })
	case 1:
		pick(d, c.Nodes, func(n *impl.Node) { n.Mounts = d.few("v1", "v2", "v3", "v4", "v5") })
	case 2:
		pick(d, c.Nodes, func(n *impl.Node) { n.Slots, n.Cpu = int64(d.roll(4)), int64(d.roll(4)*400) })
	case 3:
		pick(d, c.Nodes, func(n *impl.Node) { n.Zone = d.zone() })
	case 4:
		pick(d, c.Volumes, func(v *impl.Volume) { v.On = d.few("n1", "n2", "n3", "n4") })
	case 5:
		pick(d, c.Volumes, func(v *impl.Volume) { v.Single, v.Size = d.flip(), int64(3+d.roll(6)) })
	case 6:
		pick(d, c.Volumes, func(v *impl.Volume) { v.Class, v.Zone = d.className(), d.zone() })
	case 7:
		pick(d, c.Claims, func(x *impl.Claim) { x.Volume = d.volumeName() })
	case 8:
		pick(d, c.Claims, func(x *impl.Claim) {
			pick(d, c.Volumes, func(v *impl.Volume) {
				x.Volume, v.Claim, v.Spent = v.Name, x.Name, false
				x.Class, x.Single, x.Size = v.Class, v.Single, max(1, v.Size-int64(d.roll(2)))
			})
		})
	case 9:
		pick(d, c.Volumes, func(v *impl.Volume) { v.Claim = d.word("", d.claimName()) })
	case 10:
		pick(d, c.Pods, func(p *impl.Pod) { p.Node, p.Phase = "", impl.PhPending })
	case 11:
		pick(d, c.Pods, func(p *impl.Pod) { p.Node, p.Phase = d.nodeName(), int64(1+d.roll(2)) })
	case 12:
		pick(d, c.Pods, func(p *impl.Pod) { p.Claims = d.few("c1", "c2", "c3", "c4", "c5") })
	case 13:
		pick(d, c.Pods, func(p *impl.Pod) { p.Cpu, p.Zone = int64(d.roll(3)*200), d.word("", d.zone()) })
	}
}

// Promises 6 and 7, and what a right cluster is, wherever many small changes lead to.
func TestManyClusters(t *testing.T) {
	d := &dice{88172645463325252}
	seen := map[string]int{}
	for _, start := range []func() impl.Cluster{workCluster, restCluster, impl.DeskCluster} {
		c := start()
		for step := range 12000 {
			if step%500 == 0 {
				c = start()
			}
			next := deepCopy(c)
			for range 1 + d.roll(3) {
				d.shake(&next)
			}
			why := broken(next)
			wantRight(t, "a cluster that breaks "+why, next, why == "")
			seen[why]++
			d.move().check(t, next)
			if why == "" {
				c = next
			}
			c = d.move().check(t, c)
			if t.Failed() {
				t.Fatalf("at step %d", step)
			}
		}
	}
	// Each sentence was broken alone at some time: else this tells nothing of it.
	for _, s := range slices.Concat(boundSentences(), placedSentences(), attachedSentences(), mountedSentences()) {
		if seen[s.what] == 0 && s.what != "mounted once" {
			t.Errorf("%q was never broken alone", s.what)
		}
	}
	if seen[""] == 0 {
		t.Errorf("no cluster was right")
	}
}

// memoryMoves: calls of every kind that do something to workCluster or restCluster, or are refused.
func memoryMoves() []move {
	v := freeVolume("v9")
	v.On = roomy(v.On, "left")
	return []move{
		nodeMove(emptyNode("n0")), nodeMove(emptyNode("n9")), nodeMove(emptyNode("n1")), nodeMove(impl.Node{}),
		classMove(emptyClass("a")), classMove(emptyClass("zz")), classMove(emptyClass("fast")), classMove(impl.Class{}),
		volumeMove(v), volumeMove(freeVolume("a")), volumeMove(freeVolume("v1")), volumeMove(impl.Volume{}),
		volumeMove(with(v, func(v *impl.Volume) { v.Class = "none" })), volumeMove(with(v, func(v *impl.Volume) { v.On = v.On[:1] })),
		claimMove(freeClaim("a")), claimMove(freeClaim("zz")), claimMove(freeClaim("c1")), claimMove(impl.Claim{}),
		podMove(impl.Pod{Name: "a", Claims: []string{"c1", "c2"}}), podMove(impl.Pod{Name: "zz", Claims: roomy([]string{"c3"}, "left")}),
		podMove(impl.Pod{Name: "zz", Claims: roomy([]string{}, "left")}), podMove(impl.Pod{Name: "zz", Claims: []string{"c1", "c9"}}),
		podMove(impl.Pod{Name: "p1"}), podMove(impl.Pod{}),
		podDrop("p1"), podDrop("p3"), podDrop("p9"), podDrop(""),
		claimDrop("c1"), claimDrop("c2"), claimDrop("c3"), claimDrop("c4"), claimDrop("c9"),
		volumeDrop("v1"), volumeDrop("v3"), volumeDrop("v4"), volumeDrop("v5"), volumeDrop("v9"),
	}
}

// No call changes what it was handed, at any depth, nor what stands behind the ends of its lists; its answer is new memory.
func TestClustersAreNotChanged(t *testing.T) {
	for _, start := range append(wrongClusters(), workCluster(), restCluster(), alikeCluster(), impl.Cluster{}) {
		c := roomyCluster(start)
		before := unfolded(c)
		impl.ClusterRight(c)
		for _, m := range memoryMoves() {
			out := m.do(c)
			if !sameCluster(unfolded(c), before) {
				t.Fatalf("%s: what was handed in got %s, want %s", m.what, shown(unfolded(c)), shown(before))
			}
			wantApart(t, m.what, out.Cluster, stretches(c))
		}
		if !sameCluster(unfolded(c), before) {
			t.Fatalf("ClusterRight: what was handed in got %s, want %s", shown(unfolded(c)), shown(before))
		}
	}
}

// The lists of what is added are not changed, nor handed back.
func TestAddedThingsAreNotChanged(t *testing.T) {
	for _, claims := range [][]string{{"c1", "c2"}, {"c1", "c9"}, {"c2", "c1"}, {}} {
		p := impl.Pod{Name: "zz", Claims: roomy(claims, "left")}
		before := slices.Clone(whole(p.Claims))
		out := impl.AddPod(workCluster(), p)
		if !slices.Equal(whole(p.Claims), before) {
			t.Errorf("AddPod: the Claims got %q, want %q", whole(p.Claims), before)
		}
		wantApart(t, "AddPod", out.Cluster, []stretch{stretchOf("the Pod's Claims", p.Claims)})
	}
	for _, nodes := range [][]string{{}, {"n1"}, {"n2", "n1"}} {
		v := freeVolume("zz")
		v.On = roomy(nodes, "left")
		before := slices.Clone(whole(v.On))
		out := impl.AddVolume(workCluster(), v)
		if !slices.Equal(whole(v.On), before) {
			t.Errorf("AddVolume: the Nodes got %q, want %q", whole(v.On), before)
		}
		wantApart(t, "AddVolume", out.Cluster, []stretch{stretchOf("the Volume's On", v.On)})
	}
}

// An answer stays what it was when what was handed in is written over, and the other way round; nothing is kept.
func TestClustersAreNotKept(t *testing.T) {
	for _, start := range []func() impl.Cluster{workCluster, restCluster} {
		for _, m := range memoryMoves() {
			want, code := m.want(start())
			c := start()
			out := m.do(c)
			scribble(c)
			if got := out.Cluster; out.Code != code || !sameCluster(got, want) {
				t.Errorf("%s, then what was handed in was written over: got code %d, %s, want code %d, %s", m.what, out.Code, shown(got), code, shown(want))
			}
			c = start()
			scribble(m.do(c).Cluster)
			if !sameCluster(c, start()) {
				t.Errorf("%s, then the answer was written over: what was handed in got %s", m.what, shown(c))
			}
			m.check(t, c)
		}
	}
}

// scribble writes over all of the cluster's memory.
func scribble(c impl.Cluster) {
	for _, n := range whole(c.Nodes) {
		spoil(n.Mounts, "spoilt")
	}
	for _, v := range whole(c.Volumes) {
		spoil(v.On, "spoilt")
	}
	for _, p := range whole(c.Pods) {
		spoil(p.Claims, "spoilt")
	}
	spoil(c.Nodes, impl.Node{Name: "spoilt"})
	spoil(c.Classes, impl.Class{Name: "spoilt"})
	spoil(c.Volumes, impl.Volume{Name: "spoilt"})
	spoil(c.Claims, impl.Claim{Name: "spoilt"})
	spoil(c.Pods, impl.Pod{Name: "spoilt"})
}

func spoil[T any](list []T, with T) {
	for i := range whole(list) {
		whole(list)[i] = with
	}
}
