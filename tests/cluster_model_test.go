package tests

import (
	"fmt"
	"reflect"
	"slices"
	"strings"
	"testing"
	"unsafe"

	"loop.example/g00571/impl"
)

// workCluster: a right cluster in which each sentence of chapter 6 has something to say.
func workCluster() impl.Cluster {
	return impl.Cluster{
		Nodes: []impl.Node{
			{Name: "n1", Zone: "east", Cpu: 1000, Slots: 2, Until: 30, Mounts: []string{"v1", "v2"}},
			{Name: "n2", Zone: "east", Cpu: 1000, Slots: 2, Mounts: []string{"v2"}},
			{Name: "n3", Zone: "west", Cpu: 1000, Slots: 1, Until: 12, Dead: true, Mounts: []string{"v3"}},
		},
		Classes: []impl.Class{{Name: "fast", Zone: "east"}, {Name: "keep", Keep: true}, {Name: "slow", Wait: true}},
		Volumes: []impl.Volume{
			{Name: "v1", Size: 5, Zone: "east", Class: "fast", Single: true, Claim: "c1", On: []string{"n1"}},
			{Name: "v2", Size: 9, Zone: "east", Class: "keep", Claim: "c2", On: []string{"n1", "n2"}},
			{Name: "v3", Size: 7, Zone: "west", Class: "slow", Single: true, Claim: "c3"},
			{Name: "v4", Size: 4, Zone: "east", Class: "fast", Single: true},
			{Name: "v5", Size: 4, Zone: "west", Class: "keep", Spent: true},
		},
		Claims: []impl.Claim{
			{Name: "c1", Size: 5, Class: "fast", Single: true, Volume: "v1"},
			{Name: "c2", Size: 8, Class: "keep", Volume: "v2"},
			{Name: "c3", Size: 7, Class: "slow", Single: true, Volume: "v3"},
			{Name: "c4", Size: 3, Class: "fast", Single: true},
			{Name: "c5", Size: 3, Class: "keep"},
		},
		Pods: []impl.Pod{
			{Name: "p1", Cpu: 600, Claims: []string{"c1", "c2"}, Node: "n1", Phase: impl.PhRunning},
			{Name: "p2", Cpu: 400, Zone: "east", Claims: []string{"c1"}, Node: "n1", Phase: impl.PhPlaced},
			{Name: "p3", Cpu: 1000, Zone: "east", Claims: []string{"c2"}, Node: "n2", Phase: impl.PhRunning},
			{Name: "p4", Cpu: 500, Zone: "west", Claims: []string{"c3"}, Node: "n3", Phase: impl.PhPlaced},
			{Name: "p5", Cpu: 100, Zone: "north", Claims: []string{"c1", "c4", "c5"}},
		},
		Now: 25,
	}
}

// deepCopy: the cluster with lists of its own; what is empty is nothing at all, for the two are the same.
func deepCopy(c impl.Cluster) impl.Cluster {
	out := impl.Cluster{Now: c.Now}
	for _, n := range c.Nodes {
		n.Mounts = append([]string(nil), n.Mounts...)
		out.Nodes = append(out.Nodes, n)
	}
	out.Classes = append(out.Classes, c.Classes...)
	for _, v := range c.Volumes {
		v.On = append([]string(nil), v.On...)
		out.Volumes = append(out.Volumes, v)
	}
	out.Claims = append(out.Claims, c.Claims...)
	for _, p := range c.Pods {
		p.Claims = append([]string(nil), p.Claims...)
		out.Pods = append(out.Pods, p)
	}
	return out
}

func sameCluster(a impl.Cluster, b impl.Cluster) bool {
	return reflect.DeepEqual(deepCopy(a), deepCopy(b))
}

// byName: what stands last for each name.
func byName[T any](list []T, name func(T) string) map[string]T {
	out := map[string]T{}
	for _, x := range list {
		out[name(x)] = x
	}
	return out
}

func nodeName(n impl.Node) string     { return n.Name }
func className(k impl.Class) string   { return k.Name }
func volumeName(v impl.Volume) string { return v.Name }
func claimName(x impl.Claim) string   { return x.Name }
func podName(p impl.Pod) string       { return p.Name }

func namesOf[T any](list []T, name func(T) string) []string {
	var out []string
	for _, x := range list {
		out = append(out, name(x))
	}
	return out
}

// view is a cluster as the second opinion looks at it.
type view struct {
	impl.Cluster
	nodes   map[string]impl.Node
	classes map[string]impl.Class
	volumes map[string]impl.Volume
	claims  map[string]impl.Claim
}

func viewOf(c impl.Cluster) view {
	return view{c, byName(c.Nodes, nodeName), byName(c.Classes, className), byName(c.Volumes, volumeName), byName(c.Claims, claimName)}
}

// each: does it hold for every one of the list?
func each[T any](list []T, holds func(T) bool) bool {
	return !slices.ContainsFunc(list, func(x T) bool { return !holds(x) })
}

// sentence is one of those that chapter 6 asks of a right cluster, worked out by its words alone.
type sentence struct {
	what  string
	holds func(view) bool
}

// sentences: all of them.
func sentences() []sentence {
	return slices.Concat(kindSentences(), boundSentences(), placedSentences(), attachedSentences(), mountedSentences())
}

// rowHolds: at most so many, all right, rising by name.
func rowHolds[T any](list []T, most int, right func(T) bool, name func(T) string) bool {
	names := namesOf(list, name)
	rising := slices.IsSorted(names) && len(slices.Compact(names)) == len(list)
	return len(list) <= most && rising && each(list, right)
}

func kindSentences() []sentence {
	return []sentence{
		{"now", func(w view) bool { return w.Now >= 0 && w.Now <= 1000000 }},
		{"nodes", func(w view) bool { return rowHolds(w.Nodes, 6, impl.NodeRight, nodeName) }},
		{"classes", func(w view) bool { return rowHolds(w.Classes, 8, impl.ClassRight, className) }},
		{"volumes", func(w view) bool { return rowHolds(w.Volumes, 8, impl.VolumeRight, volumeName) }},
		{"claims", func(w view) bool { return rowHolds(w.Claims, 8, impl.ClaimRight, claimName) }},
		{"pods", func(w view) bool { return rowHolds(w.Pods, 8, impl.PodRight, podName) }},
	}
}

func boundSentences() []sentence {
	return []sentence{
		{"volume's claim", func(w view) bool {
			return each(w.Volumes, func(v impl.Volume) bool {
				x, there := w.claims[v.Claim]
				return v.Claim == "" || there && x.Volume == v.Name
			})
		}},
		{"claim's volume", func(w view) bool {
			return each(w.Claims, func(x impl.Claim) bool {
				v, there := w.volumes[x.Volume]
				return x.Volume == "" || there && v.Claim == x.Name && v.Size >= x.Size && v.Class == x.Class && v.Single == x.Single
			})
		}},
		{"class there", func(w view) bool {
			for _, v := range w.Volumes {
				if _, there := w.classes[v.Class]; !there {
					return false
				}
			}
			for _, x := range w.Claims {
				if _, there := w.classes[x.Class]; !there {
					return false
				}
			}
			return true
		}},
	}
}

// eachPlaced: does it hold for every pod whose node is there, and that node?
func (w view) eachPlaced(holds func(impl.Pod, impl.Node) bool) bool {
	return each(w.Pods, func(p impl.Pod) bool {
		n, there := w.nodes[p.Node]
		return !there || holds(p, n)
	})
}

func placedSentences() []sentence {
	return []sentence{
		{"pod's claims", func(w view) bool {
			return each(w.Pods, func(p impl.Pod) bool {
				return each(p.Claims, func(name string) bool { return w.claims[name].Name == name })
			})
		}},
		{"pod's node", func(w view) bool {
			return each(w.Pods, func(p impl.Pod) bool { return p.Node == "" || w.nodes[p.Node].Name == p.Node })
		}},
		{"pod's zone", func(w view) bool {
			return w.eachPlaced(func(p impl.Pod, n impl.Node) bool { return p.Zone == "" || p.Zone == n.Zone })
		}},
		{"pod's disks bound", func(w view) bool {
			return each(w.Pods, func(p impl.Pod) bool {
				return p.Node == "" || each(p.Claims, func(name string) bool { return w.claims[name].Volume != "" })
			})
		}},
		{"pod's disks near", func(w view) bool {
			return w.eachPlaced(func(p impl.Pod, n impl.Node) bool {
				return each(p.Claims, func(name string) bool {
					v, there := w.volumes[w.claims[name].Volume]
					return !there || v.Zone == n.Zone
				})
			})
		}},
		{"cpu", func(w view) bool {
			left := map[string]int64{}
			for _, n := range w.Nodes {
				left[n.Name] = n.Cpu
			}
			return w.eachPlaced(func(p impl.Pod, n impl.Node) bool {
				left[n.Name] -= p.Cpu
				return left[n.Name] >= 0
			})
		}},
		{"one node", oneNodeHolds},
	}
}

// oneNodeHolds: no two placed pods of two nodes have one claim, to a single volume.
func oneNodeHolds(w view) bool {
	for _, p := range w.Pods {
		for _, q := range w.Pods {
			for _, name := range p.Claims {
				apart := p.Node != "" && q.Node != "" && p.Node != q.Node
				if apart && slices.Contains(q.Claims, name) && w.volumes[w.claims[name].Volume].Single {
					return false
				}
			}
		}
	}
	return true
}

func attachedSentences() []sentence {
	return []sentence{
		{"on nodes", func(w view) bool {
			return each(w.Volumes, func(v impl.Volume) bool {
				return each(v.On, func(name string) bool { return w.nodes[name].Name == name })
			})
		}},
		{"on its zone", func(w view) bool {
			return each(w.Volumes, func(v impl.Volume) bool {
				return each(v.On, func(name string) bool { return w.nodes[name].Name != name || w.nodes[name].Zone == v.Zone })
			})
		}},
		{"slots", func(w view) bool {
			taken := map[string]int64{}
			for _, v := range w.Volumes {
				for _, name := range v.On {
					taken[name]++
				}
			}
			return each(w.Nodes, func(n impl.Node) bool { return taken[n.Name] <= n.Slots })
		}},
	}
}

// eachMount: does it hold for every node and each of its mounts that is a volume?
func (w view) eachMount(holds func(impl.Node, impl.Volume) bool) bool {
	return each(w.Nodes, func(n impl.Node) bool {
		return each(n.Mounts, func(name string) bool {
			v, there := w.volumes[name]
			return !there || holds(n, v)
		})
	})
}

func mountedSentences() []sentence {
	return []sentence{
		{"mounts are volumes", func(w view) bool {
			return each(w.Nodes, func(n impl.Node) bool {
				return each(n.Mounts, func(name string) bool { return w.volumes[name].Name == name })
			})
		}},
		{"mounts on it", func(w view) bool {
			return w.eachMount(func(n impl.Node, v impl.Volume) bool { return n.Dead || slices.Contains(v.On, n.Name) })
		}},
		{"mounted once", func(w view) bool {
			seen := map[string]int{}
			return w.eachMount(func(n impl.Node, v impl.Volume) bool {
				if !n.Dead && v.Single {
					seen[v.Name]++
				}
				return seen[v.Name] <= 1
			})
		}},
		{"runs on the living", func(w view) bool {
			return w.eachPlaced(func(p impl.Pod, n impl.Node) bool { return p.Phase != impl.PhRunning || !n.Dead })
		}},
		{"runs with its disks", func(w view) bool {
			return w.eachPlaced(func(p impl.Pod, n impl.Node) bool {
				return p.Phase != impl.PhRunning ||
					each(p.Claims, func(name string) bool { return slices.Contains(n.Mounts, w.claims[name].Volume) })
			})
		}},
	}
}

// broken: the sentences that do not hold, with commas between.
func broken(c impl.Cluster) string {
	var out []string
	w := viewOf(c)
	for _, s := range sentences() {
		if !s.holds(w) {
			out = append(out, s.what)
		}
	}
	return strings.Join(out, ", ")
}

// shown: a thing as a failing test tells of it: not all of what is very long, and no bytes that are no text.
func shown(thing any) string {
	text := fmt.Sprintf("%+v", thing)
	return strings.ToValidUTF8(text[:min(len(text), 2000)], "?")
}

func wantRight(t *testing.T, what string, c impl.Cluster, want bool) {
	t.Helper()
	if got := impl.ClusterRight(c); got != want {
		t.Errorf("%s: got right %v, want %v: %s", what, got, want, shown(c))
	}
}

// wantRefused: this code, and nothing beside it.
func wantRefused(t *testing.T, what string, got impl.ClusterOut, code int64) {
	t.Helper()
	if got.Code != code || got.Name != "" || !sameCluster(got.Cluster, impl.Cluster{}) {
		t.Errorf("%s: got code %d, name %q and %s, want code %d alone", what, got.Code, got.Name, shown(got.Cluster), code)
	}
}

// wantBecomes: no fault, this right cluster, and no name.
func wantBecomes(t *testing.T, what string, got impl.ClusterOut, want impl.Cluster) {
	t.Helper()
	wantNamed(t, what, got, want, "")
}

// wantNamed: no fault, this right cluster, and this name.
func wantNamed(t *testing.T, what string, got impl.ClusterOut, want impl.Cluster, name string) {
	t.Helper()
	if got.Code != impl.OK || got.Name != name || !sameCluster(got.Cluster, want) {
		t.Errorf("%s: got code %d, name %q and %s, want name %q and %s", what, got.Code, got.Name, shown(got.Cluster), name, shown(want))
	}
	if why := broken(got.Cluster); why != "" || !impl.ClusterRight(got.Cluster) {
		t.Errorf("%s: got a cluster that is not right (%s): %s", what, why, shown(got.Cluster))
	}
}

// stretch is a piece of memory.
type stretch struct {
	what     string
	from, to uintptr
}

// stretchOf: all the memory that a list may write to, what stands behind its end too.
func stretchOf[T any](what string, list []T) stretch {
	var item T
	from := uintptr(unsafe.Pointer(unsafe.SliceData(list)))
	return stretch{what, from, from + uintptr(cap(list))*unsafe.Sizeof(item)}
}

// stretches: the memory of all lists of a cluster.
func stretches(c impl.Cluster) []stretch {
	out := []stretch{stretchOf("Nodes", c.Nodes), stretchOf("Classes", c.Classes), stretchOf("Volumes", c.Volumes),
		stretchOf("Claims", c.Claims), stretchOf("Pods", c.Pods)}
	for _, n := range c.Nodes {
		out = append(out, stretchOf("Mounts of "+n.Name, n.Mounts))
	}
	for _, v := range c.Volumes {
		out = append(out, stretchOf("On of "+v.Name, v.On))
	}
	for _, p := range c.Pods {
		out = append(out, stretchOf("Claims of "+p.Name, p.Claims))
	}
	return out
}

func overlap(a stretch, b stretch) bool {
	return a.from < b.to && b.from < a.to
}

// wantApart: no list of the answer shares memory with another one of it, or with what was handed in.
func wantApart(t *testing.T, what string, answer impl.Cluster, handed []stretch) {
	t.Helper()
	own := stretches(answer)
	for at, a := range own {
		for _, b := range own[:at] {
			if overlap(a, b) {
				t.Errorf("%s: %s and %s of the answer share memory", what, a.what, b.what)
			}
		}
		for _, b := range handed {
			if overlap(a, b) {
				t.Errorf("%s: %s of the answer shares memory with %s that was handed in", what, a.what, b.what)
			}
		}
	}
}

// roomy: the list with two more behind its end, which nobody may write to.
func roomy[T any](list []T, behind T) []T {
	return append(append(make([]T, 0, len(list)+2), list...), behind, behind)[:len(list)]
}

// roomyCluster: the cluster with lists that all have something behind their end, the empty ones too.
func roomyCluster(c impl.Cluster) impl.Cluster {
	c = deepCopy(c)
	for i := range c.Nodes {
		c.Nodes[i].Mounts = roomy(c.Nodes[i].Mounts, "left")
	}
	for i := range c.Volumes {
		c.Volumes[i].On = roomy(c.Volumes[i].On, "left")
	}
	for i := range c.Pods {
		c.Pods[i].Claims = roomy(c.Pods[i].Claims, "left")
	}
	c.Nodes = roomy(c.Nodes, impl.Node{Name: "left", Mounts: []string{"left"}})
	c.Classes = roomy(c.Classes, impl.Class{Name: "left"})
	c.Volumes = roomy(c.Volumes, impl.Volume{Name: "left", On: []string{"left"}})
	c.Claims = roomy(c.Claims, impl.Claim{Name: "left"})
	c.Pods = roomy(c.Pods, impl.Pod{Name: "left", Claims: []string{"left"}})
	return c
}

// whole: the list up to the end of its memory.
func whole[T any](list []T) []T {
	return list[:cap(list)]
}

// unfolded: the cluster with all that stands behind the ends of its lists, too.
func unfolded(c impl.Cluster) impl.Cluster {
	c = impl.Cluster{Nodes: whole(c.Nodes), Classes: whole(c.Classes), Volumes: whole(c.Volumes), Claims: whole(c.Claims), Pods: whole(c.Pods), Now: c.Now}
	out := deepCopy(c)
	for i, n := range c.Nodes {
		out.Nodes[i].Mounts = slices.Clone(whole(n.Mounts))
	}
	for i, v := range c.Volumes {
		out.Volumes[i].On = slices.Clone(whole(v.On))
	}
	for i, p := range c.Pods {
		out.Pods[i].Claims = slices.Clone(whole(p.Claims))
	}
	return out
}
