package tests

import (
	"maps"
	"slices"
	"testing"

	"loop.example/g00571/impl"
)

// fitting is what trying a pod on a node ought to tell, the way to it, and the cluster with the pod there.
type fitting struct {
	way     string
	code    int64
	cluster impl.Cluster
}

// roomModel: what is left of the node.
func roomModel(c impl.Cluster, n impl.Node) int64 {
	left := n.Cpu
	for _, p := range c.Pods {
		if p.Node == n.Name {
			left -= p.Cpu
		}
	}
	return left
}

// disksModel: the names of the disks of the node, which is there.
func disksModel(c impl.Cluster, node string) []string {
	w := viewOf(c)
	names := map[string]bool{}
	for _, p := range c.Pods {
		for _, claim := range p.Claims {
			if v, bound := w.volumes[w.claims[claim].Volume]; bound && p.Node == node {
				names[v.Name] = true
			}
		}
	}
	for _, v := range c.Volumes {
		for _, on := range v.On {
			if on == node {
				names[v.Name] = true
			}
		}
	}
	return slices.Sorted(maps.Keys(names))
}

// fitModel: what Fits ought to tell, by the words of chapter 8 alone.
func fitModel(c impl.Cluster, pod string, node string) fitting {
	p, podThere := byName(c.Pods, podName)[pod]
	n, nodeThere := byName(c.Nodes, nodeName)[node]
	switch {
	case len(pod) > 8000 || len(node) > 8000:
		return fitting{way: "too long", code: impl.ErrSize}
	case broken(c) != "":
		return fitting{way: "not right", code: impl.ErrForm}
	case !podThere || !nodeThere:
		return fitting{way: "no such pod or node", code: impl.ErrNone}
	case p.Phase != impl.PhPending:
		return fitting{way: "not pending", code: impl.ErrState}
	case n.Dead:
		return fitting{way: "dead", code: impl.ErrWait}
	case n.Until <= c.Now:
		return fitting{way: "lease over", code: impl.ErrWait}
	case p.Zone != "" && p.Zone != n.Zone:
		return fitting{way: "other zone", code: impl.ErrRange}
	case roomModel(c, n) < p.Cpu:
		return fitting{way: "no room", code: impl.ErrFull}
	}
	then := fitting{way: "fits", cluster: c}
	for _, name := range p.Claims {
		if then = claimModel(then.cluster, name, n); then.code != impl.OK {
			return then
		}
	}
	then.cluster = changedTo(then.cluster, func(c *impl.Cluster) { putOn(c, pod, node) })
	if len(disksModel(then.cluster, node)) > int(n.Slots) {
		return fitting{way: "no slot", code: impl.ErrFull}
	}
	return then
}

// claimModel: what a claim of the pod has to say to the node.
func claimModel(c impl.Cluster, name string, n impl.Node) fitting {
	w := viewOf(c)
	x := w.claims[name]
	if x.Volume == "" && !w.classes[x.Class].Wait {
		return fitting{way: "does not wait", code: impl.ErrWait}
	}
	if x.Volume == "" {
		out := bindInModel(c, x, n.Zone)
		return fitting{way: out.way, code: out.code, cluster: out.cluster}
	}
	v := w.volumes[x.Volume]
	if v.Zone != n.Zone {
		return fitting{way: "disk elsewhere", code: impl.ErrRange}
	}
	for _, p := range c.Pods {
		if v.Single && slices.Contains(p.Claims, name) && p.Node != "" && p.Node != n.Name {
			return fitting{way: "disk of another pod", code: impl.ErrState}
		}
	}
	if v.Single && len(v.On) > 0 && v.On[0] != n.Name {
		return fitting{way: "disk on another node", code: impl.ErrState}
	}
	return fitting{way: "bound", cluster: c}
}

// placement is what BestNode and PlacePod ought to tell.
type placement struct {
	way  string
	code int64
	node string
	then impl.Cluster
}

// placeModel: by the words of chapter 8 alone.
func placeModel(c impl.Cluster, pod string) placement {
	p, there := byName(c.Pods, podName)[pod]
	switch {
	case len(pod) > 8000:
		return placement{way: "too long", code: impl.ErrSize}
	case broken(c) != "":
		return placement{way: "not right", code: impl.ErrForm}
	case !there:
		return placement{way: "no such pod", code: impl.ErrNone}
	case p.Phase != impl.PhPending:
		return placement{way: "not pending", code: impl.ErrState}
	}
	out, most := placement{way: "no node", code: impl.ErrWait}, int64(-1)
	for _, n := range c.Nodes {
		if fit := fitModel(c, pod, n.Name); fit.code == impl.OK && roomModel(c, n) > most {
			out, most = placement{"placed", impl.OK, n.Name, fit.cluster}, roomModel(c, n)
		}
	}
	return out
}

// evictModel: what Evict ought to tell, and the way to it.
func evictModel(c impl.Cluster, pod string) (string, int64) {
	p, there := byName(c.Pods, podName)[pod]
	n := byName(c.Nodes, nodeName)[p.Node]
	switch {
	case len(pod) > 8000:
		return "too long", impl.ErrSize
	case broken(c) != "":
		return "not right", impl.ErrForm
	case !there:
		return "no such pod", impl.ErrNone
	case p.Phase == impl.PhPending:
		return "pending", impl.ErrState
	case !n.Dead:
		return "not dead", impl.ErrWait
	case n.Until+5 >= c.Now:
		return "grace", impl.ErrWait
	}
	return "evicted", impl.OK
}

// checkFits: does Fits tell what it ought to? Which way did it go?
func checkFits(t *testing.T, c impl.Cluster, pod string, node string) string {
	t.Helper()
	want := fitModel(c, pod, node)
	wantFitCode(t, want.way, c, pod, node, want.code)
	return want.way
}

// checkPlace: do BestNode and PlacePod do what they ought to? What is the cluster then, and which way did it go?
func checkPlace(t *testing.T, c impl.Cluster, pod string) (impl.Cluster, string) {
	t.Helper()
	want := placeModel(c, pod)
	best, put := impl.BestNode(c, pod), impl.PlacePod(c, pod)
	what := pod[:min(len(pod), 24)] + " (" + want.way + ") in " + shown(c)
	if want.code != impl.OK {
		wantRefused(t, "BestNode "+what, best, want.code)
		wantRefused(t, "PlacePod "+what, put, want.code)
		return c, want.way
	}
	wantNamed(t, "BestNode "+what, best, c, want.node)
	wantNamed(t, "PlacePod "+what, put, want.then, want.node)
	return want.then, want.way
}

// checkEvict: does Evict do what it ought to? What is the cluster then, and which way did it go?
func checkEvict(t *testing.T, c impl.Cluster, pod string) (impl.Cluster, string) {
	t.Helper()
	way, code := evictModel(c, pod)
	got := impl.Evict(c, pod)
	what := "Evict " + pod[:min(len(pod), 24)] + " (" + way + ") in " + shown(c)
	if code != impl.OK {
		wantRefused(t, what, got, code)
		return c, way
	}
	then := changedTo(c, func(c *impl.Cluster) {
		thePod(c, pod).Node, thePod(c, pod).Phase = "", impl.PhPending
	})
	wantBecomes(t, what, got, then)
	return then, way
}

// checkRoom: do FreeCpu and DisksOf tell what stands in the cluster?
func checkRoom(t *testing.T, c impl.Cluster) {
	t.Helper()
	for _, name := range []string{"n0", "n1", "n2", "n3", "n4", "n5", ""} {
		n, there := byName(c.Nodes, nodeName)[name]
		if broken(c) != "" || !there {
			wantFreeCpu(t, "none", c, name, -1)
			wantDisks(t, "none", c, name)
			continue
		}
		wantFreeCpu(t, "on the way", c, name, roomModel(c, n))
		wantDisks(t, "on the way", c, name, disksModel(c, name)...)
	}
}

// odd: mostly that name; at times none.
func (d *dice) odd(name string) string {
	if d.roll(40) == 0 {
		return d.word("", "P", "-", longName, overlong())
	}
	return name
}

// pass changes what there is to be placed, and where.
func (d *dice) pass(c *impl.Cluster) {
	c.Now = int64(20 + d.roll(10))
	for range 4 {
		pick(d, c.Nodes, func(n *impl.Node) { n.Until = c.Now + int64(d.roll(17)) - 7 })
		pick(d, c.Nodes, func(n *impl.Node) { n.Slots = max(n.Slots, int64(d.roll(5))) })
	}
	pick(d, c.Nodes, func(n *impl.Node) { n.Dead = d.roll(3) == 0 })
	pick(d, c.Classes, func(k *impl.Class) { k.Wait, k.Zone = d.roll(4) > 0, d.word("", "", d.zone()) })
	pick(d, c.Pods, func(p *impl.Pod) { p.Cpu, p.Zone = int64(d.roll(5)*100), d.word("", "", d.zone()) })
	pick(d, c.Pods, func(p *impl.Pod) {
		if d.roll(4) == 0 {
			p.Claims = append(d.few("c0", "c2"), longName)
			slices.Sort(p.Claims)
		}
	})
}

// Promises 9 and 10, wherever many small changes lead to.
func TestManyPlacings(t *testing.T) {
	d := &dice{362436069}
	fits, places, evicts := map[string]int{}, map[string]int{}, map[string]int{}
	for _, start := range []func() impl.Cluster{workCluster, restCluster, placeCluster, func() impl.Cluster { return bindCluster(freeDisk()) }} {
		c := start()
		for step := range 2500 {
			if step%100 == 0 {
				c = start()
			}
			next := deepCopy(c)
			d.shake(&next)
			d.pass(&next)
			checkRoom(t, next)
			if broken(next) == "" {
				c = next
			} else if d.roll(10) > 0 {
				next = c
			}
			fits[checkFits(t, next, d.odd(d.word("p", d.podName())), d.odd(d.nodeName()))]++
			c = d.bindMove().check(t, c)
			c = d.move().check(t, c)
			for _, p := range c.Pods {
				for _, n := range c.Nodes {
					fits[checkFits(t, c, p.Name, n.Name)]++
				}
			}
			_, way := checkPlace(t, next, d.odd(d.word("p", d.podName())))
			places[way]++
			_, way = checkEvict(t, next, d.odd(d.word("p", d.podName())))
			evicts[way]++
			c, way = checkPlace(t, c, d.podName())
			places[way]++
			c, way = checkEvict(t, c, d.podName())
			evicts[way]++
			if t.Failed() {
				t.Fatalf("at step %d", step)
			}
		}
	}
	wantSeen(t, "Fits", fits, "too long", "not right", "no such pod or node", "not pending", "dead", "lease over", "other zone", "no room", "does not wait", "made elsewhere",
		"too long a name", "name there", "full", "disk elsewhere", "disk of another pod", "disk on another node", "no slot", "fits", "found", "made", "bound")
	wantSeen(t, "PlacePod", places, "too long", "not right", "no such pod", "not pending", "no node", "placed")
	wantSeen(t, "Evict", evicts, "too long", "not right", "no such pod", "pending", "not dead", "grace", "evicted")
}

// wantSeen: each of these ways was come by, and not too seldom.
func wantSeen(t *testing.T, what string, seen map[string]int, ways ...string) {
	t.Helper()
	for _, way := range ways {
		if seen[way] < 20 {
			t.Errorf("%s: %q was come by %d times: this tells nothing of it", what, way, seen[way])
		}
	}
}

// memoryClusters: clusters, right ones and others, in which pods are placed, taken from their nodes, or neither.
func memoryClusters() []impl.Cluster {
	out := append(bindingClusters(), placeCluster(), deadCluster(25, 19), deadCluster(25, 20))
	for _, x := range slices.Concat(boundKinds(), looseKinds()) {
		out = append(out, claiming([]string{"a", "b"}, func(c *impl.Cluster) {
			x.put(c, "a")
			looseKinds()[5].put(c, "b")
		}))
	}
	return out
}

// placingNames: those of pods and nodes of memoryClusters, and others.
func placingNames() []string {
	return []string{"p", "p1", "p5", "q", "s", "a", "p9", "", overlong()}
}

// No call changes what it was handed, at any depth, nor what stands behind the ends of its lists; its answer is new memory.
func TestPlacingIsNewMemory(t *testing.T) {
	for _, start := range memoryClusters() {
		c := roomyCluster(start)
		before := unfolded(c)
		for _, pod := range placingNames() {
			for _, call := range []func(impl.Cluster, string) impl.ClusterOut{impl.BestNode, impl.PlacePod, impl.Evict} {
				out := call(c, pod).Cluster
				wantApart(t, "an answer of "+pod[:min(len(pod), 24)], out, stretches(c))
				// Two answers have nothing in common either.
				wantApart(t, "the same anew", call(c, pod).Cluster, stretches(out))
			}
			for _, n := range c.Nodes {
				impl.Fits(c, pod, n.Name)
			}
		}
		for _, n := range append(c.Nodes[:len(c.Nodes):len(c.Nodes)], impl.Node{Name: "n9"}) {
			impl.FreeCpu(c, n.Name)
			disks := stretchOf("DisksOf", impl.DisksOf(c, n.Name))
			for _, other := range append(stretches(c), stretchOf("DisksOf anew", impl.DisksOf(c, n.Name))) {
				if overlap(disks, other) {
					t.Errorf("DisksOf shares memory with %s", other.what)
				}
			}
		}
		if !sameCluster(unfolded(c), before) {
			t.Fatalf("what was handed in got %s, want %s", shown(unfolded(c)), shown(before))
		}
	}
}

// An answer stays what it was when what was handed in is written over, and the other way round; nothing is kept.
func TestPlacingKeepsNothing(t *testing.T) {
	for _, start := range memoryClusters() {
		for _, pod := range placingNames() {
			c := deepCopy(start)
			best, put, free, disks := impl.BestNode(c, pod), impl.PlacePod(c, pod), impl.Evict(c, pod), impl.DisksOf(c, "n1")
			then, kept, named := deepCopy(put.Cluster), deepCopy(free.Cluster), slices.Clone(disks)
			scribble(c)
			if best.Code == impl.OK && !sameCluster(best.Cluster, start) || !sameCluster(put.Cluster, then) || !sameCluster(free.Cluster, kept) || !slices.Equal(disks, named) {
				t.Errorf("%.24q, what was handed in was written over: got %s, %s, %s, %q", pod, shown(best), shown(put), shown(free), disks)
			}
			c = deepCopy(start)
			scribble(impl.BestNode(c, pod).Cluster)
			scribble(impl.PlacePod(c, pod).Cluster)
			scribble(impl.Evict(c, pod).Cluster)
			spoil(impl.DisksOf(c, "n1"), "spoilt")
			if !sameCluster(c, start) {
				t.Errorf("%.24q, the answers were written over: what was handed in got %s", pod, shown(c))
			}
			checkPlace(t, c, pod)
			checkEvict(t, c, pod)
			checkRoom(t, c)
		}
	}
}
