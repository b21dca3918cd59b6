package tests

import (
	"cmp"
	"fmt"
	"maps"
	"slices"
	"testing"

	"loop.example/g00571/impl"
)

// inOrder: the pairs, by disk, then by node.
func inOrder(set map[impl.Pair]bool) []impl.Pair {
	return slices.SortedFunc(maps.Keys(set), func(a impl.Pair, b impl.Pair) int {
		if a.Volume == b.Volume {
			return cmp.Compare(a.Node, b.Node)
		}
		return cmp.Compare(a.Volume, b.Volume)
	})
}

// wantedModel: what Wanted ought to tell, by the words of chapter 9 alone.
func wantedModel(c impl.Cluster) []impl.Pair {
	if broken(c) != "" {
		return nil
	}
	w, set := viewOf(c), map[impl.Pair]bool{}
	for _, p := range c.Pods {
		for _, claim := range p.Claims {
			if p.Phase != impl.PhPending {
				set[impl.Pair{Volume: w.claims[claim].Volume, Node: p.Node}] = true
			}
		}
	}
	return inOrder(set)
}

// offModel: may the disk, which nobody wants there, be taken off the node? Which way is it, that or not?
func offModel(c impl.Cluster, pair impl.Pair) (bool, string) {
	n := byName(c.Nodes, nodeName)[pair.Node]
	mounted := slices.Contains(n.Mounts, pair.Volume)
	switch {
	case n.Dead && n.Until+5 < c.Now:
		return true, fmt.Sprintf("over, mounted %v", mounted)
	case n.Dead:
		return false, fmt.Sprintf("grace, mounted %v", mounted)
	}
	return !mounted, fmt.Sprintf("living, mounted %v", mounted)
}

// excessModel: what Excess ought to tell, by the words of chapter 9 alone; the ways to it are counted.
func excessModel(c impl.Cluster, seen map[string]int) []impl.Pair {
	if broken(c) != "" {
		return nil
	}
	wanted, set := wantedModel(c), map[impl.Pair]bool{}
	for _, v := range c.Volumes {
		for _, node := range v.On {
			pair := impl.Pair{Volume: v.Name, Node: node}
			if slices.Contains(wanted, pair) {
				seen["wanted there"]++
				continue
			}
			may, way := offModel(c, pair)
			seen[way]++
			if may {
				set[pair] = true
			}
		}
	}
	return inOrder(set)
}

// onModel: why the disk, which is wanted on the node, is not put on it; nothing, if it is.
func onModel(c impl.Cluster, pair impl.Pair) string {
	w := viewOf(c)
	v, left := w.volumes[pair.Volume], w.nodes[pair.Node].Slots
	for _, other := range c.Volumes {
		for _, node := range other.On {
			if node == pair.Node {
				left--
			}
		}
	}
	for _, node := range v.On {
		if node == pair.Node {
			return "is on"
		}
	}
	switch {
	case v.Single && len(v.On) > 0:
		return "single elsewhere"
	case left <= 0:
		return "no slot"
	}
	return ""
}

// attaching is what AttachNext ought to tell, and the way to it.
type attaching struct {
	way  string
	code int64
	name string
	then impl.Cluster
}

// attachModel: by the words of chapter 9 alone; the ways to it are counted.
func attachModel(c impl.Cluster, seen map[string]int) attaching {
	if broken(c) != "" {
		return attaching{way: "not right", code: impl.ErrForm}
	}
	if excess := excessModel(c, seen); len(excess) > 0 {
		return attaching{"off", impl.OK, "off " + excess[0].Volume, changedTo(c, func(c *impl.Cluster) {
			v := theVolume(c, excess[0].Volume)
			v.On = slices.DeleteFunc(v.On, func(node string) bool { return node == excess[0].Node })
		})}
	}
	blocked := ""
	for _, pair := range wantedModel(c) {
		why := onModel(c, pair)
		seen[why]++
		if why != "" && why != "is on" {
			blocked = why
		}
		if why != "" {
			continue
		}
		seen["put on behind: "+blocked]++
		return attaching{"on", impl.OK, "on " + pair.Volume, changedTo(c, func(c *impl.Cluster) {
			v := theVolume(c, pair.Volume)
			v.On = slices.Sorted(slices.Values(append(v.On, pair.Node)))
		})}
	}
	return attaching{way: "rest", code: impl.ErrNone}
}

// checkAttach: do Wanted, Excess and AttachNext do what they ought to? What is the cluster then, and which way did it go?
func checkAttach(t *testing.T, c impl.Cluster, seen map[string]int) (impl.Cluster, string) {
	t.Helper()
	want := attachModel(c, seen)
	seen[want.way]++
	if got := impl.Wanted(c); !slices.Equal(got, wantedModel(c)) {
		t.Errorf("Wanted: got %v, want %v: %s", got, wantedModel(c), shown(c))
	}
	if got, excess := impl.Excess(c), excessModel(c, map[string]int{}); !slices.Equal(got, excess) {
		t.Errorf("Excess: got %v, want %v: %s", got, excess, shown(c))
	}
	got := impl.AttachNext(c)
	what := "AttachNext (" + want.way + ") in " + shown(c)
	if want.code != impl.OK {
		wantRefused(t, what, got, want.code)
		return c, want.way
	}
	wantNamed(t, what, got, want.then, want.name)
	return got.Cluster, want.way
}

// settle: called again and again, AttachNext takes off, then puts on, then rests for good; the cluster then.
func settle(t *testing.T, c impl.Cluster, seen map[string]int) impl.Cluster {
	t.Helper()
	way := "off"
	// Each disk may be taken off each node once, and be put on each once.
	for range 2*impl.MaxNodes*impl.MaxThings + 1 {
		var next string
		c, next = checkAttach(t, c, seen)
		if next == "off" && way == "on" {
			t.Errorf("what nobody wants is taken off behind what is put on: %s", shown(c))
		}
		if way = next; way == "rest" || t.Failed() {
			break
		}
	}
	wantRest(t, "at rest", c)
	for _, pair := range wantedModel(c) {
		why := onModel(c, pair)
		seen["rest: "+why]++
		if why == "" {
			t.Errorf("at rest: %v is wanted, and could be put on: %s", pair, shown(c))
		}
	}
	return c
}

// eachOfOneNode: the cluster with all that one disk and one node may have to do with each other, right or not.
func eachOfOneNode(c impl.Cluster, node string, give func(impl.Cluster)) {
	for kind := range 3 * 2 * 2 * 4 {
		life, on, mounted, phase := kind%3, kind/3%2 > 0, kind/6%2 > 0, int64(kind/12)
		give(changedTo(c, func(c *impl.Cluster) {
			n, v := theNode(c, node), theVolume(c, "da")
			n.Dead, n.Until = life > 0, []int64{30, 20, 19}[life]
			if on {
				v.On = append(v.On, node)
			}
			if mounted {
				n.Mounts = []string{"da"}
			}
			if phase < 3 {
				p := impl.Pod{Name: "p" + node, Claims: []string{"a"}, Phase: phase}
				if phase != impl.PhPending {
					p.Node = node
				}
				putPod(c, p)
			}
		}))
	}
}

// Promise 11: all that one disk and two nodes may have to do with each other.
func TestAttachingOfTwoNodes(t *testing.T) {
	seen, right := map[string]int{}, 0
	for kind := range 6 {
		start := attachCluster(func(c *impl.Cluster) {
			putBound(c, "a", disk("a", "east", kind%2 > 0))
			// No slot, one that is free, and one that is taken.
			c.Nodes[0].Slots = min(int64(kind/2), 1)
			if kind/2 == 2 {
				putVolume(c, disk("b", "east", true, "n1"))
			}
		})
		eachOfOneNode(start, "n1", func(c impl.Cluster) {
			eachOfOneNode(c, "n2", func(c impl.Cluster) {
				if broken(c) != "" {
					return
				}
				right++
				settle(t, c, seen)
			})
		})
	}
	if right < 1000 {
		t.Errorf("%d clusters are right: this tells too little", right)
	}
	wantSeen(t, "AttachNext", seen, "off", "on", "rest", "wanted there", "over, mounted true", "over, mounted false", "grace, mounted true", "grace, mounted false",
		"living, mounted true", "living, mounted false", "is on", "single elsewhere", "no slot", "rest: is on", "rest: single elsewhere", "rest: no slot")
}

// mess scatters disks over nodes, and pods that want them, rightly for the most part.
func (d *dice) mess(c *impl.Cluster) {
	pick(d, c.Nodes, func(n *impl.Node) { n.Slots = int64(d.roll(5)) })
	pick(d, c.Nodes, func(n *impl.Node) { n.Dead, n.Until = d.roll(3) == 0, c.Now-int64(d.roll(9)) })
	pick(d, c.Nodes, func(n *impl.Node) { n.Mounts = d.few(namesOf(c.Volumes, volumeName)...) })
	pick(d, c.Volumes, func(v *impl.Volume) { v.On = d.few(namesOf(c.Nodes, nodeName)...) })
	pick(d, c.Volumes, func(v *impl.Volume) {
		if v.Single && len(v.On) > 1 {
			v.On = v.On[:1]
		}
	})
	pick(d, c.Pods, func(p *impl.Pod) {
		p.Claims = d.few(namesOf(c.Claims, claimName)...)
		p.Claims = p.Claims[:min(len(p.Claims), 3)]
	})
	pick(d, c.Pods, func(p *impl.Pod) {
		p.Node, p.Phase = "", impl.PhPending
		if d.roll(4) > 0 && len(c.Nodes) > 0 {
			p.Node, p.Phase = c.Nodes[d.roll(len(c.Nodes))].Name, int64(1+d.roll(2))
		}
	})
}

// messed: the cluster as a few such changes make of it; some of those that are not right are given away instead.
func (d *dice) messed(c impl.Cluster, give func(wrong impl.Cluster)) impl.Cluster {
	for range 6 {
		next := deepCopy(c)
		d.mess(&next)
		if broken(next) == "" {
			c = next
		} else if d.roll(10) == 0 {
			give(next)
		}
	}
	return c
}

// messCluster: a right cluster of six nodes, eight disks in all, of which two are wanted by no claim, and eight pods.
func (d *dice) messCluster() impl.Cluster {
	c := impl.Cluster{Classes: []impl.Class{{Name: "slow"}}, Now: 25}
	for _, name := range nameRow(6) {
		c.Nodes = append(c.Nodes, impl.Node{Name: name, Zone: "east", Cpu: 1000, Slots: 3, Until: 30})
	}
	for at, name := range nameRow(8) {
		v := impl.Volume{Name: name, Size: 1, Zone: "east", Class: "slow", Single: d.flip()}
		if at < 6 {
			// The claims come in another order than their disks.
			putBound(&c, nameRow(8)[at*5%6], v)
		} else {
			v.Spent = d.flip()
			putVolume(&c, v)
		}
		putPod(&c, impl.Pod{Name: name, Cpu: 100})
	}
	return c
}

// Promise 11, wherever many small changes lead to.
func TestManyAttachings(t *testing.T) {
	d := &dice{88675123}
	seen := map[string]int{}
	for range 100 {
		c := d.messCluster()
		for step := range 60 {
			c = d.messed(c, func(wrong impl.Cluster) { checkAttach(t, wrong, seen) })
			then := settle(t, c, seen)
			// Now and then things go on from there.
			if d.roll(3) == 0 {
				c = then
			}
			if t.Failed() {
				t.Fatalf("at step %d", step)
			}
		}
	}
	wantSeen(t, "AttachNext", seen, "not right", "off", "on", "rest", "wanted there", "over, mounted true", "over, mounted false", "grace, mounted true", "grace, mounted false",
		"living, mounted true", "living, mounted false", "is on", "single elsewhere", "no slot", "put on behind: single elsewhere", "put on behind: no slot", "put on behind: ",
		"rest: is on", "rest: single elsewhere", "rest: no slot")
}

// Promise 11 among all else that a cluster at work may see by now.
func TestAttachingAtWork(t *testing.T) {
	d := &dice{43219876}
	seen := map[string]int{}
	for range 120 {
		c := changedTo(d.busyCluster(), func(c *impl.Cluster) { c.Nodes[0].Slots, c.Nodes[1].Slots = 1, 2 })
		for step := range 60 {
			c, _ = checkAttach(t, c, seen)
			c = d.nextMove().check(t, c)
			c, _ = checkPlace(t, c, d.podName())
			c, _ = checkEvict(t, c, d.podName())
			for _, p := range c.Pods {
				seen[fmt.Sprintf("phase %d of %d claims", p.Phase, min(len(p.Claims), 1))]++
			}
			if d.roll(6) == 0 {
				name := d.word("p1", "p2", "p3")
				c = podDrop(name).check(t, c)
				settle(t, c, seen)
				c = podMove(impl.Pod{Name: name, Cpu: 200, Claims: d.few(namesOf(c.Claims, claimName)...)}).check(t, c)
			}
			if t.Failed() {
				t.Fatalf("at step %d", step)
			}
		}
	}
	wantSeen(t, "at work", seen, "off", "on", "rest", "wanted there", "over, mounted true", "grace, mounted true", "living, mounted true", "living, mounted false",
		"is on", "rest: is on", "phase 0 of 1 claims", "phase 1 of 1 claims", "phase 2 of 1 claims")
}

// attachMove: AttachNext, for what all calls have to hold to.
func attachMove() move {
	return move{"AttachNext", impl.AttachNext, func(c impl.Cluster) (impl.Cluster, int64) {
		want := attachModel(c, map[string]int{})
		return want.then, want.code
	}}
}

// attachedClusters: clusters, right ones and others, in which a disk is put on a node, or taken off it, or neither.
func attachedClusters() []impl.Cluster {
	out := memoryClusters()
	for _, on := range [][]string{{}, {"n1"}, {"n2"}, {"n3"}, {"n1", "n2"}, {"n1", "n3"}, {"n2", "n3"}, {"n1", "n2", "n3"}} {
		for _, node := range []string{"", "n1", "n2", "n3", "n4"} {
			out = append(out, attachCluster(func(c *impl.Cluster) {
				putBound(c, "a", disk("a", "east", false, on...))
				putBound(c, "b", disk("b", "east", false, "n1", "n4"))
				podOn(c, "p", "n4", "b")
				podOn(c, "q", "n1", "b")
				for _, name := range append(on[:len(on):len(on)], node) {
					// Wanted where it is, and on one node more; or not on that one.
					if name != "" && slices.Contains(on, name) != (name == node) {
						podOn(c, "r"+name, name, "a")
					}
				}
			}))
		}
	}
	return out
}

// No call changes what it was handed, at any depth, nor what stands behind the ends of its lists; its answer is new memory.
func TestAttachingIsNewMemory(t *testing.T) {
	ways := map[string]int{}
	for _, start := range attachedClusters() {
		c := roomyCluster(start)
		before := unfolded(c)
		out := impl.AttachNext(c).Cluster
		wantApart(t, "AttachNext", out, stretches(c))
		// Two answers have nothing in common either.
		wantApart(t, "AttachNext anew", impl.AttachNext(c).Cluster, stretches(out))
		for _, call := range []func(impl.Cluster) []impl.Pair{impl.Wanted, impl.Excess} {
			first, again := call(c), call(c)
			own := stretchOf("pairs", first)
			for _, other := range append(stretches(c), stretchOf("pairs anew", again)) {
				if overlap(own, other) {
					t.Errorf("an answer shares memory with %s", other.what)
				}
			}
			spoil(first, impl.Pair{Volume: "spoilt"})
			if got := call(c); !slices.Equal(got, again) {
				t.Errorf("an answer was written over: got %v, want %v", got, again)
			}
		}
		if !sameCluster(unfolded(c), before) {
			t.Fatalf("what was handed in got %s, want %s", shown(unfolded(c)), shown(before))
		}
		_, way := checkAttach(t, start, map[string]int{})
		ways[way]++
	}
	if ways["off"] < 10 || ways["on"] < 10 || ways["rest"] < 10 || ways["not right"] < 5 {
		t.Errorf("some ways are hardly come by: %v", ways)
	}
}

// An answer stays what it was when what was handed in is written over, and the other way round; nothing is kept.
func TestAttachingKeepsNothing(t *testing.T) {
	for _, start := range attachedClusters() {
		c := deepCopy(start)
		want, code := attachMove().want(start)
		out, wanted, excess := impl.AttachNext(c), impl.Wanted(c), impl.Excess(c)
		scribble(c)
		if out.Code != code || !sameCluster(out.Cluster, want) {
			t.Errorf("AttachNext, then what was handed in was written over: got %s, want code %d, %s", shown(out), code, shown(want))
		}
		if !slices.Equal(wanted, wantedModel(start)) || !slices.Equal(excess, excessModel(start, map[string]int{})) {
			t.Errorf("what was handed in was written over: Wanted %v, Excess %v", wanted, excess)
		}
		c = deepCopy(start)
		scribble(impl.AttachNext(c).Cluster)
		spoil(impl.Wanted(c), impl.Pair{Node: "spoilt"})
		spoil(impl.Excess(c), impl.Pair{Node: "spoilt"})
		if !sameCluster(c, start) {
			t.Errorf("the answers were written over: what was handed in got %s", shown(c))
		}
		checkAttach(t, c, map[string]int{})
	}
}
