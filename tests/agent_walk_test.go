package tests

import (
	"fmt"
	"slices"
	"testing"

	"loop.example/g00571/impl"
)

// theNode: the node of that name, to be changed.
func theNode(c *impl.Cluster, name string) *impl.Node {
	return &c.Nodes[slices.Index(namesOf(c.Nodes, nodeName), name)]
}

// agentWhy: why a call of the name of a node, which is to be dead or is not to be, is refused, OK if it is not.
func agentWhy(c impl.Cluster, node string, dead bool) int64 {
	n, there := byName(c.Nodes, nodeName)[node]
	switch {
	case len(node) > 8000:
		return impl.ErrSize
	case broken(c) != "":
		return impl.ErrForm
	case !there:
		return impl.ErrNone
	case n.Dead != dead:
		return impl.ErrState
	}
	return impl.OK
}

// stepMove: AgentStep, by the words of chapter 10 alone.
func stepMove(node string) move {
	return move{fmt.Sprintf("AgentStep %.24q", node), func(c impl.Cluster) impl.ClusterOut { return impl.AgentStep(c, node) },
		func(c impl.Cluster) (impl.Cluster, int64) {
			if code := agentWhy(c, node, false); code != impl.OK {
				return impl.Cluster{}, code
			}
			then := deepCopy(c)
			n := theNode(&then, node)
			n.Until = min(c.Now+10, 1000000)
			if byName(c.Nodes, nodeName)[node].Until <= c.Now {
				n.Mounts = nil
				stopModel(&then, node)
				return then, impl.OK
			}
			mountModel(c, n)
			if len(n.Mounts) > 8 {
				return impl.Cluster{}, impl.ErrFull
			}
			startModel(&then, *n)
			return then, impl.OK
		}}
}

// mountModel: the node's mounts that are not wanted there go, and its wanted disks that are on it are mounted.
func mountModel(c impl.Cluster, n *impl.Node) {
	wanted := map[string]bool{}
	for _, pair := range wantedModel(c) {
		if pair.Node == n.Name {
			wanted[pair.Volume] = true
		}
	}
	n.Mounts = slices.DeleteFunc(n.Mounts, func(name string) bool { return !wanted[name] })
	for _, v := range c.Volumes {
		if wanted[v.Name] && slices.Contains(v.On, n.Name) {
			n.Mounts = append(n.Mounts, v.Name)
		}
	}
	slices.Sort(n.Mounts)
	n.Mounts = slices.Compact(n.Mounts)
}

// startModel: the node's pods, all of whose disks are among its mounts, run, and no others.
func startModel(c *impl.Cluster, n impl.Node) {
	w := viewOf(*c)
	for i, p := range c.Pods {
		if p.Node != n.Name {
			continue
		}
		c.Pods[i].Phase = impl.PhPlaced
		if each(p.Claims, func(claim string) bool { return slices.Contains(n.Mounts, w.claims[claim].Volume) }) {
			c.Pods[i].Phase = impl.PhRunning
		}
	}
}

// stopModel: the node's pods that run are placed there, no more.
func stopModel(c *impl.Cluster, node string) {
	for i, p := range c.Pods {
		if p.Node == node && p.Phase == impl.PhRunning {
			c.Pods[i].Phase = impl.PhPlaced
		}
	}
}

// turnMove: a call that makes a living node a dead one, or a dead one a living one.
func turnMove(what string, node string, dead bool, do func(impl.Cluster, string) impl.ClusterOut, turn func(*impl.Cluster, *impl.Node)) move {
	return move{fmt.Sprintf("%s %.24q", what, node), func(c impl.Cluster) impl.ClusterOut { return do(c, node) },
		func(c impl.Cluster) (impl.Cluster, int64) {
			if code := agentWhy(c, node, dead); code != impl.OK {
				return impl.Cluster{}, code
			}
			return changedTo(c, func(c *impl.Cluster) {
				theNode(c, node).Dead = !dead
				turn(c, theNode(c, node))
			}), impl.OK
		}}
}

// killMove: Kill, by the words of chapter 10 alone.
func killMove(node string) move {
	return turnMove("Kill", node, false, impl.Kill, func(c *impl.Cluster, n *impl.Node) { stopModel(c, n.Name) })
}

// wakeMove: Wake, by the words of chapter 10 alone.
func wakeMove(node string) move {
	return turnMove("Wake", node, true, impl.Wake, func(c *impl.Cluster, n *impl.Node) { n.Mounts, n.Until = nil, 0 })
}

// tickMove: Tick, by the words of chapter 10 alone.
func tickMove(ticks int64) move {
	return move{fmt.Sprintf("Tick %d", ticks), func(c impl.Cluster) impl.ClusterOut { return impl.Tick(c, ticks) },
		func(c impl.Cluster) (impl.Cluster, int64) {
			switch {
			case broken(c) != "":
				return impl.Cluster{}, impl.ErrForm
			case ticks < 0 || ticks > 1000 || c.Now > 1000000-ticks:
				return impl.Cluster{}, impl.ErrRange
			}
			return changedTo(c, func(c *impl.Cluster) { c.Now += ticks }), impl.OK
		}}
}

// runsModel: what RunsOn ought to tell, by the words of chapter 10 alone.
func runsModel(c impl.Cluster, node string) []string {
	if broken(c) != "" {
		return nil
	}
	var out []string
	for _, p := range c.Pods {
		if p.Node == node && p.Phase == impl.PhRunning {
			out = append(out, p.Name)
		}
	}
	return out
}

// checkLeases: do LeaseLive and RunsOn tell what stands in the cluster?
func checkLeases(t *testing.T, c impl.Cluster) {
	t.Helper()
	right := broken(c) == ""
	for _, name := range append(namesOf(c.Nodes, nodeName), "n9", "", longName) {
		n, there := byName(c.Nodes, nodeName)[name]
		wantLive(t, "on the way", c, name, right && there && n.Until > c.Now)
		wantRuns(t, "on the way", c, name, runsModel(c, name)...)
	}
}

// wantSilent: promise 12, of a living node of a right cluster: a step without a live lease leaves nothing mounted, and nothing running.
func wantSilent(t *testing.T, c impl.Cluster, node string) string {
	t.Helper()
	if impl.LeaseLive(c, node) {
		return "live"
	}
	then := impl.AgentStep(c, node).Cluster
	n, there := byName(then.Nodes, nodeName)[node]
	if !there || len(n.Mounts) > 0 {
		t.Errorf("%s steps without a live lease: mounts %q, want none: %s", node, n.Mounts, shown(c))
	}
	wantRuns(t, "a step without a live lease", then, node)
	wantLive(t, "a step without a live lease", then, node, c.Now < 1000000)
	busy := len(byName(c.Nodes, nodeName)[node].Mounts) > 0
	return fmt.Sprintf("over, mounts %v, runs %v", busy, len(impl.RunsOn(c, node)) > 0)
}

// checkAgents: does each call of chapter 10 do what it ought to, of that node? Which way did the step go?
func checkAgents(t *testing.T, c impl.Cluster, node string) string {
	t.Helper()
	for _, m := range []move{stepMove(node), killMove(node), wakeMove(node)} {
		m.check(t, c)
	}
	checkLeases(t, c)
	switch agentWhy(c, node, false) {
	case impl.OK:
		return wantSilent(t, c, node)
	case impl.ErrForm:
		return "not right"
	case impl.ErrState:
		return "dead"
	}
	return "no such node"
}

// eachAgent: all that the node n1 and two disks may have to do with each other, beside n2, right or not.
func eachAgent(give func(impl.Cluster)) {
	ons := [][]string{nil, {"n1"}, {"n2"}, {"n1", "n2"}}
	for kind := range 2 * 3 * 2 * 4 * 4 * 6 * 3 {
		next := func(most int) int {
			out := kind % most
			kind /= most
			return out
		}
		give(attachCluster(func(c *impl.Cluster) {
			c.Nodes[0].Dead, c.Nodes[0].Until = next(2) > 0, int64(24+next(3))
			putBound(c, "a", disk("a", "east", next(2) > 0, ons[next(4)]...))
			for at := range 2 {
				if next(2) > 0 {
					c.Nodes[at].Mounts = []string{"da"}
				}
			}
			// No pod, one that waits, and one on each of the nodes, placed or running.
			if pod := next(6); pod > 0 {
				p := impl.Pod{Name: "p", Claims: []string{"a"}}
				if pod > 1 {
					p.Node, p.Phase = c.Nodes[pod/2-1].Name, int64(1+pod%2)
				}
				putPod(c, p)
			}
			secondDisk(c, next(3))
		}))
	}
}

// secondDisk: none; one that is on n1 and wanted by a second pod, placed there; or one that is mounted there, and wanted by none.
func secondDisk(c *impl.Cluster, kind int) {
	if kind == 0 {
		return
	}
	putBound(c, "b", disk("b", "east", true, "n1"))
	if kind == 1 {
		podOn(c, "q", "n1", "a", "b")
		return
	}
	podOn(c, "q", "n1")
	c.Nodes[0].Mounts = append(c.Nodes[0].Mounts, "db")
}

// Promise 12: all that one node may be like, with and without a live lease, dead and not.
func TestAgentOfOneNode(t *testing.T) {
	seen := map[string]int{}
	eachAgent(func(c impl.Cluster) {
		seen[checkAgents(t, c, "n1")]++
		if t.Failed() {
			t.FailNow()
		}
	})
	wantSeen(t, "agents", seen, "not right", "dead", "live", "over, mounts true, runs true", "over, mounts true, runs false", "over, mounts false, runs false")
}

// attach: mostly, a disk that a pod waits for is put on its node, or one is taken off that no node has mounted.
func (d *dice) attach(c *impl.Cluster) {
	w := viewOf(*c)
	pick(d, c.Pods, func(p *impl.Pod) {
		for _, claim := range p.Claims {
			for i, v := range c.Volumes {
				if v.Name == w.claims[claim].Volume && p.Node != "" && d.roll(4) > 0 {
					c.Volumes[i].On = []string{p.Node}
				}
			}
		}
	})
	pick(d, c.Volumes, func(v *impl.Volume) {
		if d.roll(4) == 0 {
			v.On = nil
		}
	})
}

// nextMove: any call that a cluster at work may see by now.
func (d *dice) nextMove() move {
	switch d.roll(9) {
	case 0:
		return killMove(d.odd(d.nodeName()))
	case 1, 2:
		return tickMove(int64(d.roll(9)) - int64(d.roll(40)/39)*20)
	case 3:
		return d.move()
	case 4:
		return wakeMove(d.odd(d.nodeName()))
	}
	return stepMove(d.odd(d.nodeName()))
}

// busyCluster: a right cluster in which some pods, with claims and without, wait for nodes that live.
func (d *dice) busyCluster() impl.Cluster {
	return changedTo(placeCluster(), func(c *impl.Cluster) {
		for _, name := range []string{"c1", "c2", "c4"} {
			putClaim(c, impl.Claim{Name: name, Size: 3, Class: d.word("slow", "slim", "far"), Single: d.flip()})
		}
		for _, name := range []string{"p1", "p2", "p3"} {
			putPod(c, impl.Pod{Name: name, Cpu: 200, Claims: d.few("c1", "c2", "c4")})
		}
	})
}

// Promises 10 and 12, wherever time leads to.
func TestManySteps(t *testing.T) {
	d := &dice{521288629}
	seen := map[string]int{}
	for range 150 {
		c := d.busyCluster()
		for step := range 60 {
			next := deepCopy(c)
			d.attach(&next)
			if broken(next) == "" {
				c = next
			}
			c = d.nextMove().check(t, c)
			var way string
			c, way = checkPlace(t, c, d.podName())
			seen[way]++
			c, way = checkEvict(t, c, d.podName())
			seen[way]++
			seen[checkAgents(t, c, d.nodeName())]++
			for _, p := range c.Pods {
				seen[fmt.Sprintf("phase %d of %d claims", p.Phase, min(len(p.Claims), 1))]++
			}
			if t.Failed() {
				t.Fatalf("at step %d", step)
			}
		}
	}
	wantSeen(t, "steps", seen, "placed", "no node", "not pending", "evicted", "grace", "not dead", "pending",
		"live", "dead", "no such node", "over, mounts true, runs true", "over, mounts false, runs true", "over, mounts false, runs false",
		"phase 0 of 1 claims", "phase 1 of 1 claims", "phase 2 of 1 claims", "phase 1 of 0 claims", "phase 2 of 0 claims")
}

// Promise 12 in clusters of all kinds, full of disks and pods, right or not.
func TestManyAgents(t *testing.T) {
	d := &dice{362437}
	seen := map[string]int{}
	for range 20 {
		c := d.messCluster()
		for step := range 60 {
			c = d.messed(c, func(wrong impl.Cluster) { seen[checkAgents(t, wrong, wrong.Nodes[d.roll(6)].Name)]++ })
			for _, n := range c.Nodes {
				seen[checkAgents(t, c, n.Name)]++
				if d.flip() {
					c = stepMove(n.Name).check(t, c)
				}
			}
			pick(d, c.Nodes, func(n *impl.Node) { n.Until = c.Now + int64(d.roll(4)) - 1 })
			if t.Failed() {
				t.Fatalf("at step %d", step)
			}
		}
	}
	wantSeen(t, "agents", seen, "not right", "dead", "live", "over, mounts true, runs true", "over, mounts true, runs false", "over, mounts false, runs false")
}

// agentClusters: clusters, right ones and others, in which agents mount, run, rest, and are dead.
func agentClusters() []impl.Cluster {
	out := append(memoryClusters(), eightCluster())
	for _, until := range []int64{24, 25, 26} {
		out = append(out, fullCluster(until), changedTo(fullCluster(until), func(c *impl.Cluster) {
			c.Nodes[0].Dead = true
			stopModel(c, "n1")
		}))
	}
	return out
}

// agentMoves: calls of every kind that do something to agentClusters, or are refused.
func agentMoves() []move {
	out := []move{tickMove(0), tickMove(7), tickMove(1000), tickMove(-1), tickMove(1001)}
	for _, name := range []string{"n1", "n2", "n3", "a", "n9", "", overlong()} {
		out = append(out, stepMove(name), killMove(name), wakeMove(name))
	}
	return out
}

// No call changes what it was handed, at any depth, nor what stands behind the ends of its lists; its answer is new memory.
func TestAgentsAreNewMemory(t *testing.T) {
	for _, start := range agentClusters() {
		c := roomyCluster(start)
		before := unfolded(c)
		for _, m := range agentMoves() {
			out := m.do(c)
			wantApart(t, m.what, out.Cluster, stretches(c))
			// Two answers have nothing in common either.
			wantApart(t, m.what+" anew", m.do(c).Cluster, stretches(out.Cluster))
		}
		for _, n := range append(c.Nodes[:len(c.Nodes):len(c.Nodes)], impl.Node{Name: "n9"}) {
			impl.LeaseLive(c, n.Name)
			runs := stretchOf("RunsOn", impl.RunsOn(c, n.Name))
			for _, other := range append(stretches(c), stretchOf("RunsOn anew", impl.RunsOn(c, n.Name))) {
				if overlap(runs, other) {
					t.Errorf("RunsOn shares memory with %s", other.what)
				}
			}
		}
		if !sameCluster(unfolded(c), before) {
			t.Fatalf("what was handed in got %s, want %s", shown(unfolded(c)), shown(before))
		}
	}
}

// An answer stays what it was when what was handed in is written over, and the other way round; nothing is kept.
func TestAgentsKeepNothing(t *testing.T) {
	done := map[string]int{}
	for _, start := range agentClusters() {
		for _, m := range agentMoves() {
			want, code := m.want(start)
			c := deepCopy(start)
			out, runs := m.do(c), impl.RunsOn(c, "n1")
			scribble(c)
			if out.Code != code || out.Name != "" || !sameCluster(out.Cluster, want) {
				t.Errorf("%s, then what was handed in was written over: got %s, want code %d, %s", m.what, shown(out), code, shown(want))
			}
			if !slices.Equal(runs, runsModel(start, "n1")) {
				t.Errorf("RunsOn, then what was handed in was written over: got %q", runs)
			}
			c = deepCopy(start)
			scribble(m.do(c).Cluster)
			spoil(impl.RunsOn(c, "n1"), "spoilt")
			if !sameCluster(c, start) {
				t.Errorf("%s, then the answer was written over: what was handed in got %s", m.what, shown(c))
			}
			m.check(t, c)
			if code == impl.OK && !sameCluster(want, start) {
				done[m.what]++
			}
		}
		checkLeases(t, deepCopy(start))
	}
	for _, m := range []move{stepMove("n1"), stepMove("n2"), killMove("n1"), killMove("n2"), wakeMove("n1"), wakeMove("n2"), wakeMove("n3"), tickMove(7)} {
		if done[m.what] == 0 {
			t.Errorf("%s changed none of the clusters: this tells nothing of it", m.what)
		}
	}
}
