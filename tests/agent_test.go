package tests

import (
	"fmt"
	"math"
	"slices"
	"testing"

	"loop.example/g00571/impl"
)

// theNode: the node of that name, to be changed.
func theNode(c *impl.Cluster, name string) *impl.Node {
	return &c.Nodes[slices.Index(namesOf(c.Nodes, nodeName), name)]
}

// agentWhy: why a call of a living node's name is refused, OK if it is not.
func agentWhy(c impl.Cluster, node string) int64 {
	n, there := byName(c.Nodes, nodeName)[node]
	switch {
	case len(node) > 8000:
		return impl.ErrSize
	case broken(c) != "":
		return impl.ErrForm
	case !there:
		return impl.ErrNone
	case n.Dead:
		return impl.ErrState
	}
	return impl.OK
}

// stepMove: AgentStep, by the words of chapter 10 alone.
func stepMove(node string) move {
	return move{"AgentStep " + node[:min(len(node), 24)], func(c impl.Cluster) impl.ClusterOut { return impl.AgentStep(c, node) },
		func(c impl.Cluster) (impl.Cluster, int64) {
			if code := agentWhy(c, node); code != impl.OK {
				return impl.Cluster{}, code
			}
			return changedTo(c, func(c *impl.Cluster) { stepModel(c, theNode(c, node)) }), impl.OK
		}}
}

// stepModel does what a step of the node's agent does.
func stepModel(c *impl.Cluster, n *impl.Node) {
	w := viewOf(*c)
	live := n.Until > c.Now
	n.Until, n.Mounts = min(c.Now+10, 1000000), nil
	for _, p := range c.Pods {
		for _, claim := range p.Claims {
			v := w.volumes[w.claims[claim].Volume]
			if live && p.Node == n.Name && slices.Contains(v.On, n.Name) && !slices.Contains(n.Mounts, v.Name) {
				n.Mounts = append(n.Mounts, v.Name)
			}
		}
	}
	slices.Sort(n.Mounts)
	for i, p := range c.Pods {
		if p.Node != n.Name {
			continue
		}
		c.Pods[i].Phase = impl.PhPlaced
		if live && each(p.Claims, func(claim string) bool { return slices.Contains(n.Mounts, w.claims[claim].Volume) }) {
			c.Pods[i].Phase = impl.PhRunning
		}
	}
}

// killMove: Kill, by the words of chapter 10 alone.
func killMove(node string) move {
	return move{"Kill " + node[:min(len(node), 24)], func(c impl.Cluster) impl.ClusterOut { return impl.Kill(c, node) },
		func(c impl.Cluster) (impl.Cluster, int64) {
			if code := agentWhy(c, node); code != impl.OK {
				return impl.Cluster{}, code
			}
			return changedTo(c, func(c *impl.Cluster) {
				theNode(c, node).Dead = true
				for i, p := range c.Pods {
					if p.Node == node && p.Phase == impl.PhRunning {
						c.Pods[i].Phase = impl.PhPlaced
					}
				}
			}), impl.OK
		}}
}

// tickMove: Tick, by the words of chapter 10 alone.
func tickMove(ticks int64) move {
	return move{fmt.Sprintf("Tick %d", ticks), func(c impl.Cluster) impl.ClusterOut { return impl.Tick(c, ticks) },
		func(c impl.Cluster) (impl.Cluster, int64) {
			switch {
			case broken(c) != "":
				return impl.Cluster{}, impl.ErrForm
			case ticks < 0 || ticks > 1000 || c.Now > 1000000-ticks:
				return impl.Cluster{}, impl.ErrRange
			}
			return changedTo(c, func(c *impl.Cluster) { c.Now += ticks }), impl.OK
		}}
}

func TestTick(t *testing.T) {
	for _, now := range []int64{0, 1, 25, 998999, 999000, 999001, 999999, 1000000} {
		c := workCluster()
		c.Now = now
		for _, ticks := range []int64{0, 1, 2, 5, 999, 1000, 1001, 1000000, -1, -25, math.MaxInt64, math.MinInt64} {
			got := impl.Tick(c, ticks)
			if ticks < 0 || ticks > 1000 || now+ticks > 1000000 {
				wantRefused(t, fmt.Sprintf("Tick %d at %d", ticks, now), got, impl.ErrRange)
				continue
			}
			wantBecomes(t, fmt.Sprintf("Tick %d at %d", ticks, now), got, changedTo(c, func(c *impl.Cluster) { c.Now = now + ticks }))
		}
	}
	for _, c := range wrongClusters() {
		wantRefused(t, "Tick in a wrong cluster", impl.Tick(c, 1), impl.ErrForm)
		wantRefused(t, "Tick of too much in a wrong cluster", impl.Tick(c, -1), impl.ErrForm)
	}
}

// No such node, too long a text, a cluster that is not right, and a node that is dead.
func TestAgentsRefused(t *testing.T) {
	calls := []func(impl.Cluster, string) impl.ClusterOut{impl.AgentStep, impl.Kill}
	for _, call := range calls {
		for _, c := range placingClusters() {
			for _, name := range strangers() {
				wantRefused(t, "no such node", call(c, name), impl.ErrNone)
			}
			for _, name := range overlongs() {
				wantRefused(t, "too long a text", call(c, name), impl.ErrSize)
			}
		}
		for _, c := range wrongClusters() {
			wantRefused(t, "a wrong cluster", call(c, "n1"), impl.ErrForm)
			wantRefused(t, "a wrong cluster, no such node", call(c, "n9"), impl.ErrForm)
			wantRefused(t, "a wrong cluster, too long a text", call(c, overlong()), impl.ErrSize)
		}
		wantRefused(t, "a dead node", call(workCluster(), "n3"), impl.ErrState)
		wantRefused(t, "a dead node", call(deadCluster(25, 40), "n1"), impl.ErrState)
	}
}

func TestKill(t *testing.T) {
	c := workCluster()
	wantBecomes(t, "Kill n1", impl.Kill(c, "n1"), changedTo(c, func(c *impl.Cluster) {
		c.Nodes[0].Dead, c.Pods[0].Phase = true, impl.PhPlaced
	}))
	wantBecomes(t, "Kill n2", impl.Kill(c, "n2"), changedTo(c, func(c *impl.Cluster) {
		c.Nodes[1].Dead, c.Pods[2].Phase = true, impl.PhPlaced
	}))
	wantBecomes(t, "Kill of one without pods", impl.Kill(impl.DeskCluster(), "n2"), changedTo(impl.DeskCluster(), func(c *impl.Cluster) {
		c.Nodes[1].Dead = true
	}))
	wantRefused(t, "Kill again", impl.Kill(impl.Kill(c, "n1").Cluster, "n1"), impl.ErrState)
}

func TestAgentStep(t *testing.T) {
	if impl.Lease != 10 {
		t.Errorf("Lease: got %d, want 10", impl.Lease)
	}
	c := workCluster()
	wantBecomes(t, "with a live lease", impl.AgentStep(c, "n1"), changedTo(c, func(c *impl.Cluster) {
		c.Nodes[0].Until, c.Pods[1].Phase = 35, impl.PhRunning
	}))
	wantBecomes(t, "without one", impl.AgentStep(c, "n2"), changedTo(c, func(c *impl.Cluster) {
		c.Nodes[1].Until, c.Nodes[1].Mounts, c.Pods[2].Phase = 35, nil, impl.PhPlaced
	}))
	// Until just Now is no live lease, and one more is.
	for until := int64(24); until <= 26; until++ {
		c.Nodes[0].Until = until
		stepMove("n1").check(t, c)
		got := impl.AgentStep(c, "n1").Cluster
		if live := len(got.Nodes[0].Mounts) == 2 && got.Pods[0].Phase == impl.PhRunning; live != (until == 26) {
			t.Errorf("Until %d at 25: got %s", until, shown(got))
		}
	}
	for _, now := range []int64{0, 999989, 999990, 999991, 1000000} {
		c.Now = now
		if got, want := impl.AgentStep(c, "n1").Cluster.Nodes[0].Until, min(now+10, 1000000); got != want {
			t.Errorf("AgentStep at %d: Until %d, want %d", now, got, want)
		}
	}
	// What nobody wants goes, what is wanted and not there is waited for, and a pod without claims needs a lease alone.
	c = claiming([]string{"a", "b"}, func(c *impl.Cluster) {
		putBound(c, "a", disk("a", "east", true, "n1"))
		putBound(c, "b", disk("b", "east", true))
		putVolume(c, disk("c", "east", true, "n1"))
		putPod(c, impl.Pod{Name: "q", Node: "n1", Phase: impl.PhPlaced})
		putPod(c, impl.Pod{Name: "r", Claims: []string{"a"}, Node: "n1", Phase: impl.PhPlaced})
		putOn(c, "p", "n1")
		c.Nodes[0].Mounts = []string{"dc"}
	})
	wantBecomes(t, "some are there", impl.AgentStep(c, "n1"), changedTo(c, func(c *impl.Cluster) {
		c.Nodes[0].Mounts, c.Nodes[0].Until = []string{"da"}, 35
		thePod(c, "q").Phase, thePod(c, "r").Phase = impl.PhRunning, impl.PhRunning
	}))
	c.Volumes[1].On = []string{"n1"}
	wantBecomes(t, "all are there", impl.AgentStep(c, "n1"), changedTo(c, func(c *impl.Cluster) {
		c.Nodes[0].Mounts, c.Nodes[0].Until = []string{"da", "db"}, 35
		for i := range c.Pods {
			c.Pods[i].Phase = impl.PhRunning
		}
	}))
}

// attach: mostly, a disk that a pod waits for is put on its node, or one is taken off that no node has mounted.
func (d *dice) attach(c *impl.Cluster) {
	w := viewOf(*c)
	pick(d, c.Pods, func(p *impl.Pod) {
		for _, claim := range p.Claims {
			for i, v := range c.Volumes {
				if v.Name == w.claims[claim].Volume && p.Node != "" && d.roll(4) > 0 {
					c.Volumes[i].On = []string{p.Node}
				}
			}
		}
	})
	pick(d, c.Volumes, func(v *impl.Volume) {
		if d.roll(4) == 0 {
			v.On = nil
		}
	})
}

// nextMove: any call that a cluster at work may see by now.
func (d *dice) nextMove() move {
	switch d.roll(8) {
	case 0:
		return killMove(d.odd(d.nodeName()))
	case 1, 2:
		return tickMove(int64(d.roll(9)) - int64(d.roll(40)/39)*20)
	case 3:
		return d.move()
	}
	return stepMove(d.odd(d.nodeName()))
}

// Promise 10, and what agents do so far, wherever time leads to.
func TestManySteps(t *testing.T) {
	d := &dice{521288629}
	seen := map[string]int{}
	for range 150 {
		c := changedTo(placeCluster(), func(c *impl.Cluster) {
			for _, name := range []string{"c1", "c2", "c4"} {
				putClaim(c, impl.Claim{Name: name, Size: 3, Class: d.word("slow", "slim", "far"), Single: d.flip()})
			}
			for _, name := range []string{"p1", "p2", "p3"} {
				putPod(c, impl.Pod{Name: name, Cpu: 200, Claims: d.few("c1", "c2", "c4")})
			}
		})
		for step := range 60 {
			next := deepCopy(c)
			d.attach(&next)
			if broken(next) == "" {
				c = next
			}
			c = d.nextMove().check(t, c)
			var way string
			c, way = checkPlace(t, c, d.podName())
			seen[way]++
			c, way = checkEvict(t, c, d.podName())
			seen[way]++
			for _, p := range c.Pods {
				seen[fmt.Sprintf("phase %d of %d claims", p.Phase, min(len(p.Claims), 1))]++
			}
			if d.roll(20) == 0 {
				pick(d, c.Nodes, func(n *impl.Node) {
					if n.Dead {
						n.Dead, n.Mounts, n.Until = false, nil, 0
					}
				})
			}
			if t.Failed() {
				t.Fatalf("at step %d", step)
			}
		}
	}
	wantSeen(t, "steps", seen, "placed", "no node", "not pending", "evicted", "grace", "not dead", "pending",
		"phase 0 of 1 claims", "phase 1 of 1 claims", "phase 2 of 1 claims", "phase 1 of 0 claims", "phase 2 of 0 claims")
}

// No call changes what it was handed, nor keeps it; its answer is new memory.
func TestAgentsAreNewMemory(t *testing.T) {
	moves := []move{stepMove("n1"), stepMove("n2"), stepMove("n9"), killMove("n1"), killMove("n2"), killMove("n9"), tickMove(0), tickMove(7), tickMove(-1)}
	for _, start := range memoryClusters() {
		for _, m := range moves {
			c := roomyCluster(start)
			before := unfolded(c)
			out := m.do(c)
			wantApart(t, m.what, out.Cluster, stretches(c))
			wantApart(t, m.what+" anew", m.do(c).Cluster, stretches(out.Cluster))
			if !sameCluster(unfolded(c), before) {
				t.Fatalf("%s: what was handed in got %s, want %s", m.what, shown(unfolded(c)), shown(before))
			}
			want, _ := m.want(start)
			scribble(c)
			if !sameCluster(out.Cluster, want) {
				t.Errorf("%s, then what was handed in was written over: got %s, want %s", m.what, shown(out), shown(want))
			}
			c = deepCopy(start)
			scribble(m.do(c).Cluster)
			if !sameCluster(c, start) {
				t.Errorf("%s, then the answer was written over: what was handed in got %s", m.what, shown(c))
			}
			m.check(t, c)
		}
	}
}
