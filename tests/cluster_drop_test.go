package tests

import (
	"slices"
	"strings"
	"testing"

	"loop.example/g00571/impl"
)

// dropper is how one of a kind goes from a cluster.
type dropper struct {
	call  string
	drop  func(c impl.Cluster, name string) impl.ClusterOut
	names func(c impl.Cluster) []string
}

func droppers() []dropper {
	return []dropper{
		{"DropPod", impl.DropPod, func(c impl.Cluster) []string { return namesOf(c.Pods, podName) }},
		{"DropClaim", impl.DropClaim, func(c impl.Cluster) []string { return namesOf(c.Claims, claimName) }},
		{"DropVolume", impl.DropVolume, func(c impl.Cluster) []string { return namesOf(c.Volumes, volumeName) }},
	}
}

func TestDroppedOfNoSuchName(t *testing.T) {
	names := []string{"", "a", "zz", "P1", "p", "p11", "c", "c11", "v", "v11", "_", "p1 ", " p1", "p1\n", "\xff", "-", longName, longName + "a",
		strings.Repeat("p", impl.MaxBytes), "n1", "fast", "p1", "c1", "v1"}
	for _, d := range droppers() {
		for _, c := range []impl.Cluster{{}, impl.DeskCluster(), workCluster(), restCluster()} {
			for _, name := range names {
				if !slices.Contains(d.names(c), name) {
					wantRefused(t, d.call+" "+name[:min(len(name), 24)], d.drop(c, name), impl.ErrNone)
				}
			}
		}
	}
}

// Texts that are too long are seen ahead of a wrong cluster, and that ahead of all else.
func TestDroppedFromWrongClusters(t *testing.T) {
	for _, d := range droppers() {
		for _, c := range wrongClusters() {
			for _, name := range []string{"", "A", "zz", "p1", "c1", "c3", "v1", "v3", strings.Repeat("p", impl.MaxBytes)} {
				wantRefused(t, d.call+" from a wrong cluster", d.drop(c, name), impl.ErrForm)
			}
			wantRefused(t, d.call+" of a long name from a wrong cluster", d.drop(c, overlong()), impl.ErrSize)
		}
		for _, c := range []impl.Cluster{{}, workCluster(), restCluster()} {
			for _, name := range []string{overlong(), strings.Repeat(" ", impl.MaxBytes+1), strings.Repeat("p", 100000)} {
				wantRefused(t, d.call+" of a long name", d.drop(c, name), impl.ErrSize)
			}
		}
	}
}

// A Pod goes at every phase, and nothing else with it.
func TestDropPod(t *testing.T) {
	for _, c := range []impl.Cluster{workCluster(), restCluster(), alikeCluster()} {
		for at, p := range c.Pods {
			wantBecomes(t, "DropPod "+p.Name, impl.DropPod(c, p.Name), changedTo(c, func(c *impl.Cluster) { c.Pods = slices.Delete(c.Pods, at, at+1) }))
		}
	}
	c := impl.Cluster{Pods: filled(nameRow(8), emptyPod)}
	for left := 7; left >= 0; left-- {
		out := impl.DropPod(c, c.Pods[left/2].Name)
		wantBecomes(t, "DropPod of many", out, changedTo(c, func(c *impl.Cluster) { c.Pods = slices.Delete(c.Pods, left/2, left/2+1) }))
		c = out.Cluster
	}
}

// Promise 7: of a class that keeps, the disk stays, and is bound no more.
func TestDropClaim(t *testing.T) {
	c := restCluster()
	wantBecomes(t, "DropClaim, its Volume not kept", impl.DropClaim(c, "c1"), changedTo(c, func(c *impl.Cluster) {
		c.Claims, c.Volumes = c.Claims[1:], c.Volumes[1:]
	}))
	wantBecomes(t, "DropClaim, its Volume kept", impl.DropClaim(c, "c2"), changedTo(c, func(c *impl.Cluster) {
		c.Claims = slices.Delete(c.Claims, 1, 2)
		c.Volumes[1].Claim, c.Volumes[1].Spent = "", true
	}))
	wantBecomes(t, "DropClaim, without a Volume", impl.DropClaim(c, "c3"), changedTo(c, func(c *impl.Cluster) { c.Claims = slices.Delete(c.Claims, 2, 3) }))
	wantBecomes(t, "DropClaim, without a Volume, of a Class that keeps", impl.DropClaim(c, "c4"), changedTo(c, func(c *impl.Cluster) { c.Claims = c.Claims[:3] }))
	// It is the Volume's own Class that keeps, whatever others do.
	other := changedTo(c, func(c *impl.Cluster) { c.Classes[0].Keep, c.Classes[1].Keep = true, false })
	wantBecomes(t, "DropClaim, its Volume kept then", impl.DropClaim(other, "c1"), changedTo(other, func(c *impl.Cluster) {
		c.Claims = c.Claims[1:]
		c.Volumes[0].Claim, c.Volumes[0].Spent = "", true
	}))
	wantBecomes(t, "DropClaim, its Volume not kept then", impl.DropClaim(other, "c2"), changedTo(other, func(c *impl.Cluster) {
		c.Claims, c.Volumes = slices.Delete(c.Claims, 1, 2), slices.Delete(c.Volumes, 1, 2)
	}))
}

// Promise 7: a disk that was kept serves no more; it may go as a free one does.
func TestKeptDisk(t *testing.T) {
	c := impl.DropClaim(restCluster(), "c2").Cluster
	v := c.Volumes[1]
	if !v.Spent || v.Claim != "" || v.Name != "v2" || v.Size != 9 || v.Zone != "west" || v.Class != "keep" || v.Single || len(v.On) != 0 {
		t.Errorf("the disk that was kept: got %+v", v)
	}
	wantServes(t, v, impl.Claim{Name: "c2", Size: 8, Class: "keep"}, "", false)
	wantRefused(t, "AddVolume of it", impl.AddVolume(c, with(v, func(v *impl.Volume) { v.Name = "v9" })), impl.ErrForm)
	wantBecomes(t, "DropVolume of it", impl.DropVolume(c, "v2"), changedTo(c, func(c *impl.Cluster) { c.Volumes = slices.Delete(c.Volumes, 1, 2) }))
	// A new Claim of that name is not bound to it.
	again := impl.AddClaim(c, impl.Claim{Name: "c2", Size: 8, Class: "keep"})
	wantBecomes(t, "AddClaim of that name", again, changedTo(c, func(c *impl.Cluster) {
		c.Claims = slices.Insert(c.Claims, 1, impl.Claim{Name: "c2", Size: 8, Class: "keep"})
	}))
}

func TestDropVolume(t *testing.T) {
	c := restCluster()
	wantRefused(t, "DropVolume, of a Claim", impl.DropVolume(c, "v1"), impl.ErrWait)
	wantRefused(t, "DropVolume, of a Claim, of a Class that keeps", impl.DropVolume(c, "v2"), impl.ErrWait)
	wantBecomes(t, "DropVolume, free", impl.DropVolume(c, "v3"), changedTo(c, func(c *impl.Cluster) { c.Volumes = slices.Delete(c.Volumes, 2, 3) }))
	wantBecomes(t, "DropVolume, Spent", impl.DropVolume(c, "v4"), changedTo(c, func(c *impl.Cluster) { c.Volumes = c.Volumes[:3] }))
}

// use is a way in which a Claim or a Volume of restCluster may be used, and nothing else.
type use struct {
	what            string
	claims, volumes []string
	change          func(*impl.Cluster)
}

// uses: each way, and the names of what can't go then (beside v1 and v2, which always have Claims).
func uses() []use {
	return []use{
		{"nothing", nil, nil, func(c *impl.Cluster) {}},
		{"a pending Pod has it", []string{"c1"}, nil, func(c *impl.Cluster) { c.Pods[0].Claims = []string{"c1"} }},
		{"a pending Pod has it, kept", []string{"c2"}, nil, func(c *impl.Cluster) { c.Pods[0].Claims = []string{"c2"} }},
		{"a pending Pod has it, not bound", []string{"c3"}, nil, func(c *impl.Cluster) { c.Pods[0].Claims = []string{"c3"} }},
		{"a pending Pod has three", []string{"c1", "c3", "c4"}, nil, func(c *impl.Cluster) { c.Pods[0].Claims = []string{"c1", "c3", "c4"} }},
		{"a placed Pod has it", []string{"c2"}, nil, func(c *impl.Cluster) { c.Pods[1].Claims = []string{"c2"} }},
		{"a placed Pod has it, not kept", []string{"c1"}, nil, func(c *impl.Cluster) { c.Pods[2].Claims, c.Pods[2].Phase = []string{"c1"}, impl.PhPlaced }},
		{"a running Pod has it", []string{"c1"}, nil, func(c *impl.Cluster) {
			c.Pods[2].Claims, c.Volumes[0].On, c.Nodes[0].Mounts = []string{"c1"}, []string{"n1"}, []string{"v1"}
		}},
		{"On a Node", []string{"c1"}, nil, func(c *impl.Cluster) { c.Volumes[0].On = []string{"n1"} }},
		{"On a dead Node", []string{"c2"}, nil, func(c *impl.Cluster) { c.Volumes[1].On = []string{"n2"} }},
		{"On and mounted", []string{"c1"}, nil, func(c *impl.Cluster) { c.Volumes[0].On, c.Nodes[0].Mounts = []string{"n1"}, []string{"v1"} }},
		{"mounted alone", []string{"c1"}, nil, func(c *impl.Cluster) { c.Nodes[1].Mounts = []string{"v1"} }},
		{"mounted alone, kept", []string{"c2"}, nil, func(c *impl.Cluster) { c.Nodes[1].Mounts = []string{"v2"} }},
		{"free, On a Node", nil, []string{"v3"}, func(c *impl.Cluster) { c.Volumes[2].On = []string{"n1"} }},
		{"free, On and mounted", nil, []string{"v3"}, func(c *impl.Cluster) { c.Volumes[2].On, c.Nodes[0].Mounts = []string{"n1"}, []string{"v3"} }},
		{"free, mounted alone", nil, []string{"v3"}, func(c *impl.Cluster) { c.Nodes[1].Mounts = []string{"v3"} }},
		{"Spent, On a Node", nil, []string{"v4"}, func(c *impl.Cluster) { c.Volumes[3].On = []string{"n2"} }},
		{"Spent, mounted alone", nil, []string{"v4"}, func(c *impl.Cluster) { c.Nodes[1].Mounts = []string{"v4"} }},
		{"all mounted alone", []string{"c1", "c2"}, []string{"v3", "v4"}, func(c *impl.Cluster) { c.Nodes[1].Mounts = []string{"v1", "v2", "v3", "v4"} }},
	}
}

// Promise 7: nothing goes while it is used, and what is not used goes.
func TestNothingGoesWhileItIsUsed(t *testing.T) {
	for _, u := range uses() {
		c := changedTo(restCluster(), u.change)
		wantRight(t, u.what, c, true)
		for _, x := range c.Claims {
			out := impl.DropClaim(c, x.Name)
			if slices.Contains(u.claims, x.Name) {
				wantRefused(t, u.what+": DropClaim "+x.Name, out, impl.ErrWait)
			} else if out.Code != impl.OK || slices.Contains(namesOf(out.Cluster.Claims, claimName), x.Name) || !impl.ClusterRight(out.Cluster) {
				t.Errorf("%s: DropClaim %s: got %s", u.what, x.Name, shown(out))
			}
		}
		for _, v := range c.Volumes {
			out := impl.DropVolume(c, v.Name)
			if v.Claim != "" || slices.Contains(u.volumes, v.Name) {
				wantRefused(t, u.what+": DropVolume "+v.Name, out, impl.ErrWait)
			} else if out.Code != impl.OK || slices.Contains(namesOf(out.Cluster.Volumes, volumeName), v.Name) || !impl.ClusterRight(out.Cluster) {
				t.Errorf("%s: DropVolume %s: got %s", u.what, v.Name, shown(out))
			}
		}
	}
}

// Promise 7: who uses it is told apart by kind, not by name alone.
func TestUsersOfOneName(t *testing.T) {
	c := alikeCluster()
	wantRefused(t, "DropClaim a, in use", impl.DropClaim(c, "a"), impl.ErrWait)
	wantRefused(t, "DropVolume a, in use", impl.DropVolume(c, "a"), impl.ErrWait)
	c = impl.DropPod(c, "a").Cluster
	wantRefused(t, "DropClaim a, On and mounted", impl.DropClaim(c, "a"), impl.ErrWait)
	c.Nodes[0].Mounts = nil
	wantRefused(t, "DropClaim a, On", impl.DropClaim(c, "a"), impl.ErrWait)
	wantRefused(t, "DropVolume a, On", impl.DropVolume(c, "a"), impl.ErrWait)
	c.Volumes[0].On, c.Nodes[0].Mounts, c.Nodes[0].Dead = nil, []string{"a"}, true
	wantRefused(t, "DropClaim a, mounted", impl.DropClaim(c, "a"), impl.ErrWait)
	c.Nodes[0].Mounts = nil
	wantRefused(t, "DropVolume a, of a Claim", impl.DropVolume(c, "a"), impl.ErrWait)
	waiting := changedTo(c, func(c *impl.Cluster) { c.Pods = []impl.Pod{{Name: "a", Claims: []string{"a"}}} })
	wantRefused(t, "DropClaim a, of a Pod", impl.DropClaim(waiting, "a"), impl.ErrWait)
	wantBecomes(t, "DropClaim a", impl.DropClaim(c, "a"), changedTo(c, func(c *impl.Cluster) { c.Claims, c.Volumes = nil, nil }))
	c.Classes[0].Keep = true
	wantBecomes(t, "DropClaim a, kept", impl.DropClaim(c, "a"), changedTo(c, func(c *impl.Cluster) {
		c.Claims, c.Volumes[0].Claim, c.Volumes[0].Spent = nil, "", true
	}))
}

// Promise 6: what is not placed yet can be dropped again, and all is as it was.
func TestAddedAndDroppedAgain(t *testing.T) {
	for _, c := range []impl.Cluster{{Classes: []impl.Class{{Name: "fast"}}}, impl.DeskCluster(), workCluster(), restCluster()} {
		for _, name := range []string{"a", "c0", "c9", "m", "p0", "p9", "v0", "v9", "zz", longName} {
			var claims []string
			for _, x := range c.Claims {
				claims = append(claims, x.Name)
			}
			pod := impl.Pod{Name: name, Cpu: 700, Zone: "east", Claims: claims[:min(len(claims), 3)]}
			added := impl.AddPod(c, pod)
			wantBecomes(t, "DropPod "+name, impl.DropPod(added.Cluster, name), c)
			claim := impl.Claim{Name: name, Size: 7, Class: "fast", Single: true}
			added = impl.AddClaim(c, claim)
			wantBecomes(t, "DropClaim "+name, impl.DropClaim(added.Cluster, name), c)
			volume := impl.Volume{Name: name, Size: 7, Zone: "east", Class: "fast", Single: true}
			added = impl.AddVolume(c, volume)
			wantBecomes(t, "DropVolume "+name, impl.DropVolume(added.Cluster, name), c)
			// All three at once, and gone again, the one that uses ahead of what it uses.
			added = impl.AddVolume(impl.AddClaim(c, claim).Cluster, volume)
			added = impl.AddPod(added.Cluster, impl.Pod{Name: name, Claims: []string{name}})
			wantRefused(t, "DropClaim while a Pod has it", impl.DropClaim(added.Cluster, name), impl.ErrWait)
			left := impl.DropPod(impl.DropVolume(added.Cluster, name).Cluster, name)
			wantBecomes(t, "all gone again "+name, impl.DropClaim(left.Cluster, name), c)
		}
	}
}
