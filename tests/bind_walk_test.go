package tests

import (
	"slices"
	"testing"

	"loop.example/g00571/impl"
)

// binding is what BindClaim ought to tell, and the way to it.
type binding struct {
	way     string
	cluster impl.Cluster
	name    string
	code    int64
}

// bindModel: what BindClaim ought to tell, by the words of chapter 7 alone.
func bindModel(c impl.Cluster, claim string) binding {
	w := viewOf(c)
	x, there := w.claims[claim]
	k := w.classes[x.Class]
	switch {
	case len(claim) > 8000:
		return binding{way: "too long", code: impl.ErrSize}
	case broken(c) != "":
		return binding{way: "not right", code: impl.ErrForm}
	case !there:
		return binding{way: "no such claim", code: impl.ErrNone}
	case x.Volume != "":
		return binding{way: "bound", code: impl.ErrThere}
	case k.Wait:
		return binding{way: "waits", code: impl.ErrWait}
	}
	return bindInModel(c, x, "")
}

// bindInModel: what binding the claim, which is there and not bound, in a zone (empty: any) ought to tell.
func bindInModel(c impl.Cluster, x impl.Claim, zone string) binding {
	if best, found := bestModel(c, x, zone); found {
		return binding{way: "found", cluster: tied(c, x.Name, best), name: best}
	}
	k := viewOf(c).classes[x.Class]
	if zone == "" {
		zone = k.Zone
	}
	return makeModel(c, x, k, zone)
}

// bestModel: the name of the best disk for the claim in the zone, and whether there is one.
func bestModel(c impl.Cluster, x impl.Claim, zone string) (string, bool) {
	serve := slices.DeleteFunc(slices.Clone(c.Volumes), func(v impl.Volume) bool { return lacks(v, x, zone) > 0 })
	if len(serve) == 0 {
		return "", false
	}
	// The disks stand in the order of their names, and the first of the least ones is handed back.
	return slices.MinFunc(serve, func(a impl.Volume, b impl.Volume) int { return int(a.Size - b.Size) }).Name, true
}

// makeModel: what is told if a disk is to be made in the zone.
func makeModel(c impl.Cluster, x impl.Claim, k impl.Class, zone string) binding {
	name := "v_" + x.Name
	switch {
	case zone == "":
		return binding{way: "no zone", code: impl.ErrNone}
	case k.Zone != "" && k.Zone != zone:
		return binding{way: "made elsewhere", code: impl.ErrNone}
	case len(name) > 20:
		return binding{way: "too long a name", code: impl.ErrNone}
	case slices.Contains(namesOf(c.Volumes, volumeName), name):
		return binding{way: "name there", code: impl.ErrThere}
	case len(c.Volumes) >= 8:
		return binding{way: "full", code: impl.ErrFull}
	}
	more := changedTo(c, func(c *impl.Cluster) {
		v := impl.Volume{Name: name, Size: x.Size, Zone: zone, Class: x.Class, Single: x.Single}
		c.Volumes = sorted(append(c.Volumes, v), volumeName)
	})
	return binding{way: "made", cluster: tied(more, x.Name, name), name: name}
}

// checkBind: does BindClaim do what it ought to? What is the cluster then, and which way did it go?
func checkBind(t *testing.T, c impl.Cluster, claim string) (impl.Cluster, string) {
	t.Helper()
	want := bindModel(c, claim)
	got := impl.BindClaim(c, claim)
	what := "BindClaim " + claim + " (" + want.way + ") in " + shown(c)
	if want.code != impl.OK {
		wantRefused(t, what, got, want.code)
		return c, want.way
	}
	wantNamed(t, what, got, want.cluster, want.name)
	return want.cluster, want.way
}

// checkBound: do VolumeOf and Unbound tell what stands in the cluster?
func checkBound(t *testing.T, c impl.Cluster) {
	t.Helper()
	right := broken(c) == ""
	w := viewOf(c)
	var free []string
	for _, name := range []string{"c0", "c1", "c2", "c3", "c4", "c5", "c6", longName} {
		x, there := w.claims[name]
		switch {
		case !right:
			wantVolume(t, "not right", c, name, code(impl.ErrForm))
		case !there:
			wantVolume(t, "not there", c, name, code(impl.ErrNone))
		case x.Volume == "":
			wantVolume(t, "not bound", c, name, code(impl.ErrWait))
		default:
			wantVolume(t, "bound", c, name, impl.VolumeOut{Volume: w.volumes[x.Volume]})
		}
	}
	for _, x := range c.Claims {
		if right && x.Volume == "" {
			free = append(free, x.Name)
		}
	}
	wantUnbound(t, "on the way", c, free...)
}

// claimant: the name of a claim, mostly of one that may be there.
func (d *dice) claimant() string {
	if d.roll(30) == 0 {
		return d.word("", "C", longName, overlong())
	}
	return d.claimName()
}

// bindMove: a call of chapter 6 after which a claim has more to be bound to, or less.
func (d *dice) bindMove() move {
	single := d.roll(3) > 0
	switch d.roll(6) {
	case 0:
		return volumeMove(impl.Volume{Name: "v_" + d.claimName(), Size: int64(1 + d.roll(9)), Zone: d.zone(), Class: d.className(), Single: single})
	case 1, 2:
		return claimMove(impl.Claim{Name: d.claimName(), Size: int64(1 + d.roll(9)), Class: d.className(), Single: single})
	case 3:
		return claimMove(impl.Claim{Name: longName, Size: int64(1 + d.roll(9)), Class: d.className(), Single: single})
	case 4:
		return claimDrop(d.word(longName, d.claimName()))
	}
	return volumeDrop("v_" + d.claimName())
}

// Promise 8, wherever many small changes lead to.
func TestManyBindings(t *testing.T) {
	d := &dice{2463534242}
	seen := map[string]int{}
	for _, start := range []func() impl.Cluster{workCluster, restCluster, impl.DeskCluster} {
		c := start()
		for step := range 9000 {
			if step%300 == 0 {
				c = start()
			}
			next := deepCopy(c)
			d.shake(&next)
			pick(d, next.Classes, func(k *impl.Class) { k.Wait, k.Zone = d.roll(4) == 0, d.word("", "east", "west") })
			_, way := checkBind(t, next, d.claimant())
			seen[way]++
			checkBound(t, next)
			if broken(next) == "" {
				c = next
			}
			c = d.bindMove().check(t, c)
			c = d.move().check(t, c)
			c, way = checkBind(t, c, d.claimant())
			seen[way]++
			checkBound(t, c)
			if t.Failed() {
				t.Fatalf("at step %d", step)
			}
		}
	}
	for _, way := range []string{"too long", "not right", "no such claim", "bound", "waits", "found", "no zone", "too long a name", "name there", "full", "made"} {
		if seen[way] < 20 {
			t.Errorf("%q was come by %d times: this tells nothing of it", way, seen[way])
		}
	}
}

// bindingClusters: clusters in which claims are bound, in each way, or not.
func bindingClusters() []impl.Cluster {
	on := with(freeDisk(), func(v *impl.Volume) { v.On = []string{"n1"} })
	many := changedTo(workCluster(), func(c *impl.Cluster) {
		v := impl.Volume{Name: "w", Size: 3, Zone: "east", Class: "keep", On: []string{"n1", "n2"}}
		c.Volumes = append(c.Volumes, v)
		c.Nodes[0].Slots, c.Nodes[1].Slots = 3, 3
	})
	return append(wrongClusters(), impl.Cluster{}, workCluster(), restCluster(), alikeCluster(), many, bindCluster(), bindCluster(freeDisk()), bindCluster(on),
		bindCluster(nothing("v_c1")), bindCluster(filled(nameRow(7), nothing)...))
}

// claimNames: those of all claims of bindingClusters, and others.
func claimNames() []string {
	return []string{"c1", "c2", "c3", "c4", "c5", "a", "c9", "", overlong()}
}

// No call changes what it was handed, at any depth, nor what stands behind the ends of its lists; its answer is new memory.
func TestBindingIsNewMemory(t *testing.T) {
	for _, start := range bindingClusters() {
		c := roomyCluster(start)
		before := unfolded(c)
		for _, name := range claimNames() {
			out := impl.BindClaim(c, name)
			wantApart(t, "BindClaim", out.Cluster, stretches(c))
			v := impl.VolumeOf(c, name).Volume
			wantApart(t, "VolumeOf", impl.Cluster{Volumes: []impl.Volume{v}}, stretches(c))
			// Two answers have nothing in common either.
			wantApart(t, "BindClaim anew", impl.BindClaim(c, name).Cluster, stretches(out.Cluster))
			wantApart(t, "VolumeOf anew", impl.Cluster{Volumes: []impl.Volume{v}}, []stretch{stretchOf("On", impl.VolumeOf(c, name).Volume.On)})
		}
		unbound := stretchOf("Unbound", impl.Unbound(c))
		for _, other := range append(stretches(c), stretchOf("Unbound anew", impl.Unbound(c))) {
			if overlap(unbound, other) {
				t.Errorf("Unbound shares memory with %s", other.what)
			}
		}
		if !sameCluster(unfolded(c), before) {
			t.Fatalf("what was handed in got %s, want %s", shown(unfolded(c)), shown(before))
		}
	}
}

// An answer stays what it was when what was handed in is written over, and the other way round; nothing is kept.
func TestBindingKeepsNothing(t *testing.T) {
	for _, start := range bindingClusters() {
		for _, name := range claimNames() {
			want := bindModel(start, name)
			disk := impl.VolumeOf(deepCopy(start), name)
			free := impl.Unbound(deepCopy(start))
			c := deepCopy(start)
			out, v, names := impl.BindClaim(c, name), impl.VolumeOf(c, name), impl.Unbound(c)
			scribble(c)
			if out.Code != want.code || out.Name != want.name || !sameCluster(out.Cluster, want.cluster) {
				t.Errorf("BindClaim %.24q, then what was handed in was written over: got %s", name, shown(out))
			}
			if v.Code != disk.Code || !sameVolume(v.Volume, disk.Volume) || !slices.Equal(names, free) {
				t.Errorf("VolumeOf %.24q and Unbound, then what was handed in was written over: got %s, %q", name, shown(v), names)
			}
			c = deepCopy(start)
			scribble(impl.BindClaim(c, name).Cluster)
			spoil(impl.VolumeOf(c, name).Volume.On, "spoilt")
			spoil(impl.Unbound(c), "spoilt")
			if !sameCluster(c, start) {
				t.Errorf("BindClaim, VolumeOf and Unbound %.24q, then the answers were written over: what was handed in got %s", name, shown(c))
			}
			checkBind(t, c, name)
			wantVolume(t, "anew", c, name, disk)
			wantUnbound(t, "anew", c, free...)
		}
	}
}
