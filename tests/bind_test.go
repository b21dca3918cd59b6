package tests

import (
	"slices"
	"strings"
	"testing"

	"loop.example/g00571/impl"
)

// bindCluster: a right cluster in which the claim c1 (aClaim) is not bound, with these disks beside one that is bound.
func bindCluster(disks ...impl.Volume) impl.Cluster {
	bound := impl.Volume{Name: "m", Size: 5, Zone: "east", Class: "fast", Single: true, Claim: "c2", On: []string{"n1"}}
	return impl.Cluster{
		Nodes: []impl.Node{
			{Name: "n1", Zone: "east", Cpu: 1000, Slots: 8, Until: 30, Mounts: []string{"m"}},
			{Name: "n2", Zone: "west", Cpu: 1000, Slots: 8, Until: 12, Dead: true},
		},
		Classes: []impl.Class{{Name: "fast", Zone: "east"}, {Name: "free"}, {Name: "slow", Wait: true, Zone: "east"}},
		Volumes: sorted(append(slices.Clone(disks), bound), volumeName),
		Claims: []impl.Claim{
			aClaim(),
			{Name: "c2", Size: 4, Class: "fast", Single: true, Volume: "m"},
			{Name: "c3", Size: 5, Class: "slow", Single: true},
		},
		Pods: []impl.Pod{
			{Name: "p1", Cpu: 100, Claims: []string{"c1", "c2"}},
			{Name: "p2", Cpu: 100, Claims: []string{"c2"}, Node: "n1", Phase: impl.PhRunning},
		},
		Now: 25,
	}
}

// tied: the cluster in which that claim and that disk of it have each other.
func tied(c impl.Cluster, claim string, volume string) impl.Cluster {
	return changedTo(c, func(c *impl.Cluster) {
		for i := range c.Claims {
			if c.Claims[i].Name == claim {
				c.Claims[i].Volume = volume
			}
		}
		for i := range c.Volumes {
			if c.Volumes[i].Name == volume {
				c.Volumes[i].Claim = claim
			}
		}
	})
}

// wantTied: the claim is bound to that disk, which is there, and nothing else is changed.
func wantTied(t *testing.T, what string, c impl.Cluster, claim string, volume string) {
	t.Helper()
	wantRight(t, what, c, true)
	wantNamed(t, what, impl.BindClaim(c, claim), tied(c, claim, volume), volume)
}

// wantMadeFor: the claim is bound to a disk that was made in that zone, and nothing else is changed.
func wantMadeFor(t *testing.T, what string, c impl.Cluster, x impl.Claim, zone string) {
	t.Helper()
	wantRight(t, what, c, true)
	name := "v_" + x.Name
	more := changedTo(c, func(c *impl.Cluster) {
		v := impl.Volume{Name: name, Size: x.Size, Zone: zone, Class: x.Class, Single: x.Single}
		c.Volumes = sorted(append(c.Volumes, v), volumeName)
	})
	wantNamed(t, what, impl.BindClaim(c, x.Name), tied(more, x.Name, name), name)
}

// wantUnbindable: the claim, which is there in a right cluster, is not bound, for this reason.
func wantUnbindable(t *testing.T, what string, c impl.Cluster, claim string, code int64) {
	t.Helper()
	wantRight(t, what, c, true)
	wantRefused(t, what, impl.BindClaim(c, claim), code)
}

func wantVolume(t *testing.T, what string, c impl.Cluster, claim string, want impl.VolumeOut) {
	t.Helper()
	got := impl.VolumeOf(c, claim)
	if got.Code != want.Code || !sameVolume(got.Volume, want.Volume) {
		t.Errorf("%s: VolumeOf %.24q: got %s, want %s", what, claim, shown(got), shown(want))
	}
}

func wantUnbound(t *testing.T, what string, c impl.Cluster, want ...string) {
	t.Helper()
	if got := impl.Unbound(c); !slices.Equal(got, want) {
		t.Errorf("%s: Unbound: got %q, want %q", what, got, want)
	}
}

// Promise 8: of those that serve it is the smallest, and of these the one of the least name.
func TestBoundToTheBest(t *testing.T) {
	west := with(diskOf("d", 5), func(v *impl.Volume) { v.Zone = "west" })
	nowhere := with(diskOf("d", 5), func(v *impl.Volume) { v.Zone = "nowhere" })
	on := with(diskOf("d", 5), func(v *impl.Volume) { v.On = []string{"n1"} })
	cases := []struct {
		what  string
		disks []impl.Volume
		want  string
	}{
		{"one of its size", []impl.Volume{diskOf("d", 5)}, "d"},
		{"a greater one", []impl.Volume{diskOf("d", 6)}, "d"},
		{"the greatest", []impl.Volume{diskOf("d", 1048576)}, "d"},
		{"the first of two", []impl.Volume{diskOf("d", 6), diskOf("e", 7)}, "d"},
		{"the last of two", []impl.Volume{diskOf("d", 7), diskOf("e", 6)}, "e"},
		{"one in the middle", []impl.Volume{diskOf("d", 7), diskOf("e", 6), diskOf("z", 8)}, "e"},
		{"the first of two alike", []impl.Volume{diskOf("d", 7), diskOf("d0", 7)}, "d"},
		{"the first of two alike behind a greater one", []impl.Volume{diskOf("d", 8), diskOf("e", 7), diskOf("z", 7)}, "e"},
		{"one in another zone than disks are made in", []impl.Volume{west}, "d"},
		{"the smallest, wherever it is", []impl.Volume{west, diskOf("a", 6)}, "d"},
		{"one in a zone without a node", []impl.Volume{nowhere}, "d"},
		{"one that is on a node", []impl.Volume{on}, "d"},
		{"one that is on a node ahead of a greater one", []impl.Volume{on, diskOf("a", 6)}, "d"},
		{"one of the name that is else made", []impl.Volume{diskOf("v_c1", 5)}, "v_c1"},
		{"one of the claim's name", []impl.Volume{diskOf("c1", 5)}, "c1"},
		{"the last of as many as may be", filled([]string{"a", "b", "c", "d", "e", "f", "g"}, func(name string) impl.Volume {
			return diskOf(name, 20-int64(name[0]-'a'))
		}), "g"},
	}
	for _, x := range cases {
		wantTied(t, x.what, bindCluster(x.disks...), "c1", x.want)
	}
}

// short is a disk that serves aClaim but for one thing.
type short struct {
	what string
	disk impl.Volume
}

// shorts: one for each thing that may lack.
func shorts() []short {
	var out []short
	for _, x := range []struct {
		what   string
		change func(*impl.Volume)
	}{
		{"its Size", func(v *impl.Volume) { v.Size = 4 }},
		{"its least Size", func(v *impl.Volume) { v.Size = 1 }},
		{"its Class", func(v *impl.Volume) { v.Class = "free" }},
		{"its Class, that waits", func(v *impl.Volume) { v.Class = "slow" }},
		{"Single", func(v *impl.Volume) { v.Single = false }},
		{"Spent", func(v *impl.Volume) { v.Spent = true }},
	} {
		out = append(out, short{x.what, with(freeDisk(), x.change)})
	}
	return out
}

// Promise 8: what does not serve is gone by, and without one that does, a disk is made.
func TestBoundWhereNoneServes(t *testing.T) {
	wantMadeFor(t, "without a free disk", bindCluster(), aClaim(), "east")
	var all []impl.Volume
	for at, x := range shorts() {
		wantMadeFor(t, "none serves for "+x.what, bindCluster(x.disk), aClaim(), "east")
		near := with(x.disk, func(v *impl.Volume) { v.On = []string{"n1"} })
		wantMadeFor(t, "none serves, on a node, for "+x.what, bindCluster(near), aClaim(), "east")
		wantTied(t, "another one serves, ahead of "+x.what, bindCluster(x.disk, diskOf("a", 9)), "c1", "a")
		wantTied(t, "another one serves, behind "+x.what, bindCluster(x.disk, diskOf("z", 9)), "c1", "z")
		all = append(all, with(x.disk, func(v *impl.Volume) { v.Name = nameRow(at + 1)[at] }))
	}
	wantMadeFor(t, "none of all those serves", bindCluster(all...), aClaim(), "east")
}

// A disk is made for what is asked, in the zone of its class.
func TestDisksMade(t *testing.T) {
	for _, name := range []string{"a", "c1", "v_c1", "m", longName[:17], longName[:18]} {
		for _, size := range []int64{1, 5, 1048576} {
			for _, single := range []bool{false, true} {
				for _, zone := range []string{"east", "west", "nowhere", longName} {
					x := impl.Claim{Name: name, Size: size, Class: "fast", Single: single}
					k := impl.Class{Name: "fast", Zone: zone, Keep: single}
					c := impl.Cluster{Classes: []impl.Class{k}, Claims: []impl.Claim{x}}
					wantMadeFor(t, "alone", c, x, zone)
					c = bindCluster()
					c.Classes[0].Zone, c.Claims = zone, []impl.Claim{c.Claims[1]}
					c.Pods = c.Pods[1:]
					c.Claims = sorted(append(c.Claims, x), claimName)
					wantMadeFor(t, "beside others", c, x, zone)
				}
			}
		}
	}
}

// What is made stands in its place by name, wherever that is.
func TestMadeDisksInPlace(t *testing.T) {
	names := []string{"a", "u", "v", "v_", "v_c", "v_c0", "v_c10", "v_c1_", "v_c1a", "v_c2", "w", "zz"}
	for count := range 8 {
		for from := 0; from+count <= len(names); from++ {
			var disks []impl.Volume
			for _, name := range names[from : from+count] {
				disks = append(disks, with(freeDisk(), func(v *impl.Volume) { v.Name, v.Spent = name, true }))
			}
			if count < 7 {
				wantMadeFor(t, "between others", bindCluster(disks...), aClaim(), "east")
			} else {
				wantUnbindable(t, "between others, one too many", bindCluster(disks...), "c1", impl.ErrFull)
			}
		}
	}
}

// nothing: a disk of that name that serves no claim.
func nothing(name string) impl.Volume {
	return with(freeDisk(), func(v *impl.Volume) { v.Name, v.Spent = name, true })
}

// The codes of making, and which of them stands first.
func TestWhyNoDiskIsMade(t *testing.T) {
	some := filled([]string{"a", "b", "c", "d", "e", "f"}, nothing)
	full := append(slices.Clone(some), nothing("g"))
	zoneless := func(c impl.Cluster) impl.Cluster {
		return changedTo(c, func(c *impl.Cluster) { c.Classes[0].Zone = "" })
	}
	wantMadeFor(t, "one less than may be", bindCluster(some...), aClaim(), "east")
	wantUnbindable(t, "as many as may be", bindCluster(full...), "c1", impl.ErrFull)
	wantUnbindable(t, "no zone", zoneless(bindCluster()), "c1", impl.ErrNone)
	wantUnbindable(t, "no zone, one less than may be", zoneless(bindCluster(some...)), "c1", impl.ErrNone)
	wantUnbindable(t, "no zone, as many as may be", zoneless(bindCluster(full...)), "c1", impl.ErrNone)
	wantUnbindable(t, "no zone, its name there", zoneless(bindCluster(nothing("v_c1"))), "c1", impl.ErrNone)
	wantUnbindable(t, "its name there", bindCluster(nothing("v_c1")), "c1", impl.ErrThere)
	for _, x := range shorts() {
		named := with(x.disk, func(v *impl.Volume) { v.Name = "v_c1" })
		wantUnbindable(t, "its name there, of one that serves but for "+x.what, bindCluster(named), "c1", impl.ErrThere)
		wantUnbindable(t, "its name there, as many as may be", bindCluster(append(some, named)...), "c1", impl.ErrThere)
		wantUnbindable(t, "its name there, no zone", zoneless(bindCluster(append(some, named)...)), "c1", impl.ErrNone)
	}
	// That of the other claim may be of that name, too.
	taken := changedTo(bindCluster(), func(c *impl.Cluster) {
		c.Volumes[0].Name, c.Claims[1].Volume, c.Nodes[0].Mounts[0] = "v_c1", "v_c1", "v_c1"
	})
	wantUnbindable(t, "its name there, bound to another claim", taken, "c1", impl.ErrThere)
	// One that serves needs no zone, no name and no room.
	for _, name := range []string{"h", "v_c1"} {
		wantTied(t, "no zone, but one that serves", zoneless(bindCluster(diskOf(name, 9))), "c1", name)
		wantTied(t, "one that serves among as many as may be", bindCluster(append(some, diskOf(name, 9))...), "c1", name)
		wantTied(t, "no zone, one that serves among as many as may be", zoneless(bindCluster(append(some, diskOf(name, 9))...)), "c1", name)
	}
}

// A claim of more than 18 bytes has no disk made, but may have one that is there.
func TestBoundByLongNames(t *testing.T) {
	for size := 17; size <= 20; size++ {
		name := longName[:size]
		called := func(c impl.Cluster) impl.Cluster {
			return changedTo(c, func(c *impl.Cluster) {
				c.Claims[0].Name, c.Pods[0].Claims = name, []string{name}
			})
		}
		full := called(bindCluster(filled(nameRow(7), nothing)...))
		wantTied(t, "one that serves", called(bindCluster(diskOf("d", 5))), name, "d")
		if size <= 18 {
			wantMadeFor(t, "a long name", called(bindCluster()), called(bindCluster()).Claims[0], "east")
			wantUnbindable(t, "a long name, its disk's there", called(bindCluster(nothing("v_"+name))), name, impl.ErrThere)
			wantUnbindable(t, "a long name, as many as may be", full, name, impl.ErrFull)
			continue
		}
		wantUnbindable(t, "too long a name", called(bindCluster()), name, impl.ErrNone)
		wantUnbindable(t, "too long a name, as many as may be", full, name, impl.ErrNone)
		wantUnbindable(t, "too long a name, one like its disk's there", called(bindCluster(nothing(("v_" + name)[:20]))), name, impl.ErrNone)
	}
}

// A claim whose class waits is not bound by itself, whatever there is for it.
func TestBoundWhenTheClassWaits(t *testing.T) {
	slow := with(freeDisk(), func(v *impl.Volume) { v.Class = "slow" })
	named := with(slow, func(v *impl.Volume) { v.Name = "v_c3" })
	for _, disks := range [][]impl.Volume{nil, {slow}, {named}, {nothing("v_c3")}, filled(nameRow(7), nothing)} {
		for _, zone := range []string{"", "east"} {
			for _, keep := range []bool{false, true} {
				c := bindCluster(disks...)
				c.Classes[2].Zone, c.Classes[2].Keep = zone, keep
				wantUnbindable(t, "its class waits", c, "c3", impl.ErrWait)
			}
		}
	}
	// It is the claim's own class that counts.
	c := bindCluster(slow)
	c.Classes[0].Wait, c.Classes[1].Wait, c.Classes[2].Wait = true, true, false
	wantUnbindable(t, "its class waits now", c, "c1", impl.ErrWait)
	wantTied(t, "its class waits no more", c, "c3", "d1")
}

// A claim that is bound stays so, also if its class waits, and whatever else there is for it.
func TestBoundAgain(t *testing.T) {
	for _, wait := range []bool{false, true} {
		for _, zone := range []string{"", "east", "west"} {
			for _, disks := range [][]impl.Volume{nil, {diskOf("a", 4)}, {diskOf("v_c2", 9)}, filled(nameRow(7), nothing)} {
				c := bindCluster(disks...)
				c.Classes[0].Wait, c.Classes[0].Zone = wait, zone
				wantUnbindable(t, "it is bound", c, "c2", impl.ErrThere)
			}
		}
	}
	c := impl.BindClaim(bindCluster(), "c1").Cluster
	wantUnbindable(t, "it was bound to what was made", c, "c1", impl.ErrThere)
	c = impl.BindClaim(bindCluster(diskOf("d", 7)), "c1").Cluster
	wantUnbindable(t, "it was bound to what was there", c, "c1", impl.ErrThere)
}

// noClaims: names of no claim of the clusters of these tests, all of them short enough to be handed in.
func noClaims() []string {
	return []string{"", "a", "c", "c0", "c10", "c11", "c9", "zz", "C1", "c1 ", " c1", "c1\n", "_", "-", "\x00", "\xff", "n1", "fast", "m", "v1", "v_c1", "p1",
		longName, longName + "a", strings.Repeat("c", impl.MaxBytes)}
}

func TestBindingOfNoSuchClaim(t *testing.T) {
	empty := impl.Cluster{}
	for _, c := range []impl.Cluster{empty, impl.DeskCluster(), workCluster(), restCluster(), bindCluster(), bindCluster(diskOf("d", 5)), bindCluster(filled(nameRow(7), nothing)...)} {
		for _, name := range noClaims() {
			wantUnbindable(t, "no such claim", c, name, impl.ErrNone)
			wantVolume(t, "no such claim", c, name, code(impl.ErrNone))
		}
		for _, name := range []string{overlong(), strings.Repeat(" ", impl.MaxBytes+1), strings.Repeat("c", 100000)} {
			wantUnbindable(t, "too long a text", c, name, impl.ErrSize)
			wantVolume(t, "too long a text", c, name, code(impl.ErrSize))
		}
	}
}

// Too long a text is seen ahead of a wrong cluster, and that ahead of all else.
func TestBindingInWrongClusters(t *testing.T) {
	for _, c := range wrongClusters() {
		for _, name := range append(noClaims(), "c1", "c2", "c3", "c4") {
			wantRefused(t, "BindClaim in a wrong cluster", impl.BindClaim(c, name), impl.ErrForm)
			wantVolume(t, "in a wrong cluster", c, name, code(impl.ErrForm))
		}
		wantRefused(t, "BindClaim of too long a text in a wrong cluster", impl.BindClaim(c, overlong()), impl.ErrSize)
		wantVolume(t, "too long a text in a wrong cluster", c, overlong(), code(impl.ErrSize))
		wantUnbound(t, "a wrong cluster", c)
	}
	// Bound on one side alone is not right.
	for _, change := range []func(*impl.Cluster){
		func(c *impl.Cluster) { c.Claims[0].Volume = "d1" },
		func(c *impl.Cluster) { c.Volumes[0].Claim = "c1" },
		func(c *impl.Cluster) { c.Claims[1].Volume = "" },
		func(c *impl.Cluster) { c.Volumes[1].Claim = "" },
	} {
		c := changedTo(bindCluster(freeDisk()), change)
		for _, name := range []string{"c1", "c2", "c3", "c9"} {
			wantRefused(t, "BindClaim, bound on one side", impl.BindClaim(c, name), impl.ErrForm)
			wantVolume(t, "bound on one side", c, name, code(impl.ErrForm))
		}
		wantUnbound(t, "bound on one side", c)
	}
}

func TestVolumeOf(t *testing.T) {
	c := workCluster()
	for at, x := range c.Claims {
		if x.Volume != "" {
			wantVolume(t, "bound", c, x.Name, impl.VolumeOut{Volume: c.Volumes[at]})
		} else {
			wantVolume(t, "not bound", c, x.Name, code(impl.ErrWait))
		}
	}
	wantVolume(t, "all of one name", alikeCluster(), "a", impl.VolumeOut{Volume: alikeCluster().Volumes[0]})
	// It is the disk that has the claim, not one at its place or of its name.
	c = impl.Cluster{
		Classes: []impl.Class{{Name: "fast"}},
		Volumes: []impl.Volume{diskOf("c1", 9), diskOf("c2", 8), diskOf("c3", 7), diskOf("c4", 6)},
		Claims:  filled([]string{"c1", "c2", "c3"}, func(name string) impl.Claim { return with(aClaim(), func(x *impl.Claim) { x.Name = name }) }),
	}
	c = tied(tied(c, "c1", "c3"), "c3", "c1")
	wantRight(t, "crosswise", c, true)
	wantVolume(t, "crosswise", c, "c1", impl.VolumeOut{Volume: c.Volumes[2]})
	wantVolume(t, "crosswise", c, "c3", impl.VolumeOut{Volume: c.Volumes[0]})
	wantVolume(t, "one of its name alone", c, "c2", code(impl.ErrWait))
	wantVolume(t, "a disk alone", c, "c4", code(impl.ErrNone))
}

func TestUnbound(t *testing.T) {
	wantUnbound(t, "nothing at all", impl.Cluster{})
	wantUnbound(t, "without claims", impl.DeskCluster())
	wantUnbound(t, "empty lists", impl.Cluster{Claims: []impl.Claim{}})
	wantUnbound(t, "some", workCluster(), "c4", "c5")
	wantUnbound(t, "the first and the last", bindCluster(), "c1", "c3")
	wantUnbound(t, "all bound", alikeCluster())
	c := impl.Cluster{Classes: []impl.Class{{Name: "fast"}}, Claims: filled(nameRow(8), freeClaim), Volumes: filled(nameRow(8), freeVolume)}
	wantUnbound(t, "none bound", c, nameRow(8)...)
	left := nameRow(8)
	for _, at := range []int{3, 0, 5, 3, 3, 0, 1, 0} {
		out := impl.BindClaim(c, left[at])
		// All disks are alike, so the first that is free is taken.
		wantNamed(t, "BindClaim "+left[at], out, tied(c, left[at], nameRow(8)[8-len(left)]), nameRow(8)[8-len(left)])
		c, left = out.Cluster, slices.Delete(left, at, at+1)
		wantUnbound(t, "one less", c, left...)
	}
}

// Promise 8: what is bound is so on both sides, to a disk that served it.
func TestBoundOnBothSides(t *testing.T) {
	far := with(freeDisk(), func(v *impl.Volume) { v.Zone = "west" })
	for _, disks := range [][]impl.Volume{nil, {freeDisk()}, {diskOf("a", 9), diskOf("z", 8)}, {far}, {nothing("a"), nothing("z")}} {
		before := bindCluster(disks...)
		out := impl.BindClaim(before, "c1")
		v := impl.VolumeOf(out.Cluster, "c1").Volume
		x := out.Cluster.Claims[0]
		if x.Volume != v.Name || out.Name != v.Name || v.Claim != "c1" || v.Name == "" {
			t.Errorf("BindClaim c1: got %s, the claim %+v and the disk %+v", shown(out), x, v)
		}
		wantServes(t, with(v, func(v *impl.Volume) { v.Claim = "" }), aClaim(), "", true)
		wantUnbound(t, "behind it", out.Cluster, "c3")
		wantVolume(t, "the other one", out.Cluster, "c2", impl.VolumeOf(before, "c2"))
		// What was bound may go again, and a disk that was made for it with it.
		rest := impl.DropPod(out.Cluster, "p1").Cluster
		gone := impl.DropClaim(rest, "c1")
		if len(disks) == 0 {
			wantBecomes(t, "DropClaim of it", gone, impl.DropClaim(impl.DropPod(before, "p1").Cluster, "c1").Cluster)
		}
		wantRefused(t, "DropVolume of its disk", impl.DropVolume(out.Cluster, v.Name), impl.ErrWait)
	}
}

// One disk is bound once: the next claim gets another one.
func TestBoundOneByOne(t *testing.T) {
	c := impl.Cluster{Classes: []impl.Class{{Name: "fast", Zone: "west"}}, Volumes: []impl.Volume{diskOf("a", 6), diskOf("b", 9), nothing("z")}}
	for _, name := range []string{"c1", "c2", "c3", "c4", "c5", "c6", "c7", "c8"} {
		c = impl.AddClaim(c, with(aClaim(), func(x *impl.Claim) { x.Name = name })).Cluster
	}
	wantTied(t, "the best", c, "c5", "a")
	c = impl.BindClaim(c, "c5").Cluster
	wantTied(t, "the next one", c, "c1", "b")
	c = impl.BindClaim(c, "c1").Cluster
	for _, at := range []int{7, 1, 3, 5, 2} {
		wantMadeFor(t, "none left", c, c.Claims[at], "west")
		c = impl.BindClaim(c, c.Claims[at].Name).Cluster
	}
	wantUnbindable(t, "no room left", c, "c7", impl.ErrFull)
	wantUnbound(t, "no room left", c, "c7")
	// A disk that is Spent goes, and there is room again.
	c = impl.DropVolume(c, "z").Cluster
	wantMadeFor(t, "room again", c, c.Claims[6], "west")
}
