package tests

import (
	"math"
	"reflect"
	"slices"
	"strings"
	"testing"

	"loop.example/g00571/impl"
)

// freeDisk: a disk that serves aClaim in the zone east, and no less than that.
func freeDisk() impl.Volume {
	return impl.Volume{Name: "d1", Size: 5, Zone: "east", Class: "fast", Single: true}
}

// diskOf: a disk like freeDisk of this name and size.
func diskOf(name string, size int64) impl.Volume {
	v := freeDisk()
	v.Name, v.Size = name, size
	return v
}

// with: the thing, so changed.
func with[T any](thing T, change func(*T)) T {
	change(&thing)
	return thing
}

// overlong: a text of one byte more than may be handed in.
func overlong() string {
	return strings.Repeat("a", impl.MaxBytes+1)
}

// noZones: texts that no call takes as a zone, all of them short enough to be handed in.
func noZones() []string {
	return []string{"-", "East", "east ", " east", "0", "_", "a-b", "\n", "east\n", "\x00", "\xff", "\u00e4", longName + "a", strings.Repeat("a", impl.MaxBytes)}
}

// wrongDisks: disks that are not right, each by one fault, and else serve aClaim.
func wrongDisks() []impl.Volume {
	var out []impl.Volume
	for _, change := range []func(*impl.Volume){
		func(v *impl.Volume) { v.Name = "" },
		func(v *impl.Volume) { v.Name = "D" },
		func(v *impl.Volume) { v.Name = longName + "a" },
		func(v *impl.Volume) { v.Size = 0 },
		func(v *impl.Volume) { v.Size = -5 },
		func(v *impl.Volume) { v.Size = 1048577 },
		func(v *impl.Volume) { v.Size = math.MaxInt64 },
		func(v *impl.Volume) { v.Zone = "" },
		func(v *impl.Volume) { v.Zone = "-" },
		func(v *impl.Volume) { v.Class = "" },
		func(v *impl.Volume) { v.Claim = "C" },
		func(v *impl.Volume) { v.Claim, v.Spent = "c1", true },
		func(v *impl.Volume) { v.On = []string{""} },
		func(v *impl.Volume) { v.On = []string{"n1", "n2"} },
		func(v *impl.Volume) { v.Single, v.On = false, []string{"n2", "n1"} },
		func(v *impl.Volume) { v.Single, v.On = false, nameRow(7) },
		func(v *impl.Volume) { *v = impl.Volume{} },
	} {
		out = append(out, with(freeDisk(), change))
	}
	return out
}

// wrongClaims: claims that are not right, each by one fault.
func wrongClaims() []impl.Claim {
	var out []impl.Claim
	for _, change := range []func(*impl.Claim){
		func(c *impl.Claim) { c.Name = "" },
		func(c *impl.Claim) { c.Name = "C" },
		func(c *impl.Claim) { c.Name = longName + "a" },
		func(c *impl.Claim) { c.Name = overlong() },
		func(c *impl.Claim) { c.Size = 0 },
		func(c *impl.Claim) { c.Size = -5 },
		func(c *impl.Claim) { c.Size = 1048577 },
		func(c *impl.Claim) { c.Class = "" },
		func(c *impl.Claim) { c.Class = "Fast" },
		func(c *impl.Claim) { c.Volume = "V" },
		func(c *impl.Claim) { *c = impl.Claim{} },
	} {
		out = append(out, with(aClaim(), change))
	}
	return out
}

// wrongClasses: classes that are not right, each by one fault.
func wrongClasses() []impl.Class {
	var out []impl.Class
	for _, change := range []func(*impl.Class){
		func(k *impl.Class) { k.Name = "" },
		func(k *impl.Class) { k.Name = "Fast" },
		func(k *impl.Class) { k.Name = longName + "a" },
		func(k *impl.Class) { k.Zone = "-" },
		func(k *impl.Class) { k.Zone = "East" },
		func(k *impl.Class) { k.Zone = longName + "a" },
		func(k *impl.Class) { *k = impl.Class{} },
	} {
		out = append(out, with(aClass(), change))
	}
	return out
}

// sameVolume: an empty list of nodes and none are the same.
func sameVolume(a impl.Volume, b impl.Volume) bool {
	same := slices.Equal(a.On, b.On)
	a.On, b.On = nil, nil
	return same && reflect.DeepEqual(a, b)
}

func wantServes(t *testing.T, v impl.Volume, c impl.Claim, zone string, want bool) {
	t.Helper()
	if got := impl.Serves(v, c, zone); got != want {
		t.Errorf("Serves(%+v, %+v, %.24q): got %v, want %v", v, c, zone, got, want)
	}
}

func wantBest(t *testing.T, l []impl.Volume, c impl.Claim, zone string, want impl.VolumeOut) {
	t.Helper()
	got := impl.BestFor(l, c, zone)
	if got.Code != want.Code || !sameVolume(got.Volume, want.Volume) {
		t.Errorf("BestFor(%d volumes, %+v .., %+v, %.24q): got %+v, want %+v", len(l), l[:min(len(l), 8)], c, zone, got, want)
	}
}

func wantMayMake(t *testing.T, k impl.Class, zone string, want bool) {
	t.Helper()
	if got := impl.MayMake(k, zone); got != want {
		t.Errorf("MayMake(%+v, %.24q): got %v, want %v", k, zone, got, want)
	}
}

func wantMade(t *testing.T, c impl.Claim, k impl.Class, zone string, want impl.VolumeOut) {
	t.Helper()
	got := impl.MakeFor(c, k, zone)
	if got.Code != want.Code || !sameVolume(got.Volume, want.Volume) {
		t.Errorf("MakeFor(%+v, %+v, %.24q): got %+v, want %+v", c, k, zone, got, want)
	}
}

// code: what is told beside this code.
func code(n int64) impl.VolumeOut {
	return impl.VolumeOut{Code: n}
}

func TestServes(t *testing.T) {
	cases := []struct {
		what   string
		change func(*impl.Volume)
		want   bool
	}{
		{"as it is", func(v *impl.Volume) {}, true},
		{"of another Class", func(v *impl.Volume) { v.Class = "slow" }, false},
		{"of a Class that the other begins", func(v *impl.Volume) { v.Class = "fas" }, false},
		{"of a Class that begins the other", func(v *impl.Volume) { v.Class = "faster" }, false},
		{"of another Single", func(v *impl.Volume) { v.Single = false }, false},
		{"Spent", func(v *impl.Volume) { v.Spent = true }, false},
		{"of a Claim", func(v *impl.Volume) { v.Claim = "c2" }, false},
		{"of that Claim", func(v *impl.Volume) { v.Claim = "c1" }, false},
		{"of less Size", func(v *impl.Volume) { v.Size = 4 }, false},
		{"of the least Size", func(v *impl.Volume) { v.Size = 1 }, false},
		{"of more Size", func(v *impl.Volume) { v.Size = 6 }, true},
		{"of the most Size", func(v *impl.Volume) { v.Size = 1048576 }, true},
		{"in another Zone", func(v *impl.Volume) { v.Zone = "west" }, false},
		{"in a Zone that begins that one", func(v *impl.Volume) { v.Zone = "eas" }, false},
		{"in a Zone that that one begins", func(v *impl.Volume) { v.Zone = "east1" }, false},
		{"of another Name", func(v *impl.Volume) { v.Name = "zz" }, true},
		{"On a Node", func(v *impl.Volume) { v.On = []string{"n1"} }, true},
	}
	for _, c := range cases {
		v := with(freeDisk(), c.change)
		if got := impl.Serves(v, aClaim(), "east"); got != c.want {
			t.Errorf("a Volume %s: got %v, want %v", c.what, got, c.want)
		}
		// In any zone, that of the disk counts no more.
		if got, want := impl.Serves(v, aClaim(), ""), c.want || v.Zone != "east"; got != want {
			t.Errorf("a Volume %s, in any zone: got %v, want %v", c.what, got, want)
		}
	}
}

func TestServesMany(t *testing.T) {
	v := with(freeDisk(), func(v *impl.Volume) { v.Single, v.On = false, nameRow(6) })
	wantServes(t, v, aClaim(), "east", false)
	c := with(aClaim(), func(c *impl.Claim) { c.Single = false })
	wantServes(t, v, c, "east", true)
	wantServes(t, freeDisk(), c, "east", false)
}

func TestServesEdges(t *testing.T) {
	for _, c := range []struct {
		disk, claim int64
		want        bool
	}{
		{1, 1, true}, {1, 2, false}, {2, 1, true}, {1048576, 1048576, true}, {1048575, 1048576, false}, {1048576, 1048575, true}, {1, 1048576, false},
	} {
		wantServes(t, diskOf("d1", c.disk), with(aClaim(), func(x *impl.Claim) { x.Size = c.claim }), "", c.want)
	}
	// A claim that is bound is right, and it is not asked of it.
	wantServes(t, freeDisk(), with(aClaim(), func(c *impl.Claim) { c.Volume = "d2" }), "east", true)
	wantServes(t, freeDisk(), with(aClaim(), func(c *impl.Claim) { c.Name = longName }), "east", true)
	far := with(freeDisk(), func(v *impl.Volume) { v.Zone = longName })
	wantServes(t, far, aClaim(), longName, true)
	wantServes(t, far, aClaim(), longName[:19], false)
}

func TestServesWrongThings(t *testing.T) {
	for _, zone := range append(noZones(), overlong()) {
		wantServes(t, freeDisk(), aClaim(), zone, false)
		wantServes(t, with(freeDisk(), func(v *impl.Volume) { v.Zone = zone }), aClaim(), zone, false)
	}
	for _, zone := range []string{"", "east"} {
		for _, v := range wrongDisks() {
			wantServes(t, v, aClaim(), zone, false)
			wantServes(t, v, with(aClaim(), func(c *impl.Claim) { c.Single = v.Single }), zone, false)
		}
		for _, c := range wrongClaims() {
			wantServes(t, freeDisk(), c, zone, false)
			wantServes(t, with(freeDisk(), func(v *impl.Volume) { v.Class, v.Size = c.Class, max(c.Size, 1) }), c, zone, false)
		}
	}
}

// someDisks: disks that differ in all that counts, right ones alone.
func someDisks() []impl.Volume {
	var out []impl.Volume
	for _, class := range []string{"fast", "slow"} {
		for _, zone := range []string{"east", "west"} {
			for _, single := range []bool{false, true} {
				for _, size := range []int64{4, 5, 6} {
					v := impl.Volume{Name: "d" + string(rune('a'+len(out)%26)), Size: size, Zone: zone, Class: class, Single: single}
					out = append(out, v, with(v, func(v *impl.Volume) { v.Spent = true }),
						with(v, func(v *impl.Volume) { v.Claim = "c1" }), with(v, func(v *impl.Volume) { v.On = []string{"n1"} }))
				}
			}
		}
	}
	return out
}

// lacks: how much of what is asked of a right disk it lacks.
func lacks(v impl.Volume, c impl.Claim, zone string) int {
	count := 0
	for _, lack := range []bool{v.Class != c.Class, v.Single != c.Single, v.Spent, len(v.Claim) > 0, v.Size < c.Size, zone != "" && zone != v.Zone} {
		if lack {
			count++
		}
	}
	return count
}

func TestServesEachDisk(t *testing.T) {
	for _, v := range someDisks() {
		for _, class := range []string{"fast", "slow"} {
			for _, single := range []bool{false, true} {
				for _, size := range []int64{4, 5, 6} {
					for _, zone := range []string{"", "east", "west", "north"} {
						c := impl.Claim{Name: "c1", Size: size, Class: class, Single: single}
						wantServes(t, v, c, zone, lacks(v, c, zone) == 0)
					}
				}
			}
		}
	}
}

// Promise 5.
func TestBestFor(t *testing.T) {
	a, b, c := diskOf("a", 9), diskOf("b", 6), diskOf("c", 7)
	far := with(diskOf("d", 5), func(v *impl.Volume) { v.Zone = "west" })
	on := with(diskOf("e", 5), func(v *impl.Volume) { v.On = []string{"n1"} })
	cases := []struct {
		list []impl.Volume
		zone string
		want impl.VolumeOut
	}{
		{[]impl.Volume{a}, "", impl.VolumeOut{Volume: a}},
		{[]impl.Volume{a, b}, "", impl.VolumeOut{Volume: b}},
		{[]impl.Volume{b, a}, "", impl.VolumeOut{Volume: b}},
		{[]impl.Volume{a, b, c}, "east", impl.VolumeOut{Volume: b}},
		{[]impl.Volume{c, b, a}, "east", impl.VolumeOut{Volume: b}},
		{[]impl.Volume{a, b, c, far}, "", impl.VolumeOut{Volume: far}},
		{[]impl.Volume{far, c, b, a}, "east", impl.VolumeOut{Volume: b}},
		{[]impl.Volume{a, b, c, far}, "west", impl.VolumeOut{Volume: far}},
		{[]impl.Volume{a, b, c, far}, "north", code(impl.ErrNone)},
		{[]impl.Volume{a, b, c}, "west", code(impl.ErrNone)},
		{[]impl.Volume{a, on, b}, "east", impl.VolumeOut{Volume: on}},
		{[]impl.Volume{diskOf("a", 4), diskOf("b", 1)}, "", code(impl.ErrNone)},
		{[]impl.Volume{diskOf("a", 4), diskOf("b", 1048576)}, "", impl.VolumeOut{Volume: diskOf("b", 1048576)}},
		{nil, "", code(impl.ErrNone)},
		{[]impl.Volume{}, "east", code(impl.ErrNone)},
	}
	for _, x := range cases {
		wantBest(t, x.list, aClaim(), x.zone, x.want)
	}
}

// Promise 5: of disks of one size, the one of the least name.
func TestBestOfOneSize(t *testing.T) {
	names := []string{"a", "a0", "a_", "aa", "b", "ba", longName, "z"}
	slices.Sort(names)
	var rising, falling []impl.Volume
	for _, name := range names {
		rising = append(rising, diskOf(name, 7))
		falling = append([]impl.Volume{diskOf(name, 7)}, falling...)
	}
	for at := range names {
		wantBest(t, rising[at:], aClaim(), "", impl.VolumeOut{Volume: rising[at]})
		wantBest(t, falling[:len(names)-at], aClaim(), "", impl.VolumeOut{Volume: rising[at]})
		wantBest(t, falling[at:], aClaim(), "east", impl.VolumeOut{Volume: rising[0]})
		// A smaller one goes ahead, whatever its name.
		smaller := slices.Clone(rising)
		smaller[at].Size = 6
		wantBest(t, smaller, aClaim(), "east", impl.VolumeOut{Volume: smaller[at]})
		// One that does not serve goes by, whatever its name and size.
		spent := slices.Clone(rising)
		spent[at].Spent, spent[at].Size = true, 5
		best := rising[0]
		if at == 0 {
			best = rising[1]
		}
		wantBest(t, spent, aClaim(), "east", impl.VolumeOut{Volume: best})
	}
}

// wantPromised: the best disk serves the claim, and none that serves it is smaller, or as small and of a lesser name.
func wantPromised(t *testing.T, l []impl.Volume, c impl.Claim, zone string) {
	t.Helper()
	got := impl.BestFor(l, c, zone)
	among := false
	for _, v := range l {
		among = among || sameVolume(v, got.Volume)
		if lacks(v, c, zone) > 0 {
			continue
		}
		if got.Code != impl.OK || v.Size < got.Volume.Size || v.Size == got.Volume.Size && v.Name < got.Volume.Name {
			t.Errorf("BestFor(%+v, %+v, %q): got %+v, though %+v is there", l, c, zone, got, v)
		}
	}
	if got.Code == impl.OK && (!among || lacks(got.Volume, c, zone) > 0) {
		t.Errorf("BestFor(%+v, %+v, %q): got %+v, which does not serve it", l, c, zone, got)
	}
	if got.Code != impl.OK && (got.Code != impl.ErrNone || !sameVolume(got.Volume, impl.Volume{})) {
		t.Errorf("BestFor(%+v, %+v, %q): got %+v", l, c, zone, got)
	}
}

// Promise 5.
func TestBestOfManyLists(t *testing.T) {
	disks := someDisks()
	picks := scattered(20000)
	for at := 0; at+9 <= len(picks); at += 9 {
		var list []impl.Volume
		for _, pick := range picks[at : at+int(uint64(picks[at])%9)] {
			v := disks[uint64(pick)%uint64(len(disks))]
			v.Name = "d" + string(rune('a'+uint64(pick)/7%26))
			v.Size = 3 + int64(uint64(pick)/11%6)
			list = append(list, v)
		}
		for _, zone := range []string{"", "east", "west", "north"} {
			wantPromised(t, list, aClaim(), zone)
			wantPromised(t, list, impl.Claim{Name: "c2", Size: 4, Class: "slow", Volume: "d1"}, zone)
		}
	}
}

func TestBestOfListLengths(t *testing.T) {
	for _, count := range []int{0, 1, 7, 8, 9, 10, 399, 400, 401, 402, 1000} {
		want := code(impl.OK)
		switch {
		case count > 400:
			want.Code = impl.ErrSize
		case count > 8:
			want.Code = impl.ErrForm
		case count == 0:
			want.Code = impl.ErrNone
		default:
			want.Volume = diskOf(nameRow(1)[0], 6)
		}
		var list []impl.Volume
		for _, name := range nameRow(min(count, 600)) {
			list = append(list, diskOf(name, 6))
		}
		for len(list) < count {
			list = append(list, diskOf("zz", 6))
		}
		wantBest(t, list, aClaim(), "east", want)
		if count > 400 {
			// The list's length is looked at ahead of what is in it.
			wantBest(t, make([]impl.Volume, count), impl.Claim{}, "-", want)
		} else if count > 0 {
			wantBest(t, make([]impl.Volume, count), aClaim(), "east", code(impl.ErrForm))
		}
	}
}

func TestBestOfWrongThings(t *testing.T) {
	disks := []impl.Volume{diskOf("a", 9), diskOf("b", 6)}
	for _, v := range wrongDisks() {
		// Wherever it stands, and though one that is right serves; also if it would not serve itself.
		for at := range 3 {
			list := slices.Insert(slices.Clone(disks), at, v)
			wantBest(t, list, aClaim(), "", code(impl.ErrForm))
			wantBest(t, list, aClaim(), "west", code(impl.ErrForm))
		}
		full := slices.Repeat([]impl.Volume{diskOf("a", 9)}, 8)
		full[7] = v
		wantBest(t, full, aClaim(), "east", code(impl.ErrForm))
	}
	for _, c := range wrongClaims() {
		wantBest(t, disks, c, "", code(impl.ErrForm))
		wantBest(t, nil, c, "east", code(impl.ErrForm))
	}
	for _, zone := range noZones() {
		wantBest(t, disks, aClaim(), zone, code(impl.ErrForm))
		wantBest(t, nil, aClaim(), zone, code(impl.ErrForm))
	}
}

func TestFirstFaultOfBest(t *testing.T) {
	right, wrong := []impl.Volume{freeDisk()}, []impl.Volume{{}}
	long := make([]impl.Volume, impl.MaxList+1)
	for _, list := range [][]impl.Volume{nil, right, wrong, make([]impl.Volume, 9), long} {
		for _, c := range []impl.Claim{aClaim(), {}} {
			wantBest(t, list, c, overlong(), code(impl.ErrSize))
		}
	}
	for _, zone := range []string{"", "east", "-", overlong()} {
		for _, c := range []impl.Claim{aClaim(), {}} {
			wantBest(t, long, c, zone, code(impl.ErrSize))
		}
	}
	for _, zone := range []string{"west", "-"} {
		wantBest(t, right, impl.Claim{}, zone, code(impl.ErrForm))
		wantBest(t, wrong, aClaim(), zone, code(impl.ErrForm))
		wantBest(t, wrong, impl.Claim{}, zone, code(impl.ErrForm))
	}
	wantBest(t, right, aClaim(), "-", code(impl.ErrForm))
	wantBest(t, right, aClaim(), "west", code(impl.ErrNone))
}

func TestMayMake(t *testing.T) {
	for _, class := range []impl.Class{{Name: "fast"}, {Name: "fast", Wait: true}, {Name: "fast", Keep: true}, {Name: longName, Wait: true, Keep: true}} {
		for _, zone := range []string{"east", "west", "a", longName} {
			wantMayMake(t, class, zone, true)
			here := with(class, func(k *impl.Class) { k.Zone = zone })
			wantMayMake(t, here, zone, true)
			wantMayMake(t, here, "north", false)
			wantMayMake(t, here, zone[:len(zone)-1], false)
		}
		for _, zone := range append(noZones(), "", overlong()) {
			wantMayMake(t, class, zone, false)
			wantMayMake(t, with(class, func(k *impl.Class) { k.Zone = "east" }), zone, false)
			wantMayMake(t, with(class, func(k *impl.Class) { k.Zone = zone }), zone, false)
		}
	}
	for _, k := range wrongClasses() {
		wantMayMake(t, k, "east", false)
		wantMayMake(t, k, k.Zone, false)
	}
}

func TestMakeFor(t *testing.T) {
	for _, name := range []string{"c1", "a", "v_c1", longName[:17], longName[:18]} {
		for _, size := range []int64{1, 5, 1048576} {
			for _, class := range []string{"fast", "c1", longName} {
				for _, single := range []bool{false, true} {
					for _, zone := range []string{"east", "west", longName} {
						c := impl.Claim{Name: name, Size: size, Class: class, Single: single}
						want := impl.Volume{Name: "v_" + name, Size: size, Zone: zone, Class: class, Single: single, Claim: name}
						wantMade(t, c, impl.Class{Name: class}, zone, impl.VolumeOut{Volume: want})
						wantMade(t, c, impl.Class{Name: class, Zone: zone, Wait: true, Keep: true}, zone, impl.VolumeOut{Volume: want})
					}
				}
			}
		}
	}
}

// What is made is right, and served its claim, had it not been its own already.
func TestMadeDisksServe(t *testing.T) {
	for _, single := range []bool{false, true} {
		c := impl.Claim{Name: longName[:18], Size: 77, Class: "fast", Single: single}
		v := impl.MakeFor(c, impl.Class{Name: "fast"}, "west").Volume
		if !impl.VolumeRight(v) || v.Spent || len(v.On) != 0 {
			t.Errorf("MakeFor(%+v): got %+v", c, v)
		}
		wantServes(t, v, c, "west", false)
		v.Claim = ""
		wantServes(t, v, c, "west", true)
		wantBest(t, []impl.Volume{v}, c, "west", impl.VolumeOut{Volume: v})
	}
}

func TestMakeForNothing(t *testing.T) {
	c, k := aClaim(), aClass()
	state := code(impl.ErrState)
	wantMade(t, with(c, func(c *impl.Claim) { c.Class = "slow" }), k, "east", state)
	wantMade(t, with(c, func(c *impl.Claim) { c.Class = "fas" }), k, "east", state)
	wantMade(t, c, with(k, func(k *impl.Class) { k.Name = "faster" }), "east", state)
	wantMade(t, with(c, func(c *impl.Claim) { c.Volume = "v1" }), k, "east", state)
	wantMade(t, with(c, func(c *impl.Claim) { c.Volume = "v_c1" }), k, "east", state)
	wantMade(t, c, k, "west", state)
	wantMade(t, c, k, "eas", state)
	wantMade(t, with(c, func(c *impl.Claim) { c.Name = longName[:19] }), k, "east", state)
	wantMade(t, with(c, func(c *impl.Claim) { c.Name = longName }), k, "east", state)
	// All of these at once.
	wantMade(t, impl.Claim{Name: longName, Size: 1, Class: "slow", Volume: "v1"}, k, "west", state)
}

func TestFirstFaultOfMaking(t *testing.T) {
	form := code(impl.ErrForm)
	bound := with(aClaim(), func(c *impl.Claim) { c.Volume = "v1" })
	for _, c := range wrongClaims() {
		for _, zone := range []string{"east", "west", "-"} {
			wantMade(t, c, aClass(), zone, form)
		}
		wantMade(t, c, impl.Class{}, "east", form)
		wantMade(t, c, aClass(), overlong(), code(impl.ErrSize))
	}
	for _, k := range wrongClasses() {
		for _, zone := range []string{"east", "west", "-"} {
			wantMade(t, aClaim(), k, zone, form)
			wantMade(t, bound, k, zone, form)
			wantMade(t, with(aClaim(), func(c *impl.Claim) { c.Class = "slow" }), k, zone, form)
		}
		wantMade(t, aClaim(), k, overlong(), code(impl.ErrSize))
	}
	for _, zone := range append(noZones(), "") {
		wantMade(t, aClaim(), aClass(), zone, form)
		wantMade(t, aClaim(), impl.Class{Name: "fast"}, zone, form)
		wantMade(t, bound, aClass(), zone, form)
	}
	wantMade(t, aClaim(), aClass(), overlong(), code(impl.ErrSize))
	wantMade(t, bound, aClass(), overlong(), code(impl.ErrSize))
	wantMade(t, impl.Claim{}, impl.Class{}, overlong(), code(impl.ErrSize))
	wantMade(t, bound, aClass(), "west", code(impl.ErrState))
}

// cloned: the disks with lists of their own, all that stands behind them in their memory too.
func cloned(l []impl.Volume) []impl.Volume {
	out := slices.Clone(l)
	for i := range out {
		out[i].On = slices.Clone(out[i].On[:cap(out[i].On)])[:len(out[i].On)]
	}
	return out
}

func wantUnchanged(t *testing.T, what string, got []impl.Volume, want []impl.Volume) {
	t.Helper()
	if len(got) != len(want) {
		t.Fatalf("%s: got %d volumes, want %d", what, len(got), len(want))
	}
	for i := range got {
		nodes, before := got[i].On[:cap(got[i].On)], want[i].On[:cap(got[i].On)]
		if !sameVolume(got[i], want[i]) || !slices.Equal(nodes, before) {
			t.Errorf("%s: got %+v, with %q, want %+v, with %q", what, got[i], nodes, want[i], before)
		}
	}
}

// manyDisks: disks that many may write, with room behind their lists and behind the disks.
func manyDisks() []impl.Volume {
	out := make([]impl.Volume, 0, 12)
	for _, name := range []string{"d", "b", "c", "a"} {
		nodes := append(make([]string, 0, 5), "n1", "n2", "left", "left", "left")
		v := impl.Volume{Name: name, Size: 5, Zone: "east", Class: "fast", On: nodes[:2]}
		out = append(out, v)
	}
	return append(out, impl.Volume{Name: "left"}, impl.Volume{Name: "left"})[:4]
}

func TestDisksAreNotChanged(t *testing.T) {
	c := with(aClaim(), func(c *impl.Claim) { c.Single = false })
	list := manyDisks()
	whole := list[:6]
	before := cloned(whole)
	for _, zone := range []string{"", "east", "west", "-", overlong()} {
		impl.BestFor(list, c, zone)
		impl.BestFor(list, impl.Claim{}, zone)
		for _, v := range list {
			impl.Serves(v, c, zone)
		}
		wantUnchanged(t, "what was handed in", whole, before)
	}
}

func TestBestIsNewMemory(t *testing.T) {
	c := with(aClaim(), func(c *impl.Claim) { c.Single = false })
	list := manyDisks()
	before := cloned(list)
	best := impl.BestFor(list, c, "east").Volume
	if best.Name != "a" || !slices.Equal(best.On, []string{"n1", "n2"}) {
		t.Fatalf("BestFor: got %+v", best)
	}
	// What is handed back may be written to, and behind it.
	best.On[0] = "changed"
	_ = append(best.On, "changed")
	wantUnchanged(t, "what was handed in", list, before)
	// What was handed in may be written to: the answer is what it was.
	best = impl.BestFor(list, c, "east").Volume
	for i := range list {
		list[i].On[0], list[i].On[1] = "x", "y"
		list[i] = impl.Volume{}
	}
	if best.Name != "a" || !slices.Equal(best.On, []string{"n1", "n2"}) {
		t.Errorf("BestFor, its list changed behind it: got %+v", best)
	}
	// Nothing of it is kept for the next call.
	wantBest(t, before, c, "east", impl.VolumeOut{Volume: before[3]})
}
