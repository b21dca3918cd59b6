package tests

import (
	"math"
	"reflect"
	"regexp"
	"slices"
	"strings"
	"sync"
	"testing"

	"loop.example/g00571/impl"
)

// longName: a name of as many bytes as one may have.
const longName = "a234567890123456789_"

func aNode() impl.Node {
	return impl.Node{Name: "n1", Zone: "east", Cpu: 2000, Slots: 3, Until: 7, Mounts: []string{"v1", "v2"}}
}

func aClass() impl.Class {
	return impl.Class{Name: "fast", Zone: "east"}
}

func aVolume() impl.Volume {
	return impl.Volume{Name: "v1", Size: 5, Zone: "east", Class: "fast", Claim: "c1", On: []string{"n1", "n2"}}
}

func aClaim() impl.Claim {
	return impl.Claim{Name: "c1", Size: 5, Class: "fast", Single: true}
}

func aPod() impl.Pod {
	return impl.Pod{Name: "p1", Cpu: 500, Zone: "east", Claims: []string{"a", "b"}}
}

func aPlacedPod() impl.Pod {
	p := aPod()
	p.Node, p.Phase = "n1", impl.PhPlaced
	return p
}

// nameField asks whether a right thing with this text in one of its fields is right.
type nameField struct {
	what  string
	empty bool
	try   func(string) bool
}

// changed: is the thing right, so changed?
func changed[T any](thing T, right func(T) bool, change func(*T)) bool {
	change(&thing)
	return right(thing)
}

func nodeWith(change func(*impl.Node)) bool { return changed(aNode(), impl.NodeRight, change) }

func classWith(change func(*impl.Class)) bool { return changed(aClass(), impl.ClassRight, change) }

func volumeWith(change func(*impl.Volume)) bool { return changed(aVolume(), impl.VolumeRight, change) }

func claimWith(change func(*impl.Claim)) bool { return changed(aClaim(), impl.ClaimRight, change) }

func podWith(change func(*impl.Pod)) bool { return changed(aPod(), impl.PodRight, change) }

func placedWith(change func(*impl.Pod)) bool { return changed(aPlacedPod(), impl.PodRight, change) }

func nameFields() []nameField {
	return []nameField{
		{"Node.Name", false, func(s string) bool { return nodeWith(func(n *impl.Node) { n.Name = s }) }},
		{"Node.Zone", false, func(s string) bool { return nodeWith(func(n *impl.Node) { n.Zone = s }) }},
		{"Class.Name", false, func(s string) bool { return classWith(func(c *impl.Class) { c.Name = s }) }},
		{"Class.Zone", true, func(s string) bool { return classWith(func(c *impl.Class) { c.Zone = s }) }},
		{"Volume.Name", false, func(s string) bool { return volumeWith(func(v *impl.Volume) { v.Name = s }) }},
		{"Volume.Zone", false, func(s string) bool { return volumeWith(func(v *impl.Volume) { v.Zone = s }) }},
		{"Volume.Class", false, func(s string) bool { return volumeWith(func(v *impl.Volume) { v.Class = s }) }},
		{"Volume.Claim", true, func(s string) bool { return volumeWith(func(v *impl.Volume) { v.Claim = s }) }},
		{"Claim.Name", false, func(s string) bool { return claimWith(func(c *impl.Claim) { c.Name = s }) }},
		{"Claim.Class", false, func(s string) bool { return claimWith(func(c *impl.Claim) { c.Class = s }) }},
		{"Claim.Volume", true, func(s string) bool { return claimWith(func(c *impl.Claim) { c.Volume = s }) }},
		{"Pod.Name", false, func(s string) bool { return podWith(func(p *impl.Pod) { p.Name = s }) }},
		{"Pod.Zone", true, func(s string) bool { return podWith(func(p *impl.Pod) { p.Zone = s }) }},
		{"Pod.Node, placed", false, func(s string) bool { return placedWith(func(p *impl.Pod) { p.Node = s }) }},
	}
}

func TestNamesOfThings(t *testing.T) {
	wrong := []string{longName + "a", strings.Repeat("q", 21), strings.Repeat("q", impl.MaxBytes+1), "_a", "0a", "A", "aB",
		"-", "a-", "a b", " a", "a ", " ", "a\n", "a\x00", "\xff", "a\xff", "\u00e4"}
	for _, f := range nameFields() {
		for _, name := range []string{"a", "z", "a_0", longName, strings.Repeat("q", 20)} {
			if !f.try(name) {
				t.Errorf("%s %q: got wrong", f.what, name)
			}
		}
		for _, name := range wrong {
			if f.try(name) {
				t.Errorf("%s of %d bytes %.24q: got right", f.what, len(name), name)
			}
		}
		if got := f.try(""); got != f.empty {
			t.Errorf("%s empty: got %v, want %v", f.what, got, f.empty)
		}
	}
}

// numField asks whether a right thing with this number in one of its fields is right.
type numField struct {
	what        string
	least, most int64
	try         func(int64) bool
}

func numFields() []numField {
	return []numField{
		{"Node.Cpu", 0, 1000000, func(n int64) bool { return nodeWith(func(x *impl.Node) { x.Cpu = n }) }},
		{"Node.Slots", 0, 8, func(n int64) bool { return nodeWith(func(x *impl.Node) { x.Slots = n }) }},
		{"Node.Until", 0, 1000000, func(n int64) bool { return nodeWith(func(x *impl.Node) { x.Until = n }) }},
		{"Volume.Size", 1, 1048576, func(n int64) bool { return volumeWith(func(x *impl.Volume) { x.Size = n }) }},
		{"Claim.Size", 1, 1048576, func(n int64) bool { return claimWith(func(x *impl.Claim) { x.Size = n }) }},
		{"Pod.Cpu", 0, 1000000, func(n int64) bool { return podWith(func(x *impl.Pod) { x.Cpu = n }) }},
		{"Pod.Cpu, placed", 0, 1000000, func(n int64) bool { return placedWith(func(x *impl.Pod) { x.Cpu = n }) }},
		{"Pod.Phase, without a Node", 0, 0, func(n int64) bool { return podWith(func(x *impl.Pod) { x.Phase = n }) }},
		{"Pod.Phase, with a Node", 1, 2, func(n int64) bool { return placedWith(func(x *impl.Pod) { x.Phase = n }) }},
	}
}

func TestNumbersOfThings(t *testing.T) {
	for _, f := range numFields() {
		tried := []int64{f.least - 1, f.least, f.least + 1, (f.least + f.most) / 2, f.most - 1, f.most, f.most + 1, -f.most, 2 * f.most,
			math.MinInt64, math.MaxInt64, f.least - 1<<32, f.most + 1<<32, f.least + 1<<32}
		for _, n := range tried {
			if got, want := f.try(n), n >= f.least && n <= f.most; got != want {
				t.Errorf("%s %d: got %v, want %v", f.what, n, got, want)
			}
		}
	}
}

// listField asks whether a right thing with this list in one of its fields is right.
type listField struct {
	what string
	most int
	try  func([]string) bool
}

func listFields() []listField {
	return []listField{
		{"Node.Mounts", 8, func(l []string) bool { return nodeWith(func(x *impl.Node) { x.Mounts = l }) }},
		{"Volume.On", 6, func(l []string) bool { return volumeWith(func(x *impl.Volume) { x.On = l }) }},
		{"Volume.On, Single", 1, func(l []string) bool {
			return volumeWith(func(x *impl.Volume) { x.On, x.Single = l, true })
		}},
		{"Pod.Claims", 3, func(l []string) bool { return podWith(func(x *impl.Pod) { x.Claims = l }) }},
		{"Pod.Claims, placed", 3, func(l []string) bool { return placedWith(func(x *impl.Pod) { x.Claims = l }) }},
	}
}

// nameRow: that many names, rising.
func nameRow(count int) []string {
	out := []string{}
	for i := range count {
		out = append(out, "n"+string([]byte{byte('a' + i/26), byte('a' + i%26)}))
	}
	return out
}

func TestListsOfThings(t *testing.T) {
	for _, f := range listFields() {
		want := func(list []string, want bool) {
			t.Helper()
			if got := f.try(list); got != want {
				t.Errorf("%s of %d names %.60q: got %v, want %v", f.what, len(list), list, got, want)
			}
		}
		want(nil, true)
		for count := range f.most + 1 {
			want(nameRow(count), true)
		}
		want([]string{longName}, true)
		for _, count := range []int{f.most + 1, f.most + 2, impl.MaxList, impl.MaxList + 1} {
			want(nameRow(count), false)
		}
		for at := range f.most {
			for _, wrong := range []string{"", "A", "na ", "n-", "_", "0", longName + "a", "zz zz", "\xff"} {
				list := nameRow(f.most)
				list[at] = wrong
				want(list, false)
			}
		}
		for at := 1; at < f.most; at++ {
			twice, fall := nameRow(f.most), nameRow(f.most)
			twice[at] = twice[at-1]
			fall[at], fall[at-1] = fall[at-1], fall[at]
			want(twice, false)
			want(fall, false)
		}
		// A shorter name stands ahead of one that it begins.
		want([]string{"a", "a0"}, f.most > 1)
		want([]string{"a0", "a"}, false)
		want([]string{"a9", "a_", "aa"}, f.most > 2)
		want([]string{"aa", "a_"}, false)
	}
}

func TestDisksThatOneMayWrite(t *testing.T) {
	cases := []struct {
		single bool
		on     []string
		want   bool
	}{
		{true, nil, true}, {true, []string{"n1"}, true}, {true, []string{"n1", "n2"}, false}, {true, nameRow(6), false},
		{false, []string{"n1"}, true}, {false, []string{"n1", "n2"}, true}, {false, nameRow(6), true}, {false, nameRow(7), false},
	}
	for _, c := range cases {
		got := volumeWith(func(v *impl.Volume) { v.Single, v.On = c.single, c.on })
		if got != c.want {
			t.Errorf("Volume, Single %v, on %q: got %v, want %v", c.single, c.on, got, c.want)
		}
	}
}

func TestSpentDisks(t *testing.T) {
	cases := []struct {
		spent bool
		claim string
		want  bool
	}{
		{true, "", true}, {true, "c1", false}, {true, "A", false}, {false, "", true}, {false, "c1", true}, {false, "A", false},
	}
	for _, c := range cases {
		got := volumeWith(func(v *impl.Volume) { v.Spent, v.Claim = c.spent, c.claim })
		if got != c.want {
			t.Errorf("Volume, Spent %v, of the claim %q: got %v, want %v", c.spent, c.claim, got, c.want)
		}
	}
}

func TestPhases(t *testing.T) {
	if impl.PhPending != 0 || impl.PhPlaced != 1 || impl.PhRunning != 2 {
		t.Errorf("phases: got %d, %d, %d", impl.PhPending, impl.PhPlaced, impl.PhRunning)
	}
	cases := []struct {
		phase int64
		node  string
		want  bool
	}{
		{impl.PhPending, "", true}, {impl.PhPending, "n1", false}, {impl.PhPending, "A", false},
		{impl.PhPlaced, "", false}, {impl.PhPlaced, "n1", true}, {impl.PhPlaced, "A", false},
		{impl.PhRunning, "", false}, {impl.PhRunning, "n1", true}, {impl.PhRunning, "A", false},
		{3, "", false}, {3, "n1", false}, {-1, "", false}, {-1, "n1", false},
		{math.MaxInt64, "n1", false}, {math.MinInt64, "", false}, {1 << 32, "", false}, {1<<32 + 1, "n1", false},
	}
	for _, c := range cases {
		got := podWith(func(p *impl.Pod) { p.Phase, p.Node = c.phase, c.node })
		if got != c.want {
			t.Errorf("Pod of the phase %d on %q: got %v, want %v", c.phase, c.node, got, c.want)
		}
	}
}

// What is true or false alone never makes a thing wrong, and nothing at all is never right.
func TestOtherFields(t *testing.T) {
	for _, yes := range []bool{false, true} {
		if !nodeWith(func(n *impl.Node) { n.Dead = yes }) {
			t.Errorf("Node, Dead %v: got wrong", yes)
		}
		for _, too := range []bool{false, true} {
			if !classWith(func(c *impl.Class) { c.Wait, c.Keep = yes, too }) {
				t.Errorf("Class, Wait %v, Keep %v: got wrong", yes, too)
			}
		}
		if !claimWith(func(c *impl.Claim) { c.Single = yes }) {
			t.Errorf("Claim, Single %v: got wrong", yes)
		}
	}
	if impl.NodeRight(impl.Node{}) || impl.ClassRight(impl.Class{}) || impl.VolumeRight(impl.Volume{}) ||
		impl.ClaimRight(impl.Claim{}) || impl.PodRight(impl.Pod{}) {
		t.Errorf("a thing without a name: got right")
	}
	if !impl.ClassRight(impl.Class{Name: "a"}) || !impl.PodRight(impl.Pod{Name: "a"}) {
		t.Errorf("a thing of a name alone: got wrong")
	}
}

func wantClaimText(t *testing.T, c impl.Claim, want string) {
	t.Helper()
	if got := impl.ClaimText(c); got != want {
		t.Errorf("ClaimText(%+v): got %q, want %q", c, got, want)
	}
}

func wantPodText(t *testing.T, p impl.Pod, want string) {
	t.Helper()
	if got := impl.PodText(p); got != want {
		t.Errorf("PodText(%+v): got %q, want %q", p, got, want)
	}
}

func wantClaim(t *testing.T, text string, want impl.ClaimOut) {
	t.Helper()
	if got := impl.ClaimRead(text); got != want {
		t.Errorf("ClaimRead of %d bytes %.80q: got %+v, want %+v", len(text), text, got, want)
	}
}

// samePod: an empty list of claims and none are the same.
func samePod(a impl.PodOut, b impl.PodOut) bool {
	same := slices.Equal(a.Pod.Claims, b.Pod.Claims)
	a.Pod.Claims, b.Pod.Claims = nil, nil
	return same && reflect.DeepEqual(a, b)
}

func wantPod(t *testing.T, text string, want impl.PodOut) {
	t.Helper()
	if got := impl.PodRead(text); !samePod(got, want) {
		t.Errorf("PodRead of %d bytes %.80q: got %+v, want %+v", len(text), text, got, want)
	}
}

// Promise 4.
func TestClaimTexts(t *testing.T) {
	cases := []struct {
		claim impl.Claim
		want  string
	}{
		{impl.Claim{Name: "c1", Size: 5, Class: "fast", Single: true}, "claim c1 5Gi fast single"},
		{impl.Claim{Name: "c1", Size: 5, Class: "fast"}, "claim c1 5Gi fast many"},
		{impl.Claim{Name: "a", Size: 1, Class: "b"}, "claim a 1Gi b many"},
		{impl.Claim{Name: "a", Size: 1024, Class: "b"}, "claim a 1Ti b many"},
		{impl.Claim{Name: "a", Size: 1048575, Class: "b"}, "claim a 1048575Gi b many"},
		{impl.Claim{Name: "a", Size: 1048576, Class: "b"}, "claim a 1024Ti b many"},
		{impl.Claim{Name: longName, Size: 1048575, Class: longName, Single: true}, "claim " + longName + " 1048575Gi " + longName + " single"},
		{impl.Claim{Name: "claim", Size: 5, Class: "single", Single: false}, "claim claim 5Gi single many"},
	}
	for _, c := range cases {
		wantClaimText(t, c.claim, c.want)
		wantClaim(t, c.want, impl.ClaimOut{Claim: c.claim})
	}
}

func TestClaimsWithoutText(t *testing.T) {
	for _, change := range []func(*impl.Claim){
		func(c *impl.Claim) { c.Volume = "v1" },
		func(c *impl.Claim) { c.Volume = "c1" },
		func(c *impl.Claim) { c.Volume = "A" },
		func(c *impl.Claim) { c.Name = "" },
		func(c *impl.Claim) { c.Name = "c 1" },
		func(c *impl.Claim) { c.Name = longName + "a" },
		func(c *impl.Claim) { c.Size = 0 },
		func(c *impl.Claim) { c.Size = -5 },
		func(c *impl.Claim) { c.Size = 1048577 },
		func(c *impl.Claim) { c.Class = "" },
		func(c *impl.Claim) { c.Class = "-" },
		func(c *impl.Claim) { c.Class = strings.Repeat("q", 21) },
		func(c *impl.Claim) { *c = impl.Claim{} },
	} {
		c := aClaim()
		change(&c)
		wantClaimText(t, c, "")
	}
}

// Promise 4.
func TestClaimsComeBack(t *testing.T) {
	names := []string{"a", "z9", "c_1", "claim", "single", "many", longName}
	sizes := []int64{1, 5, 1000, 1023, 1024, 1025, 2048, 1047552, 1048575, 1048576}
	for _, name := range names {
		for _, class := range names {
			for _, gib := range sizes {
				for _, word := range []string{"single", "many"} {
					c := impl.Claim{Name: name, Size: gib, Class: class, Single: word == "single"}
					text := "claim " + name + " " + size().told(gib) + " " + class + " " + word
					wantClaimText(t, c, text)
					wantClaim(t, text, impl.ClaimOut{Claim: c})
				}
			}
		}
	}
}

// Promise 4.
func TestPodTexts(t *testing.T) {
	cases := []struct {
		pod  impl.Pod
		want string
	}{
		{impl.Pod{Name: "p1", Cpu: 500, Zone: "east", Claims: []string{"a", "b"}}, "pod p1 500m east a b"},
		{impl.Pod{Name: "p1", Cpu: 500, Zone: "east"}, "pod p1 500m east"},
		{impl.Pod{Name: "p1", Cpu: 500, Zone: "east", Claims: []string{}}, "pod p1 500m east"},
		{impl.Pod{Name: "p1"}, "pod p1 0 -"},
		{impl.Pod{Name: "p1", Claims: []string{"a"}}, "pod p1 0 - a"},
		{impl.Pod{Name: "p1", Cpu: 1000, Claims: []string{"a", "a0", "b"}}, "pod p1 1 - a a0 b"},
		{impl.Pod{Name: "p1", Cpu: 999999}, "pod p1 999999m -"},
		{impl.Pod{Name: "p1", Cpu: 1000000}, "pod p1 1000 -"},
		{impl.Pod{Name: "pod", Zone: "pod", Claims: []string{"pod"}}, "pod pod 0 pod pod"},
	}
	for _, c := range cases {
		wantPodText(t, c.pod, c.want)
		wantPod(t, c.want, impl.PodOut{Pod: c.pod})
	}
}

func TestPodsWithoutText(t *testing.T) {
	for _, change := range []func(*impl.Pod){
		func(p *impl.Pod) { p.Phase, p.Node = impl.PhPlaced, "n1" },
		func(p *impl.Pod) { p.Phase, p.Node = impl.PhRunning, "n1" },
		func(p *impl.Pod) { p.Phase = impl.PhPlaced },
		func(p *impl.Pod) { p.Phase = impl.PhRunning },
		func(p *impl.Pod) { p.Phase = 3 },
		func(p *impl.Pod) { p.Phase = -1 },
		func(p *impl.Pod) { p.Node = "n1" },
		func(p *impl.Pod) { p.Name = "" },
		func(p *impl.Pod) { p.Name = longName + "a" },
		func(p *impl.Pod) { p.Cpu = -1 },
		func(p *impl.Pod) { p.Cpu = 1000001 },
		func(p *impl.Pod) { p.Zone = "-" },
		func(p *impl.Pod) { p.Zone = "ea st" },
		func(p *impl.Pod) { p.Claims = []string{"b", "a"} },
		func(p *impl.Pod) { p.Claims = []string{"a", "a"} },
		func(p *impl.Pod) { p.Claims = []string{""} },
		func(p *impl.Pod) { p.Claims = []string{"a", "b", "c", "d"} },
		func(p *impl.Pod) { p.Claims = nameRow(impl.MaxList + 1) },
		func(p *impl.Pod) { *p = impl.Pod{} },
	} {
		p := aPod()
		change(&p)
		wantPodText(t, p, "")
	}
}

// Promise 4.
func TestPodsComeBack(t *testing.T) {
	names := []string{"a", "z9", "pod", longName}
	lists := [][]string{nil, {"a"}, {longName}, {"a", "b"}, {"a", "a_"}, {"a", "b", "c"}, {"a9", "a_", "aa"}}
	for _, name := range names {
		for _, zone := range append(names, "") {
			for _, milli := range []int64{0, 1, 500, 999, 1000, 1001, 999000, 999999, 1000000} {
				for _, list := range lists {
					p := impl.Pod{Name: name, Cpu: milli, Zone: zone, Claims: list}
					words := []string{"pod", name, cpu().told(milli), zone}
					if zone == "" {
						words[3] = "-"
					}
					text := strings.Join(append(words, list...), " ")
					wantPodText(t, p, text)
					wantPod(t, text, impl.PodOut{Pod: p})
				}
			}
		}
	}
}

// reader works out, by the document's words alone, what a text of a claim or a pod stands for.
type reader struct {
	claim, pod *regexp.Regexp
	sizes      map[string]int64
	shares     map[string]int64
}

// theReader is made once: its tables of all amounts are long.
var theReader = sync.OnceValue(newReader)

func newReader() reader {
	const name = `[a-z][a-z0-9_]{0,19}`
	r := reader{sizes: map[string]int64{}, shares: map[string]int64{}}
	r.claim = regexp.MustCompile(`\Aclaim (` + name + `) ([^ ]+) (` + name + `) (single|many)\z`)
	r.pod = regexp.MustCompile(`\Apod (` + name + `) ([^ ]+) (-|` + name + `)((?: ` + name + `){0,3})\z`)
	for n := int64(1); n <= 1048576; n++ {
		r.sizes[size().told(n)] = n
	}
	for n := int64(0); n <= 1000000; n++ {
		r.shares[cpu().told(n)] = n
	}
	return r
}

func (r reader) readClaim(text string) impl.ClaimOut {
	m := r.claim.FindStringSubmatch(text)
	if m == nil || r.sizes[m[2]] == 0 {
		return impl.ClaimOut{Code: impl.ErrSyntax}
	}
	return impl.ClaimOut{Claim: impl.Claim{Name: m[1], Size: r.sizes[m[2]], Class: m[3], Single: m[4] == "single"}}
}

func (r reader) readPod(text string) impl.PodOut {
	wrong := impl.PodOut{Code: impl.ErrSyntax}
	m := r.pod.FindStringSubmatch(text)
	if m == nil {
		return wrong
	}
	milli, right := r.shares[m[2]]
	claims := strings.Fields(m[4])
	for i := 1; i < len(claims); i++ {
		right = right && claims[i-1] < claims[i]
	}
	if !right {
		return wrong
	}
	return impl.PodOut{Pod: impl.Pod{Name: m[1], Cpu: milli, Zone: strings.Trim(m[3], "-"), Claims: claims}}
}

// check: do both calls read of the text what it stands for?
func (r reader) check(t *testing.T, text string) {
	t.Helper()
	wantClaim(t, text, r.readClaim(text))
	wantPod(t, text, r.readPod(text))
}

// Promise 4: what is read is told so, and in no other way.
func TestEachRowOfWords(t *testing.T) {
	r := theReader()
	for _, words := range [][]string{
		{"claim", "c1", "5Gi", "single", "many", ""},
		{"pod", "p1", "500m", "2", "-", ""},
		{"pod", "claim", "1", "a", "b"},
	} {
		for most := 1; most <= 6; most++ {
			row := make([]string, most)
			eachRow(words, row, 0, func() { r.check(t, strings.Join(row, " ")) })
		}
	}
}

// eachRow fills the row, from that place on, with these words in every way.
func eachRow(words []string, row []string, at int, give func()) {
	if at == len(row) {
		give()
		return
	}
	for _, word := range words {
		row[at] = word
		eachRow(words, row, at+1, give)
	}
}

// Promise 4: one byte more, less or turned, at each place.
func TestNearlyRightTexts(t *testing.T) {
	r := theReader()
	bytes := []string{"", " ", "  ", "a", "z", "0", "1", "9", "_", "-", "A", "G", "T", "i", "m", "\n", "\t", "\x00", "\xff", "\u00a0", "\u0661", "\ufffd"}
	for _, text := range []string{
		"claim c1 5Gi fast single", "claim c1 1Ti fast many", "claim " + longName + " 1048575Gi " + longName + " single",
		"pod p1 500m east a b", "pod p1 1 -", "pod p1 0 - a", "pod p1 1000 west aa ab ac", "pod " + longName + " 999999m " + longName + " " + longName,
	} {
		r.check(t, text)
		for at := range len(text) + 1 {
			for _, b := range bytes {
				r.check(t, text[:at]+b+text[at:])
				if at < len(text) {
					r.check(t, text[:at]+b+text[at+1:])
				}
			}
			r.check(t, text[:at])
			r.check(t, text[at:])
		}
	}
}

func TestWrongClaimTexts(t *testing.T) {
	for _, text := range []string{
		"", " ", "claim", "claim ", "claim c1", "claim c1 5Gi", "claim c1 5Gi fast", "claim c1 5Gi fast ", "c1 5Gi fast single",
		"claim c1 5Gi fast single v1", "claim c1 5Gi fast single ", "claim c1 5Gi fast single many", "claim c1 5Gi fast single\n",
		" claim c1 5Gi fast single", "claim  c1 5Gi fast single", "claim c1  5Gi fast single", "claim c1 5Gi  fast single",
		"claim c1 5Gi fast  single", "claim\tc1 5Gi fast single", "claim c1 5Gi fast\u00a0single", "claim  5Gi fast single", "claim c1 5Gi  single",
		"Claim c1 5Gi fast single", "claims c1 5Gi fast single", "clai c1 5Gi fast single", "pod c1 5Gi fast single", "c c1 5Gi fast single",
		"claim C1 5Gi fast single", "claim 1c 5Gi fast single", "claim _c 5Gi fast single", "claim c-1 5Gi fast single", "claim " + longName + "a 5Gi fast single",
		"claim c1 5Gi Fast single", "claim c1 5Gi - single", "claim c1 5Gi 1 single", "claim c1 5Gi " + longName + "a single",
		"claim c1 0Gi fast single", "claim c1 05Gi fast single", "claim c1 5 fast single", "claim c1 5gi fast single", "claim c1 1024Gi fast single",
		"claim c1 1025Ti fast single", "claim c1 1048577Gi fast single", "claim c1 +5Gi fast single", "claim c1 -5Gi fast single", "claim c1 5m fast single",
		"claim c1 Gi fast single", "claim c1 18446744073709551617Gi fast single",
		"claim c1 5Gi fast one", "claim c1 5Gi fast Single", "claim c1 5Gi fast singl", "claim c1 5Gi fast singles", "claim c1 5Gi fast many ", "claim c1 5Gi fast true",
		"claim c1 5Gi single fast", "claim 5Gi c1 fast single", "pod p1 500m east a b",
		"\xff", "claim \xff 5Gi fast single", "claim c\xff 5Gi fast single", "claim c1 5Gi fast single\xff", "claim c1 5\xffGi fast single", "\xc3\xa4 c1 5Gi fast single",
		"claim\x00c1 5Gi fast single",
	} {
		wantClaim(t, text, impl.ClaimOut{Code: impl.ErrSyntax})
	}
}

func TestWrongPodTexts(t *testing.T) {
	for _, text := range []string{
		"", " ", "pod", "pod ", "pod p1", "pod p1 500m", "pod p1 500m ", "p1 500m east", "p1 500m east a",
		"pod p1 500m east a b c d", "pod p1 500m east a b c d e", "pod p1 500m east ", "pod p1 500m east a ", "pod p1 500m east a b c ", "pod p1 500m east\n",
		" pod p1 500m east", "pod  p1 500m east", "pod p1  500m east", "pod p1 500m  east", "pod p1 500m east  a", "pod p1 500m east a  b", "pod\tp1 500m east",
		"pod  500m east", "pod p1 500m  a",
		"Pod p1 500m east", "pods p1 500m east", "po p1 500m east", "claim p1 500m east", "p p1 500m east",
		"pod P1 500m east", "pod 1p 500m east", "pod _p 500m east", "pod p-1 500m east", "pod - 500m east", "pod " + longName + "a 500m east",
		"pod p1 0m east", "pod p1 0500m east", "pod p1 00 east", "pod p1 1000m east", "pod p1 500M east", "pod p1 1001 east", "pod p1 1000001m east",
		"pod p1 0.5 east", "pod p1 -1 east", "pod p1 +1 east", "pod p1 m east", "pod p1 5Gi east", "pod p1 x east", "pod p1 18446744073709551616m east", "pod p1 18446744073709551617 east",
		"pod p1 500m East", "pod p1 500m 1", "pod p1 500m _", "pod p1 500m --", "pod p1 500m -a", "pod p1 500m *", "pod p1 500m " + longName + "a",
		"pod p1 500m east b a", "pod p1 500m east a a", "pod p1 500m east a b b", "pod p1 500m east a c b", "pod p1 500m east a0 a", "pod p1 500m - a a",
		"pod p1 500m east -", "pod p1 500m east A", "pod p1 500m east a B", "pod p1 500m east 1", "pod p1 500m east " + longName + "a",
		"claim c1 5Gi fast single",
		"\xff", "pod \xff 500m east", "pod p1 500m \xff", "pod p1 500m east \xff", "pod p1 500m east a\xff", "pod p1 5\xff0m east", "\xc3\xa4 p1 500m east",
		"pod\x00p1 500m east",
	} {
		wantPod(t, text, impl.PodOut{Code: impl.ErrSyntax})
	}
}

func TestLongKindTexts(t *testing.T) {
	for _, text := range []string{
		"", "claim c1 5Gi fast single", "claim c1 5Gi fast single ", "claim ", "claim c1 5Gi fast ",
		"pod p1 500m east", "pod p1 500m east ", "pod p1 500m east a b ", "pod ",
	} {
		for _, fill := range []string{" ", "a", "0", "\xff", "a b c d e "} {
			long := text + strings.Repeat(fill, impl.MaxBytes)
			wantClaim(t, long[:impl.MaxBytes], impl.ClaimOut{Code: impl.ErrSyntax})
			wantPod(t, long[:impl.MaxBytes], impl.PodOut{Code: impl.ErrSyntax})
			if len(long) > impl.MaxBytes {
				wantClaim(t, long[:impl.MaxBytes+1], impl.ClaimOut{Code: impl.ErrSize})
				wantPod(t, long, impl.PodOut{Code: impl.ErrSize})
			}
		}
	}
	over := strings.Repeat("a", impl.MaxBytes+1)
	wantClaim(t, over, impl.ClaimOut{Code: impl.ErrSize})
	wantPod(t, over, impl.PodOut{Code: impl.ErrSize})
}

// Lists that are handed in have room behind them: nothing may be written there, nor into them.
func TestListsAreNotChanged(t *testing.T) {
	for _, names := range [][]string{{"a", "b", "c"}, {"c", "b", "a"}, {"b", "b"}, {"a"}, {"a", "b", "c", "d"}, {}} {
		whole := append(slices.Clone(names), "left", "left", "left", "left", "left")
		before := slices.Clone(whole)
		list := whole[:len(names)]
		impl.NodeRight(impl.Node{Name: "n1", Zone: "east", Mounts: list})
		impl.VolumeRight(impl.Volume{Name: "v1", Size: 5, Zone: "east", Class: "fast", On: list})
		p := impl.Pod{Name: "p1", Zone: "east", Claims: list}
		impl.PodRight(p)
		impl.PodText(p)
		if !slices.Equal(whole, before) {
			t.Errorf("a list that was handed in: got %q, want %q", whole, before)
		}
	}
}

func TestReadThingsAreNewMemory(t *testing.T) {
	// Put together here, so that the texts lie in memory of their own.
	claimText := strings.Join([]string{"claim", "c1", "5Gi", "fast", "single"}, " ")
	podText := strings.Join([]string{"pod", "p1", "500m", "east", "aa", "bb"}, " ")
	c, p := impl.ClaimRead(claimText).Claim, impl.PodRead(podText).Pod
	for _, part := range []string{c.Name, c.Class} {
		if sharesMemory(part, claimText) {
			t.Errorf("ClaimRead: %q shares memory with the text", part)
		}
	}
	for _, part := range append([]string{p.Name, p.Zone}, p.Claims...) {
		if sharesMemory(part, podText) {
			t.Errorf("PodRead: %q shares memory with the text", part)
		}
	}
	p.Claims[0] = "changed"
	_ = append(p.Claims[:1], "changed")
	wantPod(t, podText, impl.PodOut{Pod: impl.Pod{Name: "p1", Cpu: 500, Zone: "east", Claims: []string{"aa", "bb"}}})
}
