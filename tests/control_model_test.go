package tests

import (
	"encoding/binary"
	"fmt"
	"hash/crc32"
	"regexp"
	"slices"
	"strconv"
	"testing"

	"loop.example/g00571/impl"
)

// The forms of acts that tell no claim and no pod, by the words of chapter 11 alone.
var (
	nameForm = regexp.MustCompile(`\A(drop pod|drop claim|drop volume|kill|wake|agent) ([a-z][a-z0-9_]{0,19})\z`)
	tickForm = regexp.MustCompile(`\Atick (0|[1-9][0-9]{0,8})\z`)
)

// moveOf: the call that an act stands for, and whether it is an act, by the words of chapter 11 alone.
func moveOf(act string) (move, bool) {
	if len(act) > 200 {
		return move{}, false
	}
	if x := theReader().readClaim(act); x.Code == impl.OK {
		return claimMove(x.Claim), true
	}
	if x := theReader().readPod(act); x.Code == impl.OK {
		return podMove(x.Pod), true
	}
	if m := tickForm.FindStringSubmatch(act); m != nil {
		ticks, err := strconv.ParseInt(m[1], 10, 64)
		return tickMove(ticks), err == nil
	}
	if m := nameForm.FindStringSubmatch(act); m != nil {
		calls := map[string]func(string) move{"drop pod": podDrop, "drop claim": claimDrop, "drop volume": volumeDrop, "kill": killMove, "wake": wakeMove, "agent": stepMove}
		return calls[m[1]](m[2]), true
	}
	switch act {
	case "round":
		return roundMove(), true
	case "all":
		return move{"all", nil, allModel}, true
	}
	return move{}, false
}

// actMove: Obey, by the words of chapter 11 alone.
func actMove(act string) move {
	return move{fmt.Sprintf("Obey %.60q", act), func(c impl.Cluster) impl.ClusterOut { return impl.Obey(c, act) },
		func(c impl.Cluster) (impl.Cluster, int64) {
			if len(act) > 8000 {
				return impl.Cluster{}, impl.ErrSize
			}
			if broken(c) != "" {
				return impl.Cluster{}, impl.ErrForm
			}
			m, found := moveOf(act)
			if !found {
				return impl.Cluster{}, impl.ErrSyntax
			}
			return m.want(c)
		}}
}

// roundMove: Round, by the words of chapter 11 alone.
func roundMove() move {
	return move{"Round", impl.Round, roundModel}
}

// roundModel: what Round ought to do.
func roundModel(c impl.Cluster) (impl.Cluster, int64) {
	if broken(c) != "" {
		return impl.Cluster{}, impl.ErrForm
	}
	for _, name := range namesOf(c.Pods, podName) {
		if _, code := evictModel(c, name); code == impl.OK {
			c = changedTo(c, func(c *impl.Cluster) { thePod(c, name).Node, thePod(c, name).Phase = "", impl.PhPending })
		}
	}
	for _, name := range namesOf(c.Claims, claimName) {
		if then := bindModel(c, name); then.code == impl.OK {
			c = then.cluster
		}
	}
	for _, name := range namesOf(c.Pods, podName) {
		if then := placeModel(c, name); then.code == impl.OK {
			c = then.then
		}
	}
	for range 20 {
		if then := attachModel(c, map[string]int{}); then.code == impl.OK {
			c = then.then
		}
	}
	return c, impl.OK
}

// allModel: what the act all ought to do to a right cluster.
func allModel(c impl.Cluster) (impl.Cluster, int64) {
	c = stepModel(c)
	c, _ = roundModel(c)
	return stepModel(c), impl.OK
}

// stepModel: the cluster with a step of each agent.
func stepModel(c impl.Cluster) impl.Cluster {
	for _, name := range namesOf(c.Nodes, nodeName) {
		if then, code := stepMove(name).want(c); code == impl.OK {
			c = then
		}
	}
	return c
}

// record: an act as it stands in a log, worked out by other means than the program's.
func record(act string) string {
	out := binary.AppendVarint(nil, int64(len(act)+4))
	out = append(out, act...)
	return string(binary.LittleEndian.AppendUint32(out, crc32.ChecksumIEEE([]byte(act))))
}

// logOf: the log of these acts, whatever they are.
func logOf(acts ...string) string {
	out := ""
	for _, act := range acts {
		out += record(act)
	}
	return out
}

// past is what a log of acts tells, one by one: the places behind each of the acts that are done, and the clusters then, the beginning first.
type past struct {
	ends  []int64
	after []impl.Cluster
}

// pastOf: of a right cluster, and the acts up to the first one that is none, or is refused.
func pastOf(c impl.Cluster, acts ...string) past {
	out := past{[]int64{0}, []impl.Cluster{c}}
	for _, act := range acts {
		then, code := actMove(act).want(c)
		if code != impl.OK {
			break
		}
		c = then
		out.ends = append(out.ends, out.size()+int64(len(record(act))))
		out.after = append(out.after, c)
	}
	return out
}

// size: how many bytes of its log are gone through.
func (p past) size() int64 {
	return p.ends[len(p.ends)-1]
}

// upTo: how many acts stand wholly ahead of that place.
func (p past) upTo(place int64) int {
	count := 0
	for count+1 < len(p.ends) && p.ends[count+1] <= place {
		count++
	}
	return count
}

// then: the cluster behind all acts.
func (p past) then() impl.Cluster {
	return p.after[len(p.after)-1]
}

// wantReplay: the log is gone through up to that place, to that right cluster.
func wantReplay(t *testing.T, what string, c impl.Cluster, log string, want impl.Cluster, at int64) {
	t.Helper()
	got := impl.Replay(c, log)
	if got.Code != impl.OK || got.At != at || !sameCluster(got.Cluster, want) {
		t.Errorf("%s: Replay: got code %d, At %d and %s, want At %d and %s", what, got.Code, got.At, shown(got.Cluster), at, shown(want))
	}
	wantRight(t, what, got.Cluster, true)
}

// wantNoReplay: this code, and nothing beside it.
func wantNoReplay(t *testing.T, what string, c impl.Cluster, log string, code int64) {
	t.Helper()
	if got := impl.Replay(c, log); got.Code != code || got.At != 0 || !sameCluster(got.Cluster, impl.Cluster{}) {
		t.Errorf("%s: Replay: got code %d, At %d and %s, want code %d alone", what, got.Code, got.At, shown(got.Cluster), code)
	}
}

func wantStoreRight(t *testing.T, what string, s impl.Store, c impl.Cluster, want bool) {
	t.Helper()
	if got := impl.StoreRight(s, c); got != want {
		t.Errorf("%s: StoreRight: got %v, want %v: Synced %d, Log of %d bytes %.80q", what, got, want, s.Synced, len(s.Log), s.Log)
	}
}

// wantStore: that store.
func wantStore(t *testing.T, what string, got impl.Store, want impl.Store) {
	t.Helper()
	if got != want {
		t.Errorf("%s: got Synced %d, Log of %d bytes %.80q, want Synced %d, Log of %d bytes %.80q",
			what, got.Synced, len(got.Log), got.Log, want.Synced, len(want.Log), want.Log)
	}
}

// allSynced: a store of that log.
func allSynced(log string) impl.Store {
	return impl.Store{Log: log, Synced: int64(len(log))}
}

// wantStored: the act is done, and its record is at the end of the log.
func wantStored(t *testing.T, what string, s impl.Store, c impl.Cluster, act string) impl.Store {
	t.Helper()
	got := impl.StoreDo(s, c, act)
	if got.Code != impl.OK || got.Name != "" {
		t.Errorf("%s: StoreDo %.60q: got code %d and name %q, want neither", what, act, got.Code, got.Name)
	}
	wantStore(t, what+": StoreDo "+act, got.Store, allSynced(s.Log+record(act)))
	wantStoreRight(t, what, got.Store, c, true)
	return got.Store
}

// wantNotStored: this code, and nothing beside it.
func wantNotStored(t *testing.T, what string, s impl.Store, c impl.Cluster, act string, code int64) {
	t.Helper()
	if got := impl.StoreDo(s, c, act); got != (impl.StoreOut{Code: code}) {
		t.Errorf("%s: StoreDo %.60q: got %s, want code %d alone", what, act, shown(got), code)
	}
}

// wantOneWriter: promise 13, of a cluster that an act led to.
func wantOneWriter(t *testing.T, what string, c impl.Cluster) {
	t.Helper()
	w := viewOf(c)
	for _, v := range c.Volumes {
		mounted := 0
		for _, n := range c.Nodes {
			if !n.Dead && slices.Contains(n.Mounts, v.Name) {
				mounted++
			}
		}
		if v.Single && (len(v.On) > 1 || mounted > 1) {
			t.Errorf("%s: %s, which one alone may write, is on %q, and mounted on %d nodes: %s", what, v.Name, v.On, mounted, shown(c))
		}
	}
	for _, p := range c.Pods {
		for _, claim := range p.Claims {
			v := w.volumes[w.claims[claim].Volume]
			there := slices.Contains(v.On, p.Node) && slices.Contains(w.nodes[p.Node].Mounts, v.Name)
			if p.Phase == impl.PhRunning && (!there || w.nodes[p.Node].Dead) {
				t.Errorf("%s: %s runs on %s without %s: %s", what, p.Name, p.Node, claim, shown(c))
			}
		}
	}
}
