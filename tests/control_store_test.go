package tests

import (
	"fmt"
	"math"
	"slices"
	"strings"
	"testing"

	"loop.example/g00571/impl"
)

// deskActs: acts of each kind, each of which is done, behind those ahead of it, to the desk's cluster.
func deskActs() []string {
	return []string{"claim c 5Gi slow single", "pod p 500m - c", "pod q 1 west", "all", "tick 7", "agent n2", "kill n1", "tick 20", "all", "round",
		"all", "wake n1", "drop pod q", "claim d 1Ti fast many", "drop claim d"}
}

// fewActs: as many of these as tests that go over each byte can do with.
func fewActs() []string {
	return deskActs()[:5]
}

// fillers: a log of just so many bytes (100 at least), all of whose acts are done to the desk's cluster, and change nothing.
func fillers(size int) string {
	// A record of round has 10 bytes, one of tick 0 has 11.
	for rounds := range 11 {
		if left := size - 10*rounds; left >= 0 && left%11 == 0 {
			return logOf(slices.Repeat([]string{"round"}, rounds)...) + strings.Repeat(record("tick 0"), left/11)
		}
	}
	return ""
}

// The tests' own record is what chapter 11 asks for, as far as the calls of chapter 2 tell.
func TestRecords(t *testing.T) {
	for _, act := range append(deskActs(), "", strings.Repeat("a", 59), strings.Repeat("a", 60), strings.Repeat("a", 200), strings.Repeat("a", 7996)) {
		if got := impl.PutText(impl.Seal(act)); got != record(act) {
			t.Errorf("the record of %.60q: got %.80q, want %.80q", act, record(act), got)
		}
	}
	for _, size := range []int{110, 121, 7989, 7990, 7999, 8000, 8001} {
		if got := len(fillers(size)); got != size {
			t.Errorf("a log of %d bytes has %d", size, got)
		}
	}
}

func TestReplay(t *testing.T) {
	for _, c := range placingClusters() {
		wantReplay(t, "an empty log", c, "", c, 0)
		for _, junk := range []string{"\x00", " ", "all", "\xff", strings.Repeat("\x80", 12), strings.Repeat("\x00", 8000), strings.Repeat("a", 8000), strings.Repeat("\xff", 8000)} {
			wantReplay(t, "no log", c, junk, c, 0)
		}
	}
	desk, acts := impl.DeskCluster(), deskActs()
	whole := pastOf(desk, acts...)
	if whole.size() != int64(len(logOf(acts...))) {
		t.Fatalf("of %d acts %d are done", len(acts), len(whole.ends)-1)
	}
	for count := range len(acts) + 1 {
		wantReplay(t, fmt.Sprintf("%d acts", count), desk, logOf(acts[:count]...), whole.after[count], whole.ends[count])
	}
	// It goes on from the cluster that was handed in, whichever it is.
	for at, c := range whole.after {
		wantReplay(t, "the rest of the acts", c, logOf(acts[at:]...), whole.then(), whole.size()-whole.ends[at])
	}
	work := pastOf(workCluster(), "tick 7", "agent n1", "drop pod p1", "round", "all")
	wantReplay(t, "one at work", workCluster(), logOf("tick 7", "agent n1", "drop pod p1", "round", "all"), work.then(), work.size())
}

// A log that ends within a record, at each of its bytes, is gone through up to that record.
func TestReplayOfCutLogs(t *testing.T) {
	c, acts := impl.DeskCluster(), deskActs()
	told, log := pastOf(c, acts...), logOf(acts...)
	for size := range len(log) + 1 {
		count := told.upTo(int64(size))
		wantReplay(t, fmt.Sprintf("cut at %d", size), c, log[:size], told.after[count], told.ends[count])
	}
	// What is cut off at its beginning is no record at all.
	for size := 1; int64(size) < told.ends[1]; size++ {
		wantReplay(t, fmt.Sprintf("without the first %d bytes", size), c, log[size:], c, 0)
	}
}

// With one byte turned, a log is gone through up to the record in which that is.
func TestReplayOfTurnedLogs(t *testing.T) {
	c, acts := impl.DeskCluster(), fewActs()
	told, log := pastOf(c, acts...), logOf(acts...)
	for at := range len(log) {
		count := told.upTo(int64(at))
		for turn := 1; turn < 256; turn += 1 + turn/16 {
			turned := []byte(log)
			turned[at] ^= byte(turn)
			wantReplay(t, fmt.Sprintf("%d turned at %d", turn, at), c, string(turned), told.after[count], told.ends[count])
		}
	}
}

// badRecords: what is no record, or whose act is none, or is refused whatever there is.
func badRecords() []string {
	out := []string{
		"\x00", "\x02a", "\x04ab", "\x06abc", "\x08\x00\x00\x00\x01", "\x01", "\x07abcd", "\xff\x01aaaa", "\x80", "\x80\x00",
		// The length in more bytes than it needs, and one above 8,000.
		strings.Replace(record("all"), "\x0e", "\x8e\x00", 1), strings.Replace(record("all"), "\x0e", "\x8e\x80\x00", 1), "\x82\x7d" + strings.Repeat("a", 100),
		// The act without its seal, with another one's, and with its bytes in another order.
		impl.PutText("all"), impl.PutText("all\x00\x00\x00\x00"), record("all")[:4] + record("round")[6:], impl.PutText(impl.Seal(impl.Seal("all"))), impl.Seal("all"), "\x06all",
		// A record within a record.
		impl.PutText(record("all")), record(record("all")), record(impl.Seal("all")),
	}
	for _, act := range append(noActs(), "tick 1001", "kill n9", "drop pod p9", "claim c9 5Gi none single", "pod p9 0 - c9", strings.Repeat("a", 200), strings.Repeat("a", 201), "all"+strings.Repeat(" ", 300)) {
		out = append(out, record(act))
	}
	return out
}

// What is no record, or whose act is none or is refused, at the beginning, in the middle and at the end: nothing behind it is gone through.
func TestReplayOfBadRecords(t *testing.T) {
	c, acts := impl.DeskCluster(), fewActs()
	told := pastOf(c, acts...)
	for _, bad := range badRecords() {
		for count := range len(acts) + 1 {
			log := logOf(acts[:count]...) + bad + logOf(acts[count:]...)
			what := fmt.Sprintf("%.40q behind %d acts", bad, count)
			wantReplay(t, what, c, log, told.after[count], told.ends[count])
			wantStoreRight(t, what, allSynced(log), c, false)
			wantNotStored(t, what, allSynced(log), c, "round", impl.ErrForm)
			wantStore(t, what+": StoreRecover", impl.StoreRecover(allSynced(log), c), allSynced(log[:told.ends[count]]))
		}
	}
	// What was done once is refused the second time.
	for count, act := range acts {
		if slices.Contains([]string{"all", "tick 7"}, act) {
			continue
		}
		log := logOf(acts[:count+1]...) + record(act) + record("round")
		wantReplay(t, act+" twice", c, log, told.after[count+1], told.ends[count+1])
	}
	// What is refused here is done there.
	wantReplay(t, "no such pod", c, record("drop pod p"), c, 0)
	with := impl.AddPod(c, impl.Pod{Name: "p"}).Cluster
	wantReplay(t, "such a pod", with, record("drop pod p"), c, int64(len(record("drop pod p"))))
}

// 8,000 bytes and 8,001, of clusters that are right and of others; the first fault is named.
func TestReplayRefused(t *testing.T) {
	c := impl.DeskCluster()
	log := fillers(8000)
	wantReplay(t, "as long as may be", c, log, c, 8000)
	for _, long := range []string{log + "\x00", log + record("all"), log + record("x"), overlong(), strings.Repeat("\x00", 8001), log + log} {
		wantNoReplay(t, "too long", c, long, impl.ErrSize)
		for _, wrong := range wrongClusters() {
			wantNoReplay(t, "too long, a wrong cluster", wrong, long, impl.ErrSize)
		}
	}
	for _, wrong := range wrongClusters() {
		for _, log := range []string{"", logOf("all"), logOf("x"), "\xff", log} {
			wantNoReplay(t, "a wrong cluster", wrong, log, impl.ErrForm)
		}
	}
}

// Synced below 0, 0, within, at the end and behind it, of logs of many kinds.
func TestStoreRight(t *testing.T) {
	c := impl.DeskCluster()
	for _, log := range []string{"", logOf("all"), logOf(fewActs()...), logOf(deskActs()...), fillers(8000)} {
		size := int64(len(log))
		for _, synced := range []int64{math.MinInt64, -size, -2, -1, 0, 1, 2, 3, 8, size / 2, size - 1, size, size + 1, size + 2, 2*size + 1, 8000, 8001, math.MaxInt64} {
			s := impl.Store{Log: log, Synced: synced}
			right := synced >= 0 && synced <= size
			wantStoreRight(t, "a log that is right", s, c, right)
			for _, wrong := range wrongClusters()[:4] {
				wantStoreRight(t, "a wrong cluster", s, wrong, false)
			}
			if !right {
				wantNotStored(t, "Synced out of its bounds", s, c, "all", impl.ErrForm)
				wantNotStored(t, "Synced out of its bounds, and no act", s, c, "x", impl.ErrForm)
			}
		}
	}
	for _, log := range []string{fillers(8001), fillers(8000) + "\x00", fillers(8000) + record("all"), strings.Repeat(record("all"), 1001)} {
		for _, synced := range []int64{0, 1, 8000, 8001, int64(len(log))} {
			s := impl.Store{Log: log, Synced: synced}
			wantStoreRight(t, "too long a log", s, c, false)
			// It is a field of something: not too long a text, but not a right store.
			wantNotStored(t, "too long a log", s, c, "all", impl.ErrForm)
		}
	}
	told := pastOf(c, fewActs()...)
	for size := range told.size() + 1 {
		for _, synced := range []int64{0, size / 2, size} {
			log := logOf(fewActs()...)[:size]
			wantStoreRight(t, "cut off", impl.Store{Log: log, Synced: synced}, c, slices.Contains(told.ends, size))
		}
	}
	// It is right for one cluster, and not for another one.
	s := allSynced(logOf("drop pod p1"))
	wantStoreRight(t, "there is such a pod", s, workCluster(), true)
	wantStoreRight(t, "there is none", s, c, false)
}

// Promise 14: what is done is found again.
func TestStoreDo(t *testing.T) {
	c, acts := impl.DeskCluster(), deskActs()
	told := pastOf(c, acts...)
	s := impl.Store{}
	for at, act := range acts {
		next := wantStored(t, "one by one", s, c, act)
		wantReplay(t, "one by one", c, next.Log, told.after[at+1], told.ends[at+1])
		// However much of it was synced ahead, all is now.
		for synced := range int64(len(s.Log)) + 1 {
			if synced%7 == 0 {
				wantStore(t, "less synced", impl.StoreDo(impl.Store{Log: s.Log, Synced: synced}, c, act).Store, next)
			}
		}
		s = next
	}
	for _, c := range placingClusters() {
		for _, act := range append(someActs(), noActs()[:30]...) {
			if _, code := actMove(act).want(c); code != impl.OK {
				wantNotStored(t, "refused", impl.Store{}, c, act, code)
				wantNotStored(t, "refused behind another one", allSynced(record("tick 0")), c, act, code)
				continue
			}
			wantStored(t, "done", impl.Store{}, c, act)
			wantStored(t, "done behind another one", allSynced(record("tick 0")), c, act)
		}
	}
	// It is the cluster at the end of the log that is asked, not that of the beginning.
	wantNotStored(t, "there already", allSynced(record("pod p 0 -")), c, "pod p 0 -", impl.ErrThere)
	wantStored(t, "not there any more", allSynced(logOf("pod p 0 -", "drop pod p")), c, "pod p 0 -")
	wantNotStored(t, "not there any more", allSynced(logOf("pod p 0 -", "drop pod p")), c, "drop pod p", impl.ErrNone)
}

// A log that ends at just 8,000 bytes, and at one more.
func TestStoreDoFull(t *testing.T) {
	c := impl.DeskCluster()
	for _, act := range []string{"all", "round", "tick 0", "tick 10", "tick 1000", "kill n1", "agent n3", "pod p 500m -", "claim " + longName + " 1048575Gi fast single"} {
		size := 8000 - len(record(act))
		wantStored(t, "just enough room", allSynced(fillers(size)), c, act)
		wantStored(t, "a byte more", allSynced(fillers(size-1)), c, act)
		for more := 1; more <= 12; more++ {
			full := allSynced(fillers(min(size+more, 8000)))
			wantNotStored(t, "a byte too little", full, c, act, impl.ErrFull)
			wantNotStored(t, "none synced", impl.Store{Log: full.Log}, c, act, impl.ErrFull)
		}
	}
	// The code of the act comes ahead of that there is no room.
	full := allSynced(fillers(8000))
	for _, act := range noActs() {
		wantNotStored(t, "no room, and no act", full, c, act, impl.ErrSyntax)
	}
	wantNotStored(t, "no room, and refused", full, c, "kill n9", impl.ErrNone)
	wantNotStored(t, "no room, and refused", full, c, "wake n1", impl.ErrState)
	wantNotStored(t, "no room, and refused", full, c, "tick 1001", impl.ErrRange)
	wantNotStored(t, "no room, and too long", full, c, overlong(), impl.ErrSize)
}

// The first fault is named: too long an act, what is not right, and the act's own.
func TestStoreDoFaults(t *testing.T) {
	c := impl.DeskCluster()
	right, wrong := allSynced(logOf("all")), []impl.Store{{Synced: -1}, {Synced: 1}, {Log: "x"}, {Log: "x", Synced: 1}, allSynced(logOf("x")), {Log: logOf("all"), Synced: 9}, allSynced(fillers(8001))}
	for _, act := range overlongs() {
		wantNotStored(t, "too long", right, c, act, impl.ErrSize)
		for _, s := range wrong {
			wantNotStored(t, "too long, a wrong store", s, c, act, impl.ErrSize)
			wantNotStored(t, "too long, both wrong", s, wrongClusters()[0], act, impl.ErrSize)
		}
	}
	for _, act := range []string{"all", "x", "", "kill n9", strings.Repeat("a", 200), strings.Repeat("a", 201), strings.Repeat("a", 8000)} {
		for _, s := range wrong {
			wantNotStored(t, "a wrong store", s, c, act, impl.ErrForm)
			wantNotStored(t, "both wrong", s, wrongClusters()[0], act, impl.ErrForm)
		}
		for _, bad := range wrongClusters() {
			wantNotStored(t, "a wrong cluster", right, bad, act, impl.ErrForm)
			wantNotStored(t, "a wrong cluster, nothing in store", impl.Store{}, bad, act, impl.ErrForm)
		}
	}
	for _, size := range []int{200, 201, 8000} {
		wantNotStored(t, "long", right, c, strings.Repeat("a", size), impl.ErrSyntax)
	}
	wantNotStored(t, "refused", right, c, "kill n9", impl.ErrNone)
	wantNotStored(t, "no act", right, c, "x", impl.ErrSyntax)
}

// keep below 0, 0, less than what is left, just that, and more; Synced at each place, and out of its bounds.
func TestStoreCrash(t *testing.T) {
	for _, log := range []string{"", "x", "abcdefghij", logOf(fewActs()...), fillers(8000), strings.Repeat("abc", 4000)} {
		size := int64(len(log))
		for _, synced := range []int64{0, 1, 2, size / 2, size - 2, size - 1, size} {
			if synced < 0 || synced > size {
				continue
			}
			left := size - synced
			for _, keep := range []int64{math.MinInt64, math.MinInt64 + 1, -size, -2, -1, 0, 1, 2, left / 2, left - 1, left, left + 1, size, size + 1, 8000, math.MaxInt64 - size, math.MaxInt64 - 1, math.MaxInt64} {
				end := synced
				if keep > 0 {
					end = size
				}
				if keep > 0 && keep < left {
					end = synced + keep
				}
				got := impl.StoreCrash(impl.Store{Log: log, Synced: synced}, keep)
				wantStore(t, fmt.Sprintf("%d of %d bytes synced, %d kept", synced, size, keep), got, allSynced(log[:end]))
			}
		}
		for _, synced := range []int64{math.MinInt64, -size - 1, -2, -1, size + 1, size + 2, 2*size + 1, math.MaxInt64} {
			for _, keep := range []int64{math.MinInt64, -1, 0, 1, size, math.MaxInt64} {
				s := impl.Store{Log: log, Synced: synced}
				wantStore(t, fmt.Sprintf("%d of %d bytes synced", synced, size), impl.StoreCrash(s, keep), s)
			}
		}
	}
	for synced := range int64(11) {
		for keep := int64(-2); keep < 14; keep++ {
			end := min(10, synced+max(keep, 0))
			wantStore(t, "each of ten", impl.StoreCrash(impl.Store{Log: "abcdefghij", Synced: synced}, keep), allSynced("abcdefghij"[:end]))
		}
	}
}

// A log that is gone through to its end, in part, or not at all, whatever was synced of it; too long a one, and a wrong cluster.
func TestStoreRecover(t *testing.T) {
	c := impl.DeskCluster()
	told, log := pastOf(c, fewActs()...), logOf(fewActs()...)
	for size := range told.size() + 1 {
		want := allSynced(log[:told.ends[told.upTo(size)]])
		for _, synced := range []int64{math.MinInt64, -1, 0, 1, size / 2, size, size + 1, math.MaxInt64} {
			got := impl.StoreRecover(impl.Store{Log: log[:size], Synced: synced}, c)
			wantStore(t, fmt.Sprintf("cut at %d, %d synced", size, synced), got, want)
			wantStoreRight(t, "recovered", got, c, true)
			wantStore(t, "recovered twice", impl.StoreRecover(got, c), want)
		}
	}
	for _, junk := range []string{"", "x", "\x00", strings.Repeat("a", 8000), logOf("x"), record("all")[1:], logOf("kill n9", "all")} {
		wantStore(t, "none of it", impl.StoreRecover(allSynced(junk), c), impl.Store{})
	}
	full := fillers(8000)
	wantStore(t, "as long as may be", impl.StoreRecover(impl.Store{Log: full}, c), allSynced(full))
	for _, long := range []string{full + "\x00", full + record("all"), strings.Repeat("a", 8001), overlong(), strings.Repeat(record("all"), 1001)} {
		for _, synced := range []int64{-1, 0, 1, 8000, int64(len(long)), int64(len(long)) + 1} {
			s := impl.Store{Log: long, Synced: synced}
			wantStore(t, "too long", impl.StoreRecover(s, c), s)
			wantStore(t, "too long, a wrong cluster", impl.StoreRecover(s, wrongClusters()[0]), s)
		}
	}
	for _, wrong := range wrongClusters() {
		for _, s := range []impl.Store{{}, {Synced: -1}, {Log: log}, {Log: log[:20], Synced: 20}, {Log: "x", Synced: 7}, allSynced(log)} {
			wantStore(t, "a wrong cluster", impl.StoreRecover(s, wrong), s)
		}
	}
	// It is gone through from that cluster on.
	s := allSynced(logOf("drop pod p1", "tick 1"))
	wantStore(t, "there is such a pod", impl.StoreRecover(s, workCluster()), s)
	wantStore(t, "there is none", impl.StoreRecover(s, c), impl.Store{})
}

// Promise 14: whatever was synced, and whatever is left of the rest, there is what there was at some act behind that.
func TestCrashes(t *testing.T) {
	c, acts := impl.DeskCluster(), deskActs()
	told, log := pastOf(c, acts...), logOf(acts...)
	for _, synced := range told.ends {
		for keep := int64(-1); synced+keep <= told.size()+1; keep++ {
			checkCrash(t, c, told, impl.Store{Log: log, Synced: synced}, keep)
		}
	}
	for synced := range told.size() + 1 {
		checkCrash(t, c, told, impl.Store{Log: log, Synced: synced}, 3)
	}
}

// checkCrash: of a store of that past, what is left at its end is the past up to some act: all whose records are wholly kept, and so all that are synced.
func checkCrash(t *testing.T, c impl.Cluster, told past, s impl.Store, keep int64) {
	t.Helper()
	what := fmt.Sprintf("%d of %d bytes synced, %d kept", s.Synced, len(s.Log), keep)
	got := impl.StoreRecover(impl.StoreCrash(s, keep), c)
	count := told.upTo(min(s.Synced+max(keep, 0), told.size()))
	wantStore(t, what, got, allSynced(s.Log[:told.ends[count]]))
	wantStoreRight(t, what, got, c, true)
	wantReplay(t, what, c, got.Log, told.after[count], told.ends[count])
	if count < told.upTo(s.Synced) {
		t.Errorf("%s: %d acts are left of %d that were synced", what, count, told.upTo(s.Synced))
	}
}
