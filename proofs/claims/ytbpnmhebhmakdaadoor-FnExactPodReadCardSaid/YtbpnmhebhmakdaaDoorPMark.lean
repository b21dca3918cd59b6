/-
  What the law on PodRead calls besides: the marks written into the answer's list, and whether they are held.
-/
import Derived.Test.YtbpnmhebhmakdaaDoorPRead
import Derived.Test.YtbpnmhebhmakdaaDoorKLaw
namespace Go.Proofs.YtbpnmhebhmakdaaDoor
open Go.RowKit

/-- The mark number u. -/
def markT (u : Nat) : ByteArray := ⟨#[109]⟩ ++ ⟨(Lib.decDigits u).toArray⟩

set_option maxRecDepth 100000 in
set_option maxHeartbeats 1600000 in
theorem markText_any (u : Nat) (w : World) (h0 : 0 < u) (h1 : u ≤ 1048576) :
    Calls Tryd.prog 52 #[.int .i64 u] w fun e w' => e = .returned (.string (markT u)) ∧ Below w.heap.size w w' := by
  have hn0 : decide ((u : Int) ≤ 0) = false := by simp; omega
  go_enter Tryd.func52, Tryd.ntmps52
  go_wp2
  go_loopw [0, 3] (fun vn vr wr => ∃ (n : Nat) (r : ByteArray), vn = .int .i64 n ∧ vr = .string r ∧ DecAt u n r ∧ Below w.heap.size w wr) (fun vn _ _ => (intOf vn).toNat)
  case atStart => exact ⟨u, _, rfl, rfl, ⟨Nat.le_refl _, by rw [if_neg (by omega)]; simp⟩, Below.refl _ _⟩
  case round =>
    obtain ⟨n, r, rfl, rfl, hd, hb⟩ := hrel
    have hle : n ≤ 1048576 := Nat.le_trans hd.1 h1
    have hr := hd.len (by omega)
    have hr2 : (⟨#[dgB n]⟩ : ByteArray).size + r.size ≤ 9223372036854775807 := by rw [show (⟨#[dgB n]⟩ : ByteArray).size = 1 from rfl]; omega
    have HD : Hid (DecAt u n r) := hd
    clear hd h1 hn0
    by_cases hn : n = 0
    · have hn1 : ¬ (0 : Int) < n := by omega
      have hr3 : (⟨#[109]⟩ : ByteArray).size + r.size ≤ 9223372036854775807 := by rw [show (⟨#[109]⟩ : ByteArray).size = 1 from rfl]; omega
      go_wp2
      go_ret
      refine ⟨?_, hb⟩
      have := HD.out.2
      rw [if_pos hn] at this
      unfold markT
      rw [← this]; rfl
    · have hn1 : (0 : Int) < n := by omega
      have hcv := conv_one wr n
      have hmd : (0 : Int) ≤ (n : Int) % 10 := by omega
      have hmd2 : (n : Int) % 10 < 10 := by omega
      go_wp2
      go_roundw
      case rel =>
        refine ⟨n / 10, _, by go_num, rfl, HD.out.step hn, ?_⟩
        exact hb.alloc (by have := hb.size; omega) _
      case measure => simp [intOf]; omega

/-- All but the block g stands. -/
structure Kept (g : Nat) (w w' : World) : Prop where
  os : w'.os = w.os
  tape : w'.tape = w.tape
  output : w'.output = w.output
  size : w.heap.size ≤ w'.heap.size
  block : ∀ k, k < w.heap.size → ¬ k = g → w'.heap[k]? = w.heap[k]?
theorem Kept.of_below {g : Nat} {w w' : World} (h : Below w.heap.size w w') : Kept g w w' := ⟨h.os, h.tape, h.output, h.size, fun k hk _ => h.block k hk⟩
theorem Kept.trans {g : Nat} {a b c : World} (h : Kept g a b) (k : Kept g b c) : Kept g a c := ⟨k.os.trans h.os, k.tape.trans h.tape, k.output.trans h.output, Nat.le_trans h.size k.size, fun i hi hn => (k.block i (Nat.lt_of_lt_of_le hi h.size) hn).trans (h.block i hi hn)⟩
theorem Kept.set {g i : Nat} {w w' : World} {v : Value} (h : Kept g w w') : Kept g w (w'.setCell ⟨g, i, none⟩ v) :=
  ⟨h.os, h.tape, h.output, by simpa [World.setCell] using h.size, fun k hk hn => (Below.heap_setCell _ _ _ _ hn).trans (h.block k hk hn)⟩
theorem Kept.below {g B : Nat} {w w1 w2 : World} (h : Kept g w1 w2) (hb : Below B w w1) (hB : B ≤ w1.heap.size) (hg : B ≤ g) : Below B w w2 :=
  ⟨h.os.trans hb.os, h.tape.trans hb.tape, h.output.trans hb.output, Nat.le_trans hb.size h.size, fun k hk => (h.block k (Nat.lt_of_lt_of_le hk hB) (by omega)).trans (hb.block k hk)⟩
/-- The cells of a list of marks, so many written. -/
def MarkAt (k n : Nat) (cur : Array Value) : Prop := ∀ j, j < n → cur[j]? = some (.string (markT (k + j)))
/-- The answer of markStringS. -/
def MarkAns (g k len : Nat) (w : World) (e : Ending) (w' : World) : Prop :=
  e = .returned (.int .i64 ((k + len : Nat) : Int)) ∧ Kept g w w' ∧ ∃ cur, w'.heap[g]? = some (.cells cur 9 (0, 0)) ∧ MarkAt k len cur

theorem markI (k i : Nat) (h0 : 0 < k) (h1 : k + i ≤ 1048576) (w : World) : Calls Tryd.prog 52 #[.int .i64 ((k : Int) + (i : Int))] w fun e w' => e = .returned (.string (markT (k + i))) ∧ Below w.heap.size w w' := by
  have h := markText_any (k + i) w (by omega) h1
  rw [Int.natCast_add] at h
  exact h

set_option maxHeartbeats 3200000 in
theorem markS_any (g len cap k : Nat) (cur : Array Value) (w : World) (hg : w.heap[g]? = some (.cells cur 9 (0, 0))) (hl : len ≤ cur.size) (hk : 0 < k) (hk2 : k + len ≤ 1048576) :
    Calls Tryd.prog 33 #[.slice (some ⟨g, 0, none⟩) len cap, .int .i64 k] w (MarkAns g k len w) := by
  have HG := hidK hg
  clear hg
  go_enter Tryd.func33, Tryd.ntmps33
  go_wp2
  go_loopw [1, 5] (fun vk vi wr => ∃ (i : Nat) (cu : Array Value), i ≤ len ∧ vk = .int .i64 ((k + i : Nat) : Int) ∧ vi = .int .i64 i ∧ cu.size = cur.size ∧ Hid (wr.heap[g]? = some (.cells cu 9 (0, 0))) ∧ Hid (MarkAt k i cu) ∧ Hid (Kept g w wr)) (fun _ vi _ => len - (intOf vi).toNat)
  case atStart => exact ⟨0, cur, by omega, by simp, rfl, rfl, HG, fun j hj => by omega, Kept.of_below (Below.refl _ _)⟩
  case round =>
    obtain ⟨i, cu, hi, rfl, rfl, hcs, HC, HM, HK⟩ := hrel
    by_cases hlt : i < len
    · have HT := hidK (markI k i (by omega) (by omega))
      go_wp2_with fail
      refine (HT.out _).mono ?_
      rintro e w2 ⟨rfl, hb2⟩
      have g2 := (hb2.block g (lt_of_someP HC.out)).trans HC.out
      have hcl : w2.cell? ⟨g, i, none⟩ = some (cu[i]'(by omega)) := by rw [cellK g2]; exact Array.getElem?_eq_getElem _
      have hfr : w2.frozen? ⟨g, i, none⟩ = false := by simp [World.frozen?, g2]
      have HG2 := hidK g2
      have HK2 := hidK (HK.out.trans (Kept.of_below (g := g) hb2))
      clear hb2 g2
      go_wp2_with fail
      refine ⟨⟨i + 1, cu.setIfInBounds i (.string (markT (k + i))), by omega, by go_num, by go_num, by simp [hcs], ?_, ?_, HK2.out.set⟩, by simp [intOf]; omega⟩
      · exact block_set HG2.out _
      · intro j hj
        rw [Array.getElem?_setIfInBounds]
        by_cases e : i = j
        · subst e
          rw [if_pos rfl, if_pos (by omega)]
        · rw [if_neg e]
          exact HM.out j (by omega)
    · obtain rfl : i = len := by omega
      go_wp2
      go_ret
      exact ⟨rfl, HK.out, cu, HC.out, HM.out⟩

set_option maxHeartbeats 3200000 in
theorem heldS_any (a : Option Addr) (len cap k : Nat) (zs : List ByteArray) (w : World) (hr : TxRow w a len cap zs) (hk : 0 < k) (hk2 : k + len ≤ 1048576) (hz : ∀ (j : Nat) x, zs[j]? = some x → x = markT (k + j)) :
    Calls Tryd.prog 34 #[.slice a len cap, .int .i64 k] w fun e w' => e = .returned (.int .i64 ((k + len : Nat) : Int)) ∧ Below w.heap.size w w' := by
  have HR := hidK hr
  have HZ := hidK hz
  clear hr hz
  go_enter Tryd.func34, Tryd.ntmps34
  go_wp2
  go_loopw [1, 5] (fun vk vi wr => ∃ (i : Nat), i ≤ len ∧ vk = .int .i64 ((k + i : Nat) : Int) ∧ vi = .int .i64 i ∧ Hid (Below w.heap.size w wr)) (fun _ vi _ => len - (intOf vi).toNat)
  case atStart => exact ⟨0, by omega, by simp, rfl, Below.refl _ _⟩
  case round =>
    obtain ⟨i, hi, rfl, rfl, HB⟩ := hrel
    by_cases hlt : i < len
    · obtain ⟨b, o, x, rfl, hb, hx, hc, -⟩ := (HR.out.below HB.out).at hlt
      obtain rfl := HZ.out i x hx
      have HT := hidK (markI k i (by omega) (by omega))
      have hb' := hidK hb
      go_wp2_with fail
      have hne := Wd.ne wr
      have cc : ∀ q : Wd wr, q.w.cell? ⟨b, o + i, none⟩ = some (.string (markT (k + i))) := fun q => (q.cell hb'.out).trans hc
      refine wp_region_wide (by kernel_rfl) (by kernel_rfl) ?_
      repeat (go_big_quiet_step (first | (go_at_call 52; exact Calls.wide (HT.out _)) | fail))
      refine wpQuiet_nil ?_
      rintro _ ⟨q, rfl⟩
      have hqs : ((markT (k + i)).toList == (markT (k + i)).toList) = true := by simp
      go_wp2_with fail
      exact ⟨⟨i + 1, by omega, by go_num, by go_num, HB.out.trans (q.b.mono HB.out.size)⟩, by simp [intOf]; omega⟩
    · obtain rfl : i = len := by omega
      go_wp2
      go_ret
      exact ⟨rfl, HB.out⟩

set_option maxHeartbeats 1600000 in
theorem markZ_any (a : Option Addr) (cap : Nat) (w : World) :
    Calls Tryd.prog 33 #[.slice a 0 cap, .int .i64 1] w fun e w' => e = .returned (.int .i64 1) ∧ Below w.heap.size w w' := by
  go_enter Tryd.func33, Tryd.ntmps33
  go_wp2
  go_loopw [1, 5] (fun vk vi wr => vk = .int .i64 1 ∧ vi = .int .i64 0 ∧ wr = w) (fun _ vi _ => (intOf vi).toNat)
  case atStart => exact ⟨rfl, rfl, rfl⟩
  case round =>
    obtain ⟨rfl, rfl, rfl⟩ := hrel
    go_wp2
    go_ret
    exact ⟨rfl, Below.refl _ _⟩

set_option maxHeartbeats 1600000 in
theorem markPod_own (n : ByteArray) (c : Int) (z : ByteArray) (g len cap : Nat) (d : ByteArray) (p : Int) (cur : Array Value) (w : World) (hg : w.heap[g]? = some (.cells cur 9 (0, 0))) (hl : len ≤ cur.size) (hk2 : 1 + len ≤ 1048576) :
    Calls Tryd.prog 19 #[.agg #[.string n, .int .i64 c, .string z, .slice (some ⟨g, 0, none⟩) len cap, .string d, .int .i64 p], .int .i64 1] w (MarkAns g 1 len w) := by
  have hlt := lt_of_someP hg
  have HG := hidK hg
  have HL := hidK hlt
  clear hg hlt
  go_enter Tryd.func19, Tryd.ntmps19
  go_wp2_with fail
  refine (markS_any g len cap 1 cur _ ((Below.heap_alloc _ _ _ HL.out).trans HG.out) hl (by decide) hk2).mono ?_
  rintro e w1 ⟨rfl, hk, cu, hg1, hm1⟩
  have HA := hidK (show MarkAns g 1 len w (.returned (.int .i64 ((1 + len : Nat) : Int))) w1 from ⟨rfl, (Kept.of_below (below1 _ _)).trans hk, cu, hg1, hm1⟩)
  clear hk hg1 hm1
  go_wp2_with fail
  go_ret
  exact HA.out

set_option maxHeartbeats 1600000 in
theorem markPodOut_own (n : ByteArray) (c : Int) (z : ByteArray) (g len cap : Nat) (d : ByteArray) (p x : Int) (cur : Array Value) (w : World) (hg : w.heap[g]? = some (.cells cur 9 (0, 0))) (hl : len ≤ cur.size) (hk2 : 1 + len ≤ 1048576) :
    Calls Tryd.prog 7 #[.agg #[.string n, .int .i64 c, .string z, .slice (some ⟨g, 0, none⟩) len cap, .string d, .int .i64 p, .int .i64 x], .int .i64 1] w (MarkAns g 1 len w) := by
  have hlt := lt_of_someP hg
  have HG := hidK hg
  have HL := hidK hlt
  clear hg hlt
  go_enter Tryd.func7, Tryd.ntmps7
  go_wp2_with fail
  refine (markPod_own n c z g len cap d p cur _ ((Below.heap_alloc _ _ _ HL.out).trans HG.out) hl hk2).mono ?_
  rintro e w1 ⟨rfl, hk, cu, hg1, hm1⟩
  have HA := hidK (show MarkAns g 1 len w (.returned (.int .i64 ((1 + len : Nat) : Int))) w1 from ⟨rfl, (Kept.of_below (below1 _ _)).trans hk, cu, hg1, hm1⟩)
  clear hk hg1 hm1
  go_wp2_with fail
  go_ret
  exact HA.out

set_option maxHeartbeats 1600000 in
theorem markPod_nil (n : ByteArray) (c : Int) (z : ByteArray) (a : Option Addr) (cap : Nat) (d : ByteArray) (p : Int) (w : World) :
    Calls Tryd.prog 19 #[.agg #[.string n, .int .i64 c, .string z, .slice a 0 cap, .string d, .int .i64 p], .int .i64 1] w fun e w' => e = .returned (.int .i64 1) ∧ Below w.heap.size w w' := by
  go_enter Tryd.func19, Tryd.ntmps19
  go_wp2_with fail
  refine (markZ_any a cap _).mono ?_
  rintro e w1 ⟨rfl, hb⟩
  have HB := hidK (slotK hb).2.1
  clear hb
  go_wp2_with fail
  go_ret
  exact ⟨rfl, HB.out⟩

set_option maxHeartbeats 1600000 in
theorem markPodOut_nil (n : ByteArray) (c : Int) (z : ByteArray) (a : Option Addr) (cap : Nat) (d : ByteArray) (p x : Int) (w : World) :
    Calls Tryd.prog 7 #[.agg #[.string n, .int .i64 c, .string z, .slice a 0 cap, .string d, .int .i64 p, .int .i64 x], .int .i64 1] w fun e w' => e = .returned (.int .i64 1) ∧ Below w.heap.size w w' := by
  go_enter Tryd.func7, Tryd.ntmps7
  go_wp2_with fail
  refine (markPod_nil n c z a cap d p _).mono ?_
  rintro e w1 ⟨rfl, hb⟩
  have HB := hidK (slotK hb).2.1
  clear hb
  go_wp2_with fail
  go_ret
  exact ⟨rfl, HB.out⟩

set_option maxHeartbeats 1600000 in
theorem heldPod_any (n : ByteArray) (c : Int) (z : ByteArray) (a : Option Addr) (len cap : Nat) (d : ByteArray) (p : Int) (zs : List ByteArray) (w : World) (hr : TxRow w a len cap zs) (hk2 : 1 + len ≤ 1048576) (hz : ∀ (j : Nat) y, zs[j]? = some y → y = markT (1 + j)) :
    Calls Tryd.prog 20 #[.agg #[.string n, .int .i64 c, .string z, .slice a len cap, .string d, .int .i64 p], .int .i64 1] w fun e w' => e = .returned (.int .i64 ((1 + len : Nat) : Int)) ∧ Below w.heap.size w w' := by
  have HR := hidK (hr.below (below1 w (.cells #[.string n, .int .i64 c, .string z, .slice a len cap, .string d, .int .i64 p] 24)))
  have HZ := hidK hz
  clear hr hz
  go_enter Tryd.func20, Tryd.ntmps20
  go_wp2_with fail
  refine (heldS_any a len cap 1 zs _ HR.out (by decide) hk2 HZ.out).mono ?_
  rintro e w1 ⟨rfl, hb⟩
  have HB := hidK (slotK hb).2.1
  clear hb
  go_wp2_with fail
  go_ret
  exact ⟨rfl, HB.out⟩

set_option maxHeartbeats 1600000 in
theorem heldPodOut_any (n : ByteArray) (c : Int) (z : ByteArray) (a : Option Addr) (len cap : Nat) (d : ByteArray) (p x : Int) (zs : List ByteArray) (w : World) (hr : TxRow w a len cap zs) (hk2 : 1 + len ≤ 1048576) (hz : ∀ (j : Nat) y, zs[j]? = some y → y = markT (1 + j)) :
    Calls Tryd.prog 8 #[.agg #[.string n, .int .i64 c, .string z, .slice a len cap, .string d, .int .i64 p, .int .i64 x], .int .i64 1] w fun e w' => e = .returned (.int .i64 ((1 + len : Nat) : Int)) ∧ Below w.heap.size w w' := by
  have HR := hidK (hr.below (below1 w (.cells #[.string n, .int .i64 c, .string z, .slice a len cap, .string d, .int .i64 p, .int .i64 x] 26)))
  have HZ := hidK hz
  clear hr hz
  go_enter Tryd.func8, Tryd.ntmps8
  go_wp2_with fail
  refine (heldPod_any n c z a len cap d p zs _ HR.out hk2 HZ.out).mono ?_
  rintro e w1 ⟨rfl, hb⟩
  have HB := hidK (slotK hb).2.1
  clear hb
  go_wp2_with fail
  go_ret
  exact ⟨rfl, HB.out⟩

set_option maxHeartbeats 1600000 in
theorem eqPodOut_any (n : ByteArray) (c : Int) (z : ByteArray) (a : Option Addr) (len cap : Nat) (zs : List ByteArray) (d : ByteArray) (p x : Int) (a' : Option Addr) (len' cap' : Nat) (w : World) (hr : TxRow w a len cap zs) (hr' : TxRow w a' len' cap' zs) :
    Calls Tryd.prog 6 #[.agg #[.string n, .int .i64 c, .string z, .slice a len cap, .string d, .int .i64 p, .int .i64 x], .agg #[.string n, .int .i64 c, .string z, .slice a' len' cap', .string d, .int .i64 p, .int .i64 x]] w fun e w' => e = .returned (.bool true) ∧ Below w.heap.size w w' := by
  have HR := hidK (hr.below (below2 w (.cells #[.string n, .int .i64 c, .string z, .slice a len cap, .string d, .int .i64 p, .int .i64 x] 26) (.cells #[.string n, .int .i64 c, .string z, .slice a' len' cap', .string d, .int .i64 p, .int .i64 x] 26)))
  have HR' := hidK (hr'.below (below2 w (.cells #[.string n, .int .i64 c, .string z, .slice a len cap, .string d, .int .i64 p, .int .i64 x] 26) (.cells #[.string n, .int .i64 c, .string z, .slice a' len' cap', .string d, .int .i64 p, .int .i64 x] 26)))
  clear hr hr'
  go_enter Tryd.func6, Tryd.ntmps6
  go_wp2_with fail
  refine (eqPod_any n c z a len cap zs d p a' len' cap' _ HR.out HR'.out).mono ?_
  rintro e w1 ⟨rfl, hb⟩
  have g0 := (hb.block w.heap.size (by simp; omega)).trans (heap2_0 _ _ _)
  have g1 := (hb.block (w.heap.size + 1) (by simp)).trans (heap2_1 _ _ _)
  have c0 : w1.cell? ⟨w.heap.size, 6, none⟩ = some (.int .i64 x) := cellK g0 6
  have c1 : w1.cell? ⟨w.heap.size + 1, 6, none⟩ = some (.int .i64 x) := cellK g1 6
  have HB : Hid (Below w.heap.size w w1) := (below2 _ _ _).trans (hb.mono (by simp; omega))
  clear g0 g1 hb
  go_wp2
  go_ret
  exact ⟨rfl, HB.out⟩

end Go.Proofs.YtbpnmhebhmakdaaDoor
