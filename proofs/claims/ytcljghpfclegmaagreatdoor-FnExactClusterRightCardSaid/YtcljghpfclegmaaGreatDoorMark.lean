/-
  Marks: texts written into a list, and whether they are held there.
-/
import Derived.Test.YtcljghpfclegmaaGreatDoorDecMath
import Derived.Test.YtcljghpfclegmaaGreatDoorKLaw
import Derived.Test.YtcljghpfclegmaaGreatDoorWide
import Derived.WalkKit
import Derived.WalkSpells
import Derived.OwnWalk
import Derived.Outline
import Derived.Laws.IdiomStrings
namespace Go.Proofs.YtcljghpfclegmaaGreatDoor
open Go.RowKit
namespace Mk

def DecAt (u n : Nat) (r : ByteArray) : Prop := n ≤ u ∧ (if n = 0 then [] else Lib.decDigits n) ++ r.data.toList = Lib.decDigits u

/-- The last digit's byte. -/
def dgB (n : Nat) : UInt8 := UInt8.ofNat (48 + n % 10)
theorem DecAt.len {u n : Nat} {r : ByteArray} (h : DecAt u n r) (h1 : u ≤ 9223372036854775807) : r.size ≤ 19 := by
  have h2 := congrArg List.length h.2
  have h3 := dec_len (u := u) (k := 18) (by omega)
  rw [List.length_append] at h2
  rw [Lib.size_eq]; omega
theorem DecAt.step {u n : Nat} {r : ByteArray} (h : DecAt u n r) (hn : ¬ n = 0) : DecAt u (n / 10) (⟨#[dgB n]⟩ ++ r) := by
  obtain ⟨h1, h2⟩ := h
  refine ⟨by omega, ?_⟩
  rw [if_neg hn] at h2
  rw [← h2, ← dec_step n (by omega)]
  simp [dgB]

theorem conv_one (w : World) (n : Nat) : (convert 202 9 (.slice (some ⟨w.heap.size, 0, none⟩) 1 1)).run Tryz.prog (w.alloc (.cells #[.int .u8 (48 + (n : Int) % 10)] 5)) = .ok (.string ⟨#[dgB n]⟩) (w.alloc (.cells #[.int .u8 (48 + (n : Int) % 10)] 5)) :=
  run_convert_bytes_back (P := Tryz.prog) _ 202 9 5 ⟨w.heap.size, 0, none⟩ 1 [UInt8.ofNat (48 + n % 10)] Tryz.underlying202 Tryz.underlying5 Tryz.underlying9 (fun j hj => by
    simp at hj
    subst hj
    simp [Addr.add]
    have := dig_toNat (k := n % 10) (by omega)
    omega)

/-- The mark number u. -/
def markT (u : Nat) : ByteArray := ⟨#[109]⟩ ++ ⟨(Lib.decDigits u).toArray⟩

set_option maxRecDepth 100000 in
set_option maxHeartbeats 1600000 in
theorem markText_any (u : Nat) (w : World) (h0 : 0 < u) (h1 : u ≤ 1152921504606846976) :
    Calls Tryz.prog 174 #[.int .i64 u] w fun e w' => e = .returned (.string (markT u)) ∧ Below w.heap.size w w' := by
  have hn0 : decide ((u : Int) ≤ 0) = false := by simp; omega
  go_enter Tryz.func174, Tryz.ntmps174
  go_wp2
  go_loopw [0, 3] (fun vn vr wr => ∃ (n : Nat) (r : ByteArray), vn = .int .i64 n ∧ vr = .string r ∧ DecAt u n r ∧ Below w.heap.size w wr) (fun vn _ _ => (intOf vn).toNat)
  case atStart => exact ⟨u, _, rfl, rfl, ⟨Nat.le_refl _, by rw [if_neg (by omega)]; simp⟩, Below.refl _ _⟩
  case round =>
    obtain ⟨n, r, rfl, rfl, hd, hb⟩ := hrel
    have hle : n ≤ 1152921504606846976 := Nat.le_trans hd.1 h1
    have hr := hd.len (by omega)
    have hr2 : (⟨#[dgB n]⟩ : ByteArray).size + r.size ≤ 9223372036854775807 := by rw [show (⟨#[dgB n]⟩ : ByteArray).size = 1 from rfl]; omega
    have HD : Hid (DecAt u n r) := hd
    clear hd h1 hn0
    by_cases hn : n = 0
    · have hn1 : ¬ (0 : Int) < n := by omega
      have hr3 : (⟨#[109]⟩ : ByteArray).size + r.size ≤ 9223372036854775807 := by rw [show (⟨#[109]⟩ : ByteArray).size = 1 from rfl]; omega
      go_wp2
      go_ret
      refine ⟨?_, hb⟩
      have := HD.out.2
      rw [if_pos hn] at this
      unfold markT
      rw [← this]; rfl
    · have hn1 : (0 : Int) < n := by omega
      have hcv := conv_one wr n
      have hmd : (0 : Int) ≤ (n : Int) % 10 := by omega
      have hmd2 : (n : Int) % 10 < 10 := by omega
      go_wp2
      go_roundw
      case rel =>
        refine ⟨n / 10, _, by go_num, rfl, HD.out.step hn, ?_⟩
        exact hb.alloc (by have := hb.size; omega) _
      case measure => simp [intOf]; omega

/-- All but the block g stands. -/
structure Kept (g : Nat) (w w' : World) : Prop where
  os : w'.os = w.os
  tape : w'.tape = w.tape
  output : w'.output = w.output
  size : w.heap.size ≤ w'.heap.size
  block : ∀ k, k < w.heap.size → ¬ k = g → w'.heap[k]? = w.heap[k]?
theorem Kept.of_below {g : Nat} {w w' : World} (h : Below w.heap.size w w') : Kept g w w' := ⟨h.os, h.tape, h.output, h.size, fun k hk _ => h.block k hk⟩
theorem Kept.trans {g : Nat} {a b c : World} (h : Kept g a b) (k : Kept g b c) : Kept g a c := ⟨k.os.trans h.os, k.tape.trans h.tape, k.output.trans h.output, Nat.le_trans h.size k.size, fun i hi hn => (k.block i (Nat.lt_of_lt_of_le hi h.size) hn).trans (h.block i hi hn)⟩
theorem Kept.set {g i : Nat} {w w' : World} {v : Value} (h : Kept g w w') : Kept g w (w'.setCell ⟨g, i, none⟩ v) :=
  ⟨h.os, h.tape, h.output, by simpa [World.setCell] using h.size, fun k hk hn => (Below.heap_setCell _ _ _ _ hn).trans (h.block k hk hn)⟩
theorem Kept.below {g B : Nat} {w w1 w2 : World} (h : Kept g w1 w2) (hb : Below B w w1) (hB : B ≤ w1.heap.size) (hg : B ≤ g) : Below B w w2 :=
  ⟨h.os.trans hb.os, h.tape.trans hb.tape, h.output.trans hb.output, Nat.le_trans hb.size h.size, fun k hk => (h.block k (Nat.lt_of_lt_of_le hk hB) (by omega)).trans (hb.block k hk)⟩
/-- The cells of a list of marks, so many written. -/
def MarkAt (k n : Nat) (cur : Array Value) : Prop := ∀ j, j < n → cur[j]? = some (.string (markT (k + j)))
/-- The answer of markStringS. -/
def MarkAns (g k len n : Nat) (w : World) (e : Ending) (w' : World) : Prop :=
  e = .returned (.int .i64 ((k + len : Nat) : Int)) ∧ Kept g w w' ∧ ∃ cur, w'.heap[g]? = some (.cells cur 9 (0, 0)) ∧ MarkAt k len cur ∧ cur.size = n

theorem markI (k i : Nat) (h0 : 0 < k) (h1 : k + i ≤ 1152921504606846976) (w : World) : Calls Tryz.prog 174 #[.int .i64 ((k : Int) + (i : Int))] w fun e w' => e = .returned (.string (markT (k + i))) ∧ Below w.heap.size w w' := by
  have h := markText_any (k + i) w (by omega) h1
  rw [Int.natCast_add] at h
  exact h

set_option maxHeartbeats 3200000 in
theorem markS_any (g len cap k : Nat) (cur : Array Value) (w : World) (hg : w.heap[g]? = some (.cells cur 9 (0, 0))) (hl : len ≤ cur.size) (hk : 0 < k) (hk2 : k + len ≤ 1152921504606846976) :
    Calls Tryz.prog 111 #[.slice (some ⟨g, 0, none⟩) len cap, .int .i64 k] w (MarkAns g k len cur.size w) := by
  have HG := hidK hg
  clear hg
  go_enter Tryz.func111, Tryz.ntmps111
  go_wp2
  go_loopw [1, 5] (fun vk vi wr => ∃ (i : Nat) (cu : Array Value), i ≤ len ∧ vk = .int .i64 ((k + i : Nat) : Int) ∧ vi = .int .i64 i ∧ cu.size = cur.size ∧ Hid (wr.heap[g]? = some (.cells cu 9 (0, 0))) ∧ Hid (MarkAt k i cu) ∧ Hid (Kept g w wr)) (fun _ vi _ => len - (intOf vi).toNat)
  case atStart => exact ⟨0, cur, by omega, by simp, rfl, rfl, HG, fun j hj => by omega, Kept.of_below (Below.refl _ _)⟩
  case round =>
    obtain ⟨i, cu, hi, rfl, rfl, hcs, HC, HM, HK⟩ := hrel
    by_cases hlt : i < len
    · have HT := hidK (markI k i (by omega) (by omega))
      go_wp2_with fail
      refine (HT.out _).mono ?_
      rintro e w2 ⟨rfl, hb2⟩
      have g2 := (hb2.block g (lt_of_some HC.out)).trans HC.out
      have hcl : w2.cell? ⟨g, i, none⟩ = some (cu[i]'(by omega)) := by rw [cellK g2]; exact Array.getElem?_eq_getElem _
      have hfr : w2.frozen? ⟨g, i, none⟩ = false := by simp [World.frozen?, g2]
      have HG2 := hidK g2
      have HK2 := hidK (HK.out.trans (Kept.of_below (g := g) hb2))
      clear hb2 g2
      go_wp2_with fail
      refine ⟨⟨i + 1, cu.setIfInBounds i (.string (markT (k + i))), by omega, by go_num, by go_num, by simp [hcs], ?_, ?_, HK2.out.set⟩, by simp [intOf]; omega⟩
      · exact block_set HG2.out _
      · intro j hj
        rw [Array.getElem?_setIfInBounds]
        by_cases e : i = j
        · subst e
          rw [if_pos rfl, if_pos (by omega)]
        · rw [if_neg e]
          exact HM.out j (by omega)
    · obtain rfl : i = len := by omega
      go_wp2
      go_ret
      exact ⟨rfl, HK.out, cu, HC.out, HM.out, hcs⟩

set_option maxHeartbeats 3200000 in
theorem heldS_any (a : Option Addr) (len cap k : Nat) (zs : List ByteArray) (w : World) (hr : TxRow w a len cap zs) (hk : 0 < k) (hk2 : k + len ≤ 1152921504606846976) (hz : ∀ (j : Nat) x, zs[j]? = some x → x = markT (k + j)) :
    Calls Tryz.prog 211 #[.slice a len cap, .int .i64 k] w fun e w' => e = .returned (.int .i64 ((k + len : Nat) : Int)) ∧ Below w.heap.size w w' := by
  have HR := hidK hr
  have HZ := hidK hz
  clear hr hz
  go_enter Tryz.func211, Tryz.ntmps211
  go_wp2
  go_loopw [1, 5] (fun vk vi wr => ∃ (i : Nat), i ≤ len ∧ vk = .int .i64 ((k + i : Nat) : Int) ∧ vi = .int .i64 i ∧ Hid (Below w.heap.size w wr)) (fun _ vi _ => len - (intOf vi).toNat)
  case atStart => exact ⟨0, by omega, by simp, rfl, Below.refl _ _⟩
  case round =>
    obtain ⟨i, hi, rfl, rfl, HB⟩ := hrel
    by_cases hlt : i < len
    · obtain ⟨b, o, x, rfl, hb, hx, hc, -⟩ := (HR.out.below HB.out).at hlt
      obtain rfl := HZ.out i x hx
      have HT := hidK (markI k i (by omega) (by omega))
      have hb' := hidK hb
      go_wp2_with fail
      have hne := Wd.ne wr
      have cc : ∀ q : Wd wr, q.w.cell? ⟨b, o + i, none⟩ = some (.string (markT (k + i))) := fun q => (q.cell hb'.out).trans hc
      refine wp_region_wide (by kernel_rfl) (by kernel_rfl) ?_
      repeat (go_big_quiet_step (first | (go_at_call 174; exact Calls.wide (HT.out _)) | fail))
      refine wpQuiet_nil ?_
      rintro _ ⟨q, rfl⟩
      have hqs : ((markT (k + i)).toList == (markT (k + i)).toList) = true := by simp
      go_wp2_with fail
      exact ⟨⟨i + 1, by omega, by go_num, by go_num, HB.out.trans (q.b.mono HB.out.size)⟩, by simp [intOf]; omega⟩
    · obtain rfl : i = len := by omega
      go_wp2
      go_ret
      exact ⟨rfl, HB.out⟩

set_option maxHeartbeats 1600000 in
theorem markZ_any (a : Option Addr) (cap : Nat) (w : World) :
    Calls Tryz.prog 111 #[.slice a 0 cap, .int .i64 1] w fun e w' => e = .returned (.int .i64 1) ∧ Below w.heap.size w w' := by
  go_enter Tryz.func111, Tryz.ntmps111
  go_wp2
  go_loopw [1, 5] (fun vk vi wr => vk = .int .i64 1 ∧ vi = .int .i64 0 ∧ wr = w) (fun _ vi _ => (intOf vi).toNat)
  case atStart => exact ⟨rfl, rfl, rfl⟩
  case round =>
    obtain ⟨rfl, rfl, rfl⟩ := hrel
    go_wp2
    go_ret
    exact ⟨rfl, Below.refl _ _⟩

set_option maxHeartbeats 1600000 in
theorem markZn_any (a : Option Addr) (cap : Nat) (u : Int) (w : World) :
    Calls Tryz.prog 111 #[.slice a 0 cap, .int .i64 u] w fun e w' => e = .returned (.int .i64 u) ∧ Below w.heap.size w w' := by
  go_enter Tryz.func111, Tryz.ntmps111
  go_wp2
  go_loopw [1, 5] (fun vk vi wr => vk = .int .i64 u ∧ vi = .int .i64 0 ∧ wr = w) (fun _ vi _ => (intOf vi).toNat)
  case atStart => exact ⟨rfl, rfl, rfl⟩
  case round =>
    obtain ⟨rfl, rfl, rfl⟩ := hrel
    go_wp2
    go_ret
    exact ⟨rfl, Below.refl _ _⟩

/-- So many marks. -/
def marksL (len : Nat) : List ByteArray := (List.range len).map fun j => markT (1 + j)
theorem marksL_length (len : Nat) : (marksL len).length = len := by simp [marksL]
theorem marksL_at {len j : Nat} {y : ByteArray} (h : (marksL len)[j]? = some y) : y = markT (1 + j) ∧ j < len := by
  have hj : j < len := by have := (List.getElem?_eq_some_iff.1 h).1; rw [marksL_length] at this; exact this
  unfold marksL at h
  rw [List.getElem?_map, List.getElem?_range hj] at h
  simp at h
  exact ⟨h.symm, hj⟩
theorem markT_size {u : Nat} (h : u ≤ 1152921504606846976) : (markT u).size ≤ 9223372036854775807 := by
  have h3 := dec_len (u := u) (k := 18) (by omega)
  unfold markT
  rw [ByteArray.size_append]
  have : (⟨(Lib.decDigits u).toArray⟩ : ByteArray).size = (Lib.decDigits u).length := by simp [ByteArray.size]
  rw [this, show (⟨#[109]⟩ : ByteArray).size = 1 from rfl]
  omega
theorem row_marked {w : World} {g len cap : Nat} {cur : Array Value} {T : TypeId} (h : w.heap[g]? = some (.cells cur T (0, 0))) (hm : MarkAt 1 len cur) (hl : len ≤ 1000) (hc : len ≤ cap) (hc2 : cap ≤ 9223372036854775807) :
    TxRow w (some ⟨g, 0, none⟩) len cap (marksL len) := by
  refine ⟨marksL_length len, hc, hc2, fun j x hx => ?_, .inr ⟨g, 0, rfl, lt_of_some h, fun j x hx => ?_⟩⟩
  · obtain ⟨rfl, hj⟩ := marksL_at hx
    exact markT_size (by omega)
  · obtain ⟨rfl, hj⟩ := marksL_at hx
    rw [Nat.zero_add, cellK h]
    exact hm j hj
theorem row_fits {w : World} {g len cap : Nat} {cur : Array Value} {zs : List ByteArray} {T : TypeId} (hr : TxRow w (some ⟨g, 0, none⟩) len cap zs) (h : w.heap[g]? = some (.cells cur T (0, 0))) : len ≤ cur.size := by
  rcases Nat.eq_zero_or_pos len with h0 | h0
  · omega
  obtain ⟨b, o, x, e, hb, hx, hc, -⟩ := hr.at (k := len - 1) (by omega)
  cases e
  rw [Nat.zero_add, cellK h] at hc
  have := (Array.getElem?_eq_some_iff.1 hc).1
  omega

/-- What the marking of an answer's list leaves: the list holds marks; what lies elsewhere stands. -/
def MarkedAns (a : Option Addr) (len cap X q : Nat) (w : World) (e : Ending) (w' : World) : Prop :=
  e = .returned (.int .i64 ((1 + len : Nat) : Int)) ∧ TxRow w' a len cap (marksL len) ∧ Below X w w' ∧ w'.heap[q]? = w.heap[q]?

end Mk
end Go.Proofs.YtcljghpfclegmaaGreatDoor
