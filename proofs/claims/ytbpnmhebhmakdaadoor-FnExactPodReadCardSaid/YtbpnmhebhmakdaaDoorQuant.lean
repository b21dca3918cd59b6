/-
  The text of a size and of a share of a processor, of the program and of the specification.
-/
import Derived.Test.YtbpnmhebhmakdaaDoorDec
import Derived.Test.YtbpnmhebhmakdaaDoorJoin
namespace Go.Proofs.YtbpnmhebhmakdaaDoor
open Go.RowKit

def wTi : ByteArray := ⟨#[84, 105]⟩
def wGi : ByteArray := ⟨#[71, 105]⟩
def wNo : ByteArray := ⟨#[]⟩
def wM : ByteArray := ⟨#[109]⟩
def dec (n : Int) : ByteArray := ⟨(Lib.decDigits n.toNat).toArray⟩
/-- The text of a number by a measure: its least and its greatest number, how much the greater unit is, and the two words. -/
def mtext (l m e : Int) (w0 w1 : ByteArray) (n : Int) : ByteArray :=
  if n < l ∨ m < n then ⟨#[]⟩ else if n % e = 0 then dec (n / e) ++ w0 else dec n ++ w1
theorem itoa_dec {n : Int} (h : 0 ≤ n) : (⟨(Lib.itoa n).toArray⟩ : ByteArray) = dec n := by
  unfold Lib.itoa dec
  rw [if_neg (by omega)]
theorem fmt_dec (n : Int) (w : World) (h0 : 0 ≤ n) (h1 : n ≤ 9223372036854775807) (ht : ptab w) :
    Calls Tryd.prog 58 #[.int .i64 n, .int .i64 10] w fun e w' => e = .returned (.string (dec n)) ∧ Below w.heap.size w w' := by
  have := fmt_any n w (by omega) h1 ht
  rwa [itoa_dec h0] at this
theorem dec_size {n : Int} (h : n ≤ 1048576) : (dec n).size ≤ 7 := by
  unfold dec
  rw [Lib.size_eq]
  exact dec_len (k := 6) (by omega)
/-- A block that was laid last, behind what a callee left. -/
theorem slotN {w w1 : World} {vs : Array Value} {T : TypeId} (hb : Below (w.alloc (.cells vs T)).heap.size (w.alloc (.cells vs T)) w1) :
    w1.heap[w.heap.size]? = some (.cells vs T (0, 0)) ∧ Below w.heap.size w w1 ∧ w.heap.size < w1.heap.size := by
  have hs : (w.alloc (.cells vs T)).heap.size = w.heap.size + 1 := by simp
  have h1 := hb.size
  refine ⟨?_, ?_, by omega⟩
  · rw [hb.block _ (by omega)]
    show (w.heap.push _)[w.heap.size]? = _
    simp
  · exact ((Below.refl w.heap.size w).alloc (Nat.le_refl _) _).trans (hb.mono (by omega))
theorem below_of_drew {x w1 : World} (h : Below x.drew.heap.size x.drew w1) : Below x.heap.size x w1 := ⟨h.os, h.tape, h.output, h.size, h.block⟩
theorem ret_str {a b : ByteArray} (h : a = b) : Ending.returned (.string a) = .returned (.string b) := by rw [h]
theorem mtext_low {l m e : Int} {w0 w1 : ByteArray} {n : Int} (h : n < l) : (⟨#[]⟩ : ByteArray) = mtext l m e w0 w1 n := by unfold mtext; rw [if_pos (Or.inl h)]
theorem mtext_high {l m e : Int} {w0 w1 : ByteArray} {n : Int} (h : m < n) : (⟨#[]⟩ : ByteArray) = mtext l m e w0 w1 n := by unfold mtext; rw [if_pos (Or.inr h)]
theorem mtext_great {l m e : Int} {w0 w1 : ByteArray} {n : Int} (h : l ≤ n) (h2 : n ≤ m) (h3 : n % e = 0) : dec (n / e) ++ w0 = mtext l m e w0 w1 n := by unfold mtext; rw [if_neg (by omega), if_pos h3]
theorem mtext_small {l m e : Int} {w0 w1 : ByteArray} {n : Int} (h : l ≤ n) (h2 : n ≤ m) (h3 : ¬ n % e = 0) : dec n ++ w1 = mtext l m e w0 w1 n := by unfold mtext; rw [if_neg (by omega), if_neg h3]

theorem isize_ix0 (w : World) : (Instr.index 47 (.agg #[.string wTi, .int .i64 1024, .string wGi, .int .i64 1]) (.int .i64 0)).run Tryd.prog w = .ok (.agg #[.string wTi, .int .i64 1024]) w := by kernel_rfl
theorem isize_ix1 (w : World) : (Instr.index 47 (.agg #[.string wTi, .int .i64 1024, .string wGi, .int .i64 1]) (.int .i64 1)).run Tryd.prog w = .ok (.agg #[.string wGi, .int .i64 1]) w := by kernel_rfl

set_option maxHeartbeats 1600000 in
theorem isizetext_any (n : Int) (w : World) (ht : ptab w) :
    Calls Tryd.prog 45 #[.agg #[.int .i64 1, .int .i64 1048576, .string wTi, .int .i64 1024, .string wGi, .int .i64 1], .int .i64 n] w
      fun e w' => e = .returned (.string (mtext 1 1048576 1024 wTi wGi n)) ∧ Below w.heap.size w w' := by
  by_cases hA : n < 1
  · clear ht
    go_enter Tryd.func45, Tryd.ntmps45
    go_wp2
    go_ret
    exact ⟨ret_str (mtext_low hA), (Below.refl _ _).alloc (Nat.le_refl _) _⟩
  by_cases hB : 1048576 < n
  · clear ht
    go_enter Tryd.func45, Tryd.ntmps45
    go_wp2
    go_ret
    exact ⟨ret_str (mtext_high hB), (Below.refl _ _).alloc (Nat.le_refl _) _⟩
  have HT : Hid (ptab w) := ht
  clear ht
  go_enter Tryd.func45, Tryd.ntmps45
  go_wp2
  go_loopw [19] (fun v wr => ∃ k : Nat, (k = 0 ∨ k = 1) ∧ v = .int .i64 k ∧ (k = 1 → ¬ n % 1024 = 0) ∧ Below w.heap.size w wr) (fun v _ => 2 - (intOf v).toNat)
  case atStart => exact ⟨0, Or.inl rfl, rfl, (fun h => by omega), (Below.refl _ _).alloc (Nat.le_refl _) _⟩
  case round =>
    obtain ⟨k, hk, rfl, hne, hb⟩ := hrel
    have hix0 := isize_ix0 wr
    have hix1 := isize_ix1 wr
    have hw := hb.size
    have hd := dec_size (n := n) (by omega)
    rcases hk with rfl | rfl
    · clear hne
      by_cases hz : n % 1024 = 0
      · have hz2 : (n % 1024 == 0) = true := by simp [hz]
        have hd2 := dec_size (n := n / 1024) (by omega)
        go_wp2_with fail
        have hq : IntKind.i64.wrap (n.tdiv 1024) = n / 1024 := by rw [IntKind.wrap_i64, Int.tdiv_eq_ediv_of_nonneg (by omega)]; omega
        have hT : Hid (∀ x, ptab ((wr.alloc (.cells x 46)).drew)) := fun x => HT.out.below (hb.alloc hw _).drew
        have hs : (dec (n / 1024)).size + (wTi).size ≤ 1073741824 := Nat.le_trans (Nat.add_le_add_right hd2 _) (by decide)
        go_region_with (first
          | (go_at_call 58; refine (fmt_dec _ _ (by omega) (by omega) (hT.out _)).mono ?_; rintro e w1 ⟨rfl, hb1⟩; obtain ⟨hk1, hk2, hk3⟩ := slotN (below_of_drew hb1); clear hb1
             have hc0 : w1.cell? ⟨wr.heap.size, 0, none⟩ = some (.string wTi) := (by simp [World.cell?, hk1]))
          | (go_at_call 57; refine (joined_any _ _ _ hs).mono ?_; rintro e w2 ⟨rfl, hb2⟩))
        all_goals (go_wp2_with fail; go_ret; exact ⟨ret_str (mtext_great hA hB hz), (hb.trans (hk2.mono hw)).trans (hb2.mono (by omega))⟩)
      · have hz2 : (n % 1024 == 0) = false := by simp [hz]
        go_wp2
        go_roundw
        case rel => exact ⟨1, Or.inr rfl, by go_num, (fun _ => hz), hb.alloc hw _⟩
        case measure => simp [intOf]
    · have hz := hne rfl
      clear hne
      have hz1 : (n % 1 == 0) = true := by simp
      have hq : IntKind.i64.wrap n = n := by rw [IntKind.wrap_i64]; omega
      have hT : Hid (∀ x, ptab ((wr.alloc (.cells x 46)).drew)) := fun x => HT.out.below (hb.alloc hw _).drew
      have hs : (dec n).size + (wGi).size ≤ 1073741824 := Nat.le_trans (Nat.add_le_add_right hd _) (by decide)
      go_wp2_with fail
      go_region_with (first
        | (go_at_call 58; refine (fmt_dec _ _ (by omega) (by omega) (hT.out _)).mono ?_; rintro e w1 ⟨rfl, hb1⟩; obtain ⟨hk1, hk2, hk3⟩ := slotN (below_of_drew hb1); clear hb1
           have hc0 : w1.cell? ⟨wr.heap.size, 0, none⟩ = some (.string wGi) := (by simp [World.cell?, hk1]))
        | (go_at_call 57; refine (joined_any _ _ _ hs).mono ?_; rintro e w2 ⟨rfl, hb2⟩))
      all_goals (go_wp2_with fail; go_ret; exact ⟨ret_str (mtext_small hA hB hz), (hb.trans (hk2.mono hw)).trans (hb2.mono (by omega))⟩)

set_option maxHeartbeats 400000 in
theorem icpu_meas (w : World) : Calls Tryd.prog 26 #[] w fun e w' => e = .returned (.agg #[.int .i64 0, .int .i64 1000000, .string wNo, .int .i64 1000, .string wM, .int .i64 1]) ∧ Below w.heap.size w w' := by
  go_enter Tryd.func26, Tryd.ntmps26
  go_wp2
  refine bodyPost_ret (v := .agg #[.int .i64 0, .int .i64 1000000, .string wNo, .int .i64 1000, .string wM, .int .i64 1]) (by simp [results, Tryd.results26, go_sem, wNo, wM]) rfl ⟨rfl, (Below.refl _ _).alloc (Nat.le_refl _) _⟩

theorem icpu_ix0 (w : World) : (Instr.index 47 (.agg #[.string wNo, .int .i64 1000, .string wM, .int .i64 1]) (.int .i64 0)).run Tryd.prog w = .ok (.agg #[.string wNo, .int .i64 1000]) w := by kernel_rfl
theorem icpu_ix1 (w : World) : (Instr.index 47 (.agg #[.string wNo, .int .i64 1000, .string wM, .int .i64 1]) (.int .i64 1)).run Tryd.prog w = .ok (.agg #[.string wM, .int .i64 1]) w := by kernel_rfl

set_option maxHeartbeats 1600000 in
theorem icputext_any (n : Int) (w : World) (ht : ptab w) :
    Calls Tryd.prog 45 #[.agg #[.int .i64 0, .int .i64 1000000, .string wNo, .int .i64 1000, .string wM, .int .i64 1], .int .i64 n] w
      fun e w' => e = .returned (.string (mtext 0 1000000 1000 wNo wM n)) ∧ Below w.heap.size w w' := by
  by_cases hA : n < 0
  · clear ht
    go_enter Tryd.func45, Tryd.ntmps45
    go_wp2
    go_ret
    exact ⟨ret_str (mtext_low hA), (Below.refl _ _).alloc (Nat.le_refl _) _⟩
  by_cases hB : 1000000 < n
  · clear ht
    go_enter Tryd.func45, Tryd.ntmps45
    go_wp2
    go_ret
    exact ⟨ret_str (mtext_high hB), (Below.refl _ _).alloc (Nat.le_refl _) _⟩
  have HT : Hid (ptab w) := ht
  clear ht
  go_enter Tryd.func45, Tryd.ntmps45
  go_wp2
  go_loopw [19] (fun v wr => ∃ k : Nat, (k = 0 ∨ k = 1) ∧ v = .int .i64 k ∧ (k = 1 → ¬ n % 1000 = 0) ∧ Below w.heap.size w wr) (fun v _ => 2 - (intOf v).toNat)
  case atStart => exact ⟨0, Or.inl rfl, rfl, (fun h => by omega), (Below.refl _ _).alloc (Nat.le_refl _) _⟩
  case round =>
    obtain ⟨k, hk, rfl, hne, hb⟩ := hrel
    have hix0 := icpu_ix0 wr
    have hix1 := icpu_ix1 wr
    have hw := hb.size
    have hd := dec_size (n := n) (by omega)
    rcases hk with rfl | rfl
    · clear hne
      by_cases hz : n % 1000 = 0
      · have hz2 : (n % 1000 == 0) = true := by simp [hz]
        have hd2 := dec_size (n := n / 1000) (by omega)
        go_wp2_with fail
        have hq : IntKind.i64.wrap (n.tdiv 1000) = n / 1000 := by rw [IntKind.wrap_i64, Int.tdiv_eq_ediv_of_nonneg (by omega)]; omega
        have hT : Hid (∀ x, ptab ((wr.alloc (.cells x 46)).drew)) := fun x => HT.out.below (hb.alloc hw _).drew
        have hs : (dec (n / 1000)).size + (wNo).size ≤ 1073741824 := Nat.le_trans (Nat.add_le_add_right hd2 _) (by decide)
        go_region_with (first
          | (go_at_call 58; refine (fmt_dec _ _ (by omega) (by omega) (hT.out _)).mono ?_; rintro e w1 ⟨rfl, hb1⟩; obtain ⟨hk1, hk2, hk3⟩ := slotN (below_of_drew hb1); clear hb1
             have hc0 : w1.cell? ⟨wr.heap.size, 0, none⟩ = some (.string wNo) := (by simp [World.cell?, hk1]))
          | (go_at_call 57; refine (joined_any _ _ _ hs).mono ?_; rintro e w2 ⟨rfl, hb2⟩))
        all_goals (go_wp2_with fail; go_ret; exact ⟨ret_str (mtext_great hA hB hz), (hb.trans (hk2.mono hw)).trans (hb2.mono (by omega))⟩)
      · have hz2 : (n % 1000 == 0) = false := by simp [hz]
        go_wp2
        go_roundw
        case rel => exact ⟨1, Or.inr rfl, by go_num, (fun _ => hz), hb.alloc hw _⟩
        case measure => simp [intOf]
    · have hz := hne rfl
      clear hne
      have hz1 : (n % 1 == 0) = true := by simp
      have hq : IntKind.i64.wrap n = n := by rw [IntKind.wrap_i64]; omega
      have hT : Hid (∀ x, ptab ((wr.alloc (.cells x 46)).drew)) := fun x => HT.out.below (hb.alloc hw _).drew
      have hs : (dec n).size + (wM).size ≤ 1073741824 := Nat.le_trans (Nat.add_le_add_right hd _) (by decide)
      go_wp2_with fail
      go_region_with (first
        | (go_at_call 58; refine (fmt_dec _ _ (by omega) (by omega) (hT.out _)).mono ?_; rintro e w1 ⟨rfl, hb1⟩; obtain ⟨hk1, hk2, hk3⟩ := slotN (below_of_drew hb1); clear hb1
           have hc0 : w1.cell? ⟨wr.heap.size, 0, none⟩ = some (.string wM) := (by simp [World.cell?, hk1]))
        | (go_at_call 57; refine (joined_any _ _ _ hs).mono ?_; rintro e w2 ⟨rfl, hb2⟩))
      all_goals (go_wp2_with fail; go_ret; exact ⟨ret_str (mtext_small hA hB hz), (hb.trans (hk2.mono hw)).trans (hb2.mono (by omega))⟩)

end Go.Proofs.YtbpnmhebhmakdaaDoor
