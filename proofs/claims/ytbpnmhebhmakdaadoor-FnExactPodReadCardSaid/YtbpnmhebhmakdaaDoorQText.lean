/-
  SizeText and CpuText of the specification and of the program; the laws on them, walked.
-/
import Derived.Test.YtbpnmhebhmakdaaDoorQMath
namespace Go.Proofs.YtbpnmhebhmakdaaDoor
open Go.RowKit

theorem no_app (x : ByteArray) : x ++ wNo = x := by apply bytes_ext; simp [wNo]
theorem retB {a b : Bool} (h : a = b) : Ending.returned (.bool a) = .returned (.bool b) := by rw [h]

set_option maxHeartbeats 400000 in
theorem sis_any (n a b : Int) (w : World) :
    Calls Tryd.prog 40 #[.int .i64 n, .int .i64 a, .int .i64 b] w fun e w' => e = .returned (.bool (decide (a ≤ n) && decide (n ≤ b))) ∧ w = w' := by
  go_enter Tryd.func40, Tryd.ntmps40
  go_wp2
  all_goals (go_ret; exact ⟨retB (by rw [Bool.eq_iff_iff]; simp; omega), rfl⟩)

set_option maxHeartbeats 400000 in
theorem scpuin_any (n : Int) (w : World) :
    Calls Tryd.prog 35 #[.int .i64 n] w fun e w' => e = .returned (.bool (decide (0 ≤ n) && decide (n ≤ 1000000))) ∧ w = w' := by
  go_enter Tryd.func35, Tryd.ntmps35
  go_wp2_with (go_at_call 40; refine (sis_any _ _ _ _).mono ?_; rintro e w1 ⟨rfl, rfl⟩)
  go_ret
  exact ⟨rfl, rfl⟩

set_option maxHeartbeats 800000 in
theorem scputext_any (n : Int) (w : World) :
    Calls Tryd.prog 22 #[.int .i64 n] w fun e w' => e = .returned (.string (cpText n)) ∧ Below w.heap.size w w' := by
  by_cases hA : n < 0
  · have hin : (decide (0 ≤ n) && decide (n ≤ 1000000)) = false := by simp; omega
    go_enter Tryd.func22, Tryd.ntmps22
    go_wp2_with (go_at_call 35; refine (scpuin_any _ _).mono ?_; rw [hin]; rintro e w1 ⟨rfl, rfl⟩)
    go_ret
    exact ⟨ret_str (mtext_low hA), Below.refl _ _⟩
  by_cases hB : 1000000 < n
  · have hin : (decide (0 ≤ n) && decide (n ≤ 1000000)) = false := by simp; omega
    go_enter Tryd.func22, Tryd.ntmps22
    go_wp2_with (go_at_call 35; refine (scpuin_any _ _).mono ?_; rw [hin]; rintro e w1 ⟨rfl, rfl⟩)
    go_ret
    exact ⟨ret_str (mtext_high hB), Below.refl _ _⟩
  have hin : (decide (0 ≤ n) && decide (n ≤ 1000000)) = true := by simp; omega
  have hA' : 0 ≤ n := by omega
  have hB' : n ≤ 1000000 := by omega
  by_cases hz : n % 1000 = 0
  · have hz2 : (n % 1000 == 0) = true := by simp [hz]
    have hd2 := dec_size (n := n / 1000) (by omega)
    have hs : (dec (n / 1000)).size + (wNo).size ≤ 9223372036854775807 := Nat.le_trans (Nat.add_le_add_right hd2 _) (by decide)
    have HD : Hid (∀ w, Calls Tryd.prog 36 #[.int .i64 (n / 1000)] w fun e w' => e = .returned (.string (dec (n / 1000))) ∧ Below w.heap.size w w') := fun w => by
      have := sdec_any (n / 1000).toNat w (by omega)
      rw [Int.toNat_of_nonneg (by omega)] at this
      exact this
    go_enter Tryd.func22, Tryd.ntmps22
    go_wp2_with (first | (go_at_call 35; refine (scpuin_any _ _).mono ?_; rw [hin]; rintro e w1 ⟨rfl, rfl⟩) | (go_at_call 36; refine (HD.out _).mono ?_; rintro e w1 ⟨rfl, hb1⟩))
    go_ret
    exact ⟨ret_str ((no_app _).symm.trans (mtext_great hA' hB' hz)), hb1⟩
  · have hz2 : (n % 1000 == 0) = false := by simp [hz]
    have hd2 := dec_size (n := n) (by omega)
    have hs : (dec n).size + (wM).size ≤ 9223372036854775807 := Nat.le_trans (Nat.add_le_add_right hd2 _) (by decide)
    have HD : Hid (∀ w, Calls Tryd.prog 36 #[.int .i64 n] w fun e w' => e = .returned (.string (dec n)) ∧ Below w.heap.size w w') := fun w => by
      have := sdec_any n.toNat w (by omega)
      rw [Int.toNat_of_nonneg (by omega)] at this
      exact this
    go_enter Tryd.func22, Tryd.ntmps22
    go_wp2_with (first | (go_at_call 35; refine (scpuin_any _ _).mono ?_; rw [hin]; rintro e w1 ⟨rfl, rfl⟩) | (go_at_call 36; refine (HD.out _).mono ?_; rintro e w1 ⟨rfl, hb1⟩))
    go_ret
    exact ⟨ret_str (mtext_small (w1 := wM) hA' hB' hz), hb1⟩

set_option maxHeartbeats 400000 in
theorem icpuText_any (n : Int) (w : World) (ht : ptab w) :
    Calls Tryd.prog 29 #[.int .i64 n] w fun e w' => e = .returned (.string (cpText n)) ∧ Below w.heap.size w w' := by
  have HT : Hid (ptab w) := ht
  clear ht
  go_enter Tryd.func29, Tryd.ntmps29
  go_wp2_with fail
  refine (icpu_meas _).mono ?_
  rintro e w1 ⟨rfl, hb1⟩
  go_wp2_with fail
  refine (icputext_any _ _ (HT.out.below hb1)).mono ?_
  rintro e w2 ⟨rfl, hb2⟩
  go_wp2_with fail
  go_ret
  exact ⟨rfl, hb1.trans (hb2.mono hb1.size)⟩

end Go.Proofs.YtbpnmhebhmakdaaDoor
