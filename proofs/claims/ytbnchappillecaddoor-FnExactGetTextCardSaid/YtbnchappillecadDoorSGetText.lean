/-
  What GetText of the specification answers.
-/
import Derived.Test.YtbnchappillecadDoorGetText
import Derived.Deep.QuietTactic
import Derived.BigQuiet
import Derived.RegionTactic
import Derived.BigRegion
namespace Go.Proofs.YtbnchappillecadDoor
open Go.RowKit

set_option maxHeartbeats 1600000 in
theorem sgt_err (s : ByteArray) (i N At c : Int) (w : World) (hc : c ≠ 0) (HC : Hid (∀ w, Calls Tryd.prog 7 #[.string s, .int .i64 i] w fun e w' => e = .returned (.agg #[.int .i64 N, .int .i64 At, .int .i64 c]) ∧ Below w.heap.size w w')) :
    Calls Tryd.prog 4 #[.string s, .int .i64 i] w fun e w' => e = .returned (.agg #[.string ⟨#[]⟩, .int .i64 0, .int .i64 c]) ∧ Below w.heap.size w w' := by
  have hcb : (c == 0) = false := by simp [hc]
  have hcn : (c != 0) = true := by simp [hc]
  go_enter Tryd.func4, Tryd.ntmps4
  go_wp2_with (go_at_call 7; refine (HC.out _).mono ?_; rintro e w1 ⟨rfl, hb1⟩; obtain ⟨c0, c1, c2, f0, f1, f2, hb, hz⟩ := slot3 (w := w) (x := (w.alloc (.cells #[.string ⟨#[]⟩, .int .i64 0, .int .i64 0] 23))) (w1 := w1) rfl rfl rfl rfl hb1)
  exact bodyPost_ret (v := .agg #[.string ⟨#[]⟩, .int .i64 0, .int .i64 c]) (by simp [results, Tryd.results4, go_sem, *]) rfl ⟨rfl, (((hb.setCell (Nat.le_refl _) _).setCell (Nat.le_refl _) _).setCell (Nat.le_refl _) _).alloc (by simp; omega) _⟩

set_option maxHeartbeats 1600000 in
theorem sgt_ok (s : ByteArray) (i N : Int) (f : Nat) (w : World) (v0 : -9223372036854775808 ≤ N) (v1 : N ≤ 9223372036854775807) (hf : f ≤ s.size) (hs : s.size ≤ 8000) (hN : 0 ≤ N) (hN8 : N ≤ 8000) (hS : ¬ (s.size : Int) - (f : Int) < N) (HC : Hid (∀ w, Calls Tryd.prog 7 #[.string s, .int .i64 i] w fun e w' => e = .returned (.agg #[.int .i64 N, .int .i64 (f : Int), .int .i64 0]) ∧ Below w.heap.size w w')) :
    Calls Tryd.prog 4 #[.string s, .int .i64 i] w fun e w' => e = .returned (.agg #[.string (s.extract f (f + N.toNat)), .int .i64 ((f : Int) + N), .int .i64 0]) ∧ Below w.heap.size w w' := by
  have hwr : IntKind.i64.wrap ((f : Int) + N) = (f : Int) + N := by rw [IntKind.wrap_i64]; omega
  have hsl : ∀ w, (Instr.slice 9 (.string s) (some (.int .i64 (f : Int))) (some (.int .i64 ((f : Int) + N))) none).run Tryd.prog w = .ok (.string (s.extract f (f + N.toNat))) w := fun w => by
    rw [run_slice_string_if w 9 s .i64 .i64 (f : Int) ((f : Int) + N) Tryd.underlying9, if_pos (by omega), if_pos (by omega)]
    rw [Int.toNat_natCast, show ((f : Int) + N).toNat = f + N.toNat by omega]
  generalize s.extract f (f + N.toNat) = p at *
  go_enter Tryd.func4, Tryd.ntmps4
  go_wp2_with (go_at_call 7; refine (HC.out _).mono ?_; rintro e w1 ⟨rfl, hb1⟩; obtain ⟨c0, c1, c2, f0, f1, f2, hb, hz⟩ := slot3 (w := w) (x := (w.alloc (.cells #[.string ⟨#[]⟩, .int .i64 0, .int .i64 0] 23))) (w1 := w1) rfl rfl rfl rfl hb1)
  clear hb1 HC
  go_region
  all_goals go_wp2
  all_goals exact bodyPost_ret (v := .agg #[.string p, .int .i64 ((f : Int) + N), .int .i64 0]) (by simp [results, Tryd.results4, go_sem, *]) rfl ⟨rfl, ((((hb.setCell (Nat.le_refl _) _).setCell (Nat.le_refl _) _).setCell (Nat.le_refl _) _).alloc (by simp; omega) _).drew⟩

set_option maxHeartbeats 1600000 in
theorem sgt_out (s : ByteArray) (i N : Int) (f : Nat) (w : World) (h : N < 0 ∨ (0 ≤ N ∧ 8000 < N)) (HC : Hid (∀ w, Calls Tryd.prog 7 #[.string s, .int .i64 i] w fun e w' => e = .returned (.agg #[.int .i64 N, .int .i64 (f : Int), .int .i64 0]) ∧ Below w.heap.size w w')) :
    Calls Tryd.prog 4 #[.string s, .int .i64 i] w fun e w' => e = .returned (.agg #[.string ⟨#[]⟩, .int .i64 0, .int .i64 3]) ∧ Below w.heap.size w w' := by
  rcases h with h | ⟨h, h'⟩
  all_goals
    go_enter Tryd.func4, Tryd.ntmps4
    go_wp2_with (go_at_call 7; refine (HC.out _).mono ?_; rintro e w1 ⟨rfl, hb1⟩; obtain ⟨c0, c1, c2, f0, f1, f2, hb, hz⟩ := slot3 (w := w) (x := (w.alloc (.cells #[.string ⟨#[]⟩, .int .i64 0, .int .i64 0] 23))) (w1 := w1) rfl rfl rfl rfl hb1)
    exact bodyPost_ret (v := .agg #[.string ⟨#[]⟩, .int .i64 0, .int .i64 3]) (by simp [results, Tryd.results4, go_sem, *]) rfl ⟨rfl, (((hb.setCell (Nat.le_refl _) _).setCell (Nat.le_refl _) _).setCell (Nat.le_refl _) _).alloc (by simp; omega) _⟩

set_option maxHeartbeats 1600000 in
theorem sgt_short (s : ByteArray) (i N : Int) (f : Nat) (w : World) (hs : s.size ≤ 8000) (hN : 0 ≤ N) (hN8 : N ≤ 8000) (hS : (s.size : Int) - N < (f : Int)) (HC : Hid (∀ w, Calls Tryd.prog 7 #[.string s, .int .i64 i] w fun e w' => e = .returned (.agg #[.int .i64 N, .int .i64 (f : Int), .int .i64 0]) ∧ Below w.heap.size w w')) :
    Calls Tryd.prog 4 #[.string s, .int .i64 i] w fun e w' => e = .returned (.agg #[.string ⟨#[]⟩, .int .i64 0, .int .i64 4]) ∧ Below w.heap.size w w' := by
  go_enter Tryd.func4, Tryd.ntmps4
  go_wp2_with (go_at_call 7; refine (HC.out _).mono ?_; rintro e w1 ⟨rfl, hb1⟩; obtain ⟨c0, c1, c2, f0, f1, f2, hb, hz⟩ := slot3 (w := w) (x := (w.alloc (.cells #[.string ⟨#[]⟩, .int .i64 0, .int .i64 0] 23))) (w1 := w1) rfl rfl rfl rfl hb1)
  exact bodyPost_ret (v := .agg #[.string ⟨#[]⟩, .int .i64 0, .int .i64 4]) (by simp [results, Tryd.results4, go_sem, *]) rfl ⟨rfl, (((hb.setCell (Nat.le_refl _) _).setCell (Nat.le_refl _) _).setCell (Nat.le_refl _) _).alloc (by simp; omega) _⟩

theorem sgetText_any (s : ByteArray) (i : Int) (w : World) (h1 : i ≤ 9223372036854775807) :
    Calls Tryd.prog 4 #[.string s, .int .i64 i] w fun e w' => e = .returned (gtVal (gt s i)) ∧ Below w.heap.size w w' := by
  have hC := fun w => sgetNum_any s i w h1
  by_cases hl : 8000 < s.size
  · rw [gt_long hl]
    rw [gn_long hl] at hC
    exact sgt_err s i 0 0 2 w (by decide) hC
  by_cases h0 : i < 0
  · rw [gt_neg hl h0]
    rw [gn_neg hl h0] at hC
    exact sgt_err s i 0 0 1 w (by decide) hC
  obtain ⟨a, rfl⟩ := Int.eq_ofNat_of_zero_le (show 0 ≤ i by omega)
  rw [gt_at hl]
  rcases rd_cases (s.data.toList.drop a) 0 0 (by omega) (by decide) with ⟨n, m, hr, hm, hn⟩ | hr | hr
  · have ham : a + m ≤ s.size := by
      rcases Nat.lt_or_ge a s.size with h | h
      · simp at hm
        omega
      · have h4 := rd_short s.data.toList a 0 0 (by simpa using h)
        rw [h4] at hr
        simp at hr
    obtain ⟨v0, v1⟩ := unf_bd hn
    rw [gn_ok hl hr] at hC
    by_cases hV : unf n < 0 ∨ 8000 < unf n
    · rw [rt_out hr hV]
      exact sgt_out s a (unf n) (a + m) w (by omega) hC
    by_cases hS : (s.size : Int) - ((a + m : Nat) : Int) < unf n
    · rw [rt_short hr hV hS]
      exact sgt_short s a (unf n) (a + m) w (by omega) (by omega) (by omega) (by omega) hC
    · rw [rt_ok hr hV hS]
      exact sgt_ok s a (unf n) (a + m) w v0 v1 ham (by omega) (by omega) (by omega) hS hC
  · rw [rt_bad hr (by decide)]
    rw [gn_bad hl hr (by decide)] at hC
    exact sgt_err s a 0 0 3 w (by decide) hC
  · rw [rt_bad hr (by decide)]
    rw [gn_bad hl hr (by decide)] at hC
    exact sgt_err s a 0 0 4 w (by decide) hC

end Go.Proofs.YtbnchappillecadDoor
