/-
  The law FnExactPutNum, walked: it returns true at every int64.
-/
import Derived.Test.YtbnchappillecacPut
namespace Go.Proofs.Ytbnchappillecac
open Go.RowKit

theorem i64_bd {n : Int} (h : (Lit.int .i64 n).wf = true) : -9223372036854775808 ≤ n ∧ n ≤ 9223372036854775807 := by
  simp [Lit.wf, IntKind.min, IntKind.max, IntKind.signed, IntKind.bits] at h
  exact ⟨by omega, by omega⟩

set_option maxHeartbeats 400000 in
theorem fnExactPutNum_walk (n : Int) (w : World) (hn : (Lit.int .i64 n).wf = true) :
    Calls Try.prog 3 #[.int .i64 n] w fun e w' => e = .returned (.bool true) ∧ Below w.heap.size w w' := by
  obtain ⟨h0, h1⟩ := i64_bd hn
  clear hn
  obtain ⟨s, hs⟩ : ∃ s : ByteArray, s = ⟨(Lib.uvarint (zz n)).toArray⟩ := ⟨_, rfl⟩
  have hS : ∀ w, Calls Try.prog 4 #[.int .i64 n] w fun e w' => e = .returned (.string s) ∧ Below w.heap.size w w' := fun w => by rw [hs]; exact sput_any n w h0 h1
  have hI : ∀ w, Calls Try.prog 5 #[.int .i64 n] w fun e w' => e = .returned (.string s) ∧ Below w.heap.size w w' := fun w => by rw [hs]; exact iput_any n w h0 h1
  have HS : Hid (∀ w, Calls Try.prog 4 #[.int .i64 n] w fun e w' => e = .returned (.string s) ∧ Below w.heap.size w w') := hS
  have HI : Hid (∀ w, Calls Try.prog 5 #[.int .i64 n] w fun e w' => e = .returned (.string s) ∧ Below w.heap.size w w') := hI
  clear hS hI hs
  go_enter Try.func3, Try.ntmps3
  go_wp2_with (first | (go_at_call 4; refine (HS.out _).mono ?_; rintro e w1 ⟨rfl, hb1⟩) | (go_at_call 5; refine (HI.out _).mono ?_; rintro e w2 ⟨rfl, hb2⟩))
  go_ret
  exact ⟨rfl, hb1.trans (hb2.mono hb1.size)⟩
end Go.Proofs.Ytbnchappillecac
