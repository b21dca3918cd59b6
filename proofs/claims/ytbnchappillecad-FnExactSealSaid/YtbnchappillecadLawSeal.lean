/-
  The law FnExactSeal, walked: it returns true at every text.
-/
import Derived.Test.YtbnchappillecadSeal
namespace Go.Proofs.Ytbnchappillecad
open Go.RowKit

set_option maxHeartbeats 400000 in
theorem fnExactSeal_walk (s : ByteArray) (w : World) (hs : s.size ≤ maxLen) :
    Calls Try.prog 7 #[.string s] w fun e w' => e = .returned (.bool true) ∧ Below w.heap.size w w' := by
  unfold maxLen at hs
  by_cases hl : 1048576 < s.size
  · go_enter Try.func7, Try.ntmps7
    go_wp2
    go_ret
    exact ⟨rfl, Below.refl _ _⟩
  have HS := fun w => sseal_any s w
  have HI := fun w => iseal_any s w
  generalize sealed s = p at *
  have HS' : Hid (∀ w, Calls Try.prog 16 #[.string s] w fun e w' => e = .returned (.string p) ∧ Below w.heap.size w w') := HS
  have HI' : Hid (∀ w, Calls Try.prog 17 #[.string s] w fun e w' => e = .returned (.string p) ∧ Below w.heap.size w w') := HI
  clear HS HI
  go_enter Try.func7, Try.ntmps7
  go_wp2_with (first | (go_at_call 16; refine (HS'.out _).mono ?_; rintro e w1 ⟨rfl, hb1⟩) | (go_at_call 17; refine (HI'.out _).mono ?_; rintro e w2 ⟨rfl, hb2⟩))
  go_ret
  exact ⟨rfl, hb1.trans (hb2.mono hb1.size)⟩
end Go.Proofs.Ytbnchappillecad
