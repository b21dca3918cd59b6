/-
  The law FnExactNameRight, walked: it returns true at every text.
-/
import Derived.Test.YtbnchappillecadName
namespace Go.Proofs.Ytbnchappillecad
open Go.RowKit

set_option maxHeartbeats 400000 in
theorem fnExactNameRight_walk (s : ByteArray) (w : World) (hs : s.size ≤ maxLen) :
    Calls Try.prog 4 #[.string s] w fun e w' => e = .returned (.bool true) ∧ Below w.heap.size w w' := by
  unfold maxLen at hs
  by_cases hl : 1048576 < s.size
  · go_enter Try.func4, Try.ntmps4
    go_wp2
    go_ret
    exact ⟨rfl, Below.refl _ _⟩
  go_enter Try.func4, Try.ntmps4
  go_wp2_with fail
  refine (sname_any s _ (by omega)).mono ?_
  rintro e w1 ⟨r1, rfl, h1, rfl⟩
  go_wp2_with fail
  refine (iname_any s _ (by omega)).mono ?_
  rintro e w1 ⟨r2, rfl, h2, rfl⟩
  obtain rfl : r2 = r1 := by rw [Bool.eq_iff_iff, h1, h2]
  clear h1 h2
  go_wp2
  all_goals first | (go_ret; exact ⟨rfl, Below.refl _ _⟩) | (rename_i hx; simp at hx)
end Go.Proofs.Ytbnchappillecad
