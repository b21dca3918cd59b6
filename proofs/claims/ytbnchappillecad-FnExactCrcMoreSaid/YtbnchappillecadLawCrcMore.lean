/-
  The law FnExactCrcMore, walked: it returns true at every argument.
-/
import Derived.Test.YtbnchappillecadCrc
namespace Go.Proofs.Ytbnchappillecad
open Go.RowKit

set_option maxHeartbeats 400000 in
theorem fnExactCrcMore_walk (c : Int) (s : ByteArray) (w : World) (_hc : (Lit.int .i64 c).wf = true) (hs : s.size ≤ maxLen) :
    Calls Try.prog 6 #[.int .i64 c, .string s] w fun e w' => e = .returned (.bool true) ∧ Below w.heap.size w w' := by
  unfold maxLen at hs
  by_cases hl : 1048576 < s.size
  · go_enter Try.func6, Try.ntmps6
    go_wp2
    go_ret
    exact ⟨rfl, Below.refl _ _⟩
  go_enter Try.func6, Try.ntmps6
  go_wp2_with fail
  refine (smore_any c s _).mono ?_
  rintro e w1 ⟨rfl, rfl⟩
  go_wp2_with fail
  refine (imore_any c s _).mono ?_
  rintro e w1 ⟨rfl, rfl⟩
  go_wp2
  go_ret
  exact ⟨rfl, Below.refl _ _⟩
end Go.Proofs.Ytbnchappillecad
