/-
  The law FnExactCpuText, walked: it returns true at every number.
-/
import Derived.Test.YtbeocggeakhnnaaDoorQText
namespace Go.Proofs.YtbeocggeakhnnaaDoor
open Go.RowKit

set_option linter.unusedVariables false in
set_option maxHeartbeats 400000 in
theorem fnExactCpuText_walk (n : Int) (w : World) (hn : (Lit.int .i64 n).wf = true) (ht : ptab w) :
    Calls Tryd.prog 6 #[.int .i64 n] w fun e w' => e = .returned (.bool true) ∧ Below w.heap.size w w' := by
  have HT : Hid (ptab w) := ht
  clear ht hn
  go_enter Tryd.func6, Tryd.ntmps6
  go_wp2_with fail
  refine (scputext_any n _).mono ?_
  rintro e w1 ⟨rfl, hb1⟩
  go_wp2_with fail
  refine (icpuText_any n _ (HT.out.below hb1)).mono ?_
  rintro e w2 ⟨rfl, hb2⟩
  go_wp2
  go_ret
  exact ⟨rfl, hb1.trans (hb2.mono hb1.size)⟩

end Go.Proofs.YtbeocggeakhnnaaDoor
