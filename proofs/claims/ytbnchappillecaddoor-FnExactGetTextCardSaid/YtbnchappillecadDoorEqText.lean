/-
  eqTextOut of two answers that are the same, field by field: true.
-/
import Derived.Test.YtbnchappillecadDoorRows
import Derived.WalkKit
import Derived.WalkSpells
import Derived.Below
namespace Go.Proofs.YtbnchappillecadDoor
open Go.RowKit

set_option maxHeartbeats 800000 in
theorem eqText_any (t : ByteArray) (a c : Int) (w : World) :
    Calls Tryd.prog 6 #[.agg #[.string t, .int .i64 a, .int .i64 c], .agg #[.string t, .int .i64 a, .int .i64 c]] w fun e w' => e = .returned (.bool true) ∧ Below w.heap.size w w' := by
  go_enter Tryd.func6, Tryd.ntmps6
  go_wp2
  go_ret
  exact ⟨rfl, ((Below.refl _ _).alloc (Nat.le_refl _) _).alloc (by simp) _⟩

end Go.Proofs.YtbnchappillecadDoor
