/-
  The law FnNums, walked: it returns true at whatever two slices of bytes.
-/
import Derived.Test.YtbnchappillecaaDoorLawNumsW
import Derived.Test.YtbnchappillecaaDoorIsRow
namespace Go.Proofs.YtbnchappillecaaDoor
open Go.RowKit

set_option maxHeartbeats 800000 in
theorem fnNums_walk (a0 : Option Addr) (len0 cap0 : Nat) (z0 : List Int) (a1 : Option Addr) (len1 cap1 : Nat) (z1 : List Int) (w : World) (w0 : IsRow .u8 w a0 len0 cap0 z0) (w1 : IsRow .u8 w a1 len1 cap1 z1) (hg : etCell w) :
    Calls Tryd.prog 3 #[.slice a0 len0 cap0, .slice a1 len1 cap1] w fun e w' => e = .returned (.bool true) ∧ Below w.heap.size w w' := by
  by_cases h0 : 1048576 < len0
  · clear w0 w1 hg
    go_enter Tryd.func3, Tryd.ntmps3
    go_wp2
    go_ret
    exact ⟨rfl, Below.refl _ _⟩
  by_cases h1 : 1048576 < len1
  · clear w0 w1 hg
    go_enter Tryd.func3, Tryd.ntmps3
    go_wp2
    go_ret
    exact ⟨rfl, Below.refl _ _⟩
  exact fnNums_go _ _ len0 len1 w (w0.rowIn (by omega)) (w1.rowIn (by omega)) (by omega) (by omega) hg

end Go.Proofs.YtbnchappillecaaDoor
