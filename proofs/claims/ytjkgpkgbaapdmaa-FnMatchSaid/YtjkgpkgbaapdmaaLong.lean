/-
  tooLong of the program: more than 8000 bytes.
-/
import Derived.Test.YtjkgpkgbaapdmaaRows
import Derived.WalkKit
import Derived.WalkSpells
namespace Go.Proofs.Ytjkgpkgbaapdmaa
open Go.RowKit

set_option maxHeartbeats 400000 in
theorem long_any (s : ByteArray) (w : World) :
    Calls Try.prog 42 #[.string s] w fun e w' => e = .returned (.bool (decide (8000 < s.size))) ∧ w = w' := by
  go_enter Try.func42, Try.ntmps42
  go_wp2
  go_ret
  exact ⟨by simp; omega, rfl⟩
theorem long_yes (s : ByteArray) (w : World) (h : 8000 < s.size) :
    Calls Try.prog 42 #[.string s] w fun e w' => e = .returned (.bool true) ∧ w = w' := by
  have := long_any s w; rw [decide_eq_true h] at this; exact this
theorem long_no (s : ByteArray) (w : World) (h : ¬ 8000 < s.size) :
    Calls Try.prog 42 #[.string s] w fun e w' => e = .returned (.bool false) ∧ w = w' := by
  have := long_any s w; rw [decide_eq_false h] at this; exact this

end Go.Proofs.Ytjkgpkgbaapdmaa
