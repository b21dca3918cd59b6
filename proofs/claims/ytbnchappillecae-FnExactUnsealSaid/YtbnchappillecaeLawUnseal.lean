/-
  The law FnExactUnseal, walked: it returns true at every text.
-/
import Derived.Test.YtbnchappillecaeUnseal
import Derived.Test.YtbnchappillecaeEqText
namespace Go.Proofs.Ytbnchappillecae
open Go.RowKit

set_option maxHeartbeats 800000 in
theorem fnExactUnseal_walk (s : ByteArray) (w : World) (hs : s.size ≤ maxLen) :
    Calls Try.prog 3 #[.string s] w fun e w' => e = .returned (.bool true) ∧ Below w.heap.size w w' := by
  unfold maxLen at hs
  by_cases hl : 1048576 < s.size
  · go_enter Try.func3, Try.ntmps3
    go_wp2
    go_ret
    exact ⟨rfl, Below.refl _ _⟩
  have HS := fun w => sunseal_any s w
  have HI := fun w => iunseal_any s w
  unfold unsAns at HS HI
  generalize unsText s = t at *
  generalize unsCode s = c at *
  have HS' : Hid (∀ w, Calls Try.prog 4 #[.string s] w fun e w' => e = .returned (.agg #[.string t, .int .i64 0, .int .i64 c]) ∧ Below w.heap.size w w') := HS
  have HI' : Hid (∀ w, Calls Try.prog 5 #[.string s] w fun e w' => e = .returned (.agg #[.string t, .int .i64 0, .int .i64 c]) ∧ Below w.heap.size w w') := HI
  clear HS HI
  go_enter Try.func3, Try.ntmps3
  go_wp2_with fail
  refine (HS'.out _).mono ?_
  rintro e w1 ⟨rfl, hb1⟩
  go_wp2_with fail
  refine (HI'.out _).mono ?_
  rintro e w2 ⟨rfl, hb2⟩
  obtain ⟨c0, c1, c2, f0, f1, f2, hb, hz⟩ := slot3 (w := w1) (x := w1.alloc (.cells #[.string t, .int .i64 0, .int .i64 c] 23)) (w1 := w2) rfl rfl rfl rfl hb2
  clear hb2
  go_wp2_with fail
  refine (eqText_any _ _ _ _).mono ?_
  rintro e w3 ⟨rfl, hb3⟩
  go_wp2
  go_ret
  refine ⟨rfl, ?_⟩
  have h1 := hb1.size
  have h2 := hb.size
  exact (hb1.trans (hb.mono h1)).trans ((((Below.refl w2.heap.size w2).alloc (Nat.le_refl _) _).trans (hb3.mono (by simp))).mono (by omega))

end Go.Proofs.Ytbnchappillecae
