/-
  The law FnExactGetText, walked: it returns true at every text and place.
-/
import Derived.Test.YtbnchappillecadDoorSGetText
namespace Go.Proofs.YtbnchappillecadDoor
open Go.RowKit

theorem i64_bd' {n : Int} (h : (Lit.int .i64 n).wf = true) : -9223372036854775808 ≤ n ∧ n ≤ 9223372036854775807 := by
  simp [Lit.wf, IntKind.min, IntKind.max, IntKind.signed, IntKind.bits] at h
  exact ⟨by omega, by omega⟩

set_option maxHeartbeats 800000 in
theorem fnExactGetText_walk (s : ByteArray) (i : Int) (w : World) (hs : s.size ≤ maxLen) (hi : (Lit.int .i64 i).wf = true) (hg : etCell w) :
    Calls Tryd.prog 3 #[.string s, .int .i64 i] w fun e w' => e = .returned (.bool true) ∧ Below w.heap.size w w' := by
  unfold maxLen at hs
  by_cases hl : 1048576 < s.size
  · clear hg
    go_enter Tryd.func3, Tryd.ntmps3
    go_wp2
    go_ret
    exact ⟨rfl, Below.refl _ _⟩
  have hi1 := (i64_bd' hi).2
  have HS := fun w => sgetText_any s i w hi1
  have HI := fun w => igetText_any s i w hi1
  unfold gtVal at HS HI
  generalize gt s i = t at *
  obtain ⟨a, b, c⟩ := t
  simp only at HS HI
  have HS' : Hid (∀ w, Calls Tryd.prog 4 #[.string s, .int .i64 i] w fun e w' => e = .returned (.agg #[.string a, .int .i64 b, .int .i64 c]) ∧ Below w.heap.size w w') := HS
  have HI' : Hid (∀ w, etCell w → Calls Tryd.prog 5 #[.string s, .int .i64 i] w fun e w' => e = .returned (.agg #[.string a, .int .i64 b, .int .i64 c]) ∧ Below w.heap.size w w') := HI
  have HG : Hid (etCell w) := hg
  clear HS HI hi hi1 hg
  go_enter Tryd.func3, Tryd.ntmps3
  go_wp2_with fail
  refine (HS'.out _).mono ?_
  rintro e w1 ⟨rfl, hb1⟩
  have hg1 : etCell w1 := HG.out.below hb1 HG.out.lt
  have HG1 : Hid (etCell (w1.alloc (.cells #[.string a, .int .i64 b, .int .i64 c] 23))) := hg1.below ((Below.refl _ _).alloc (Nat.le_refl _) _) hg1.lt
  clear hg1
  go_wp2_with fail
  refine (HI'.out _ HG1.out).mono ?_
  rintro e w2 ⟨rfl, hb2⟩
  obtain ⟨c0, c1, c2, f0, f1, f2, hb, hz⟩ := slot3 (w := w1) (x := w1.alloc (.cells #[.string a, .int .i64 b, .int .i64 c] 23)) (w1 := w2) rfl rfl rfl rfl hb2
  clear hb2
  go_wp2_with fail
  refine (eqText_any _ _ _ _).mono ?_
  rintro e w3 ⟨rfl, hb3⟩
  go_wp2
  go_ret
  refine ⟨rfl, ?_⟩
  have h1 := hb1.size
  have h2 := hb.size
  exact (hb1.trans (hb.mono h1)).trans ((((Below.refl w2.heap.size w2).alloc (Nat.le_refl _) _).trans (hb3.mono (by simp))).mono (by omega))

end Go.Proofs.YtbnchappillecadDoor
