/-
  The law FnExactCpuRead, walked: it returns true at every text.
-/
import Derived.Test.YtbeocggeakhnnaaDoorJRead
namespace Go.Proofs.YtbeocggeakhnnaaDoor
open Go.RowKit

set_option maxHeartbeats 800000 in
theorem fnExactCpuRead_walk (s : ByteArray) (w : World) (hs : s.size ≤ maxLen) (ht : ptab w) :
    Calls Tryd.prog 7 #[.string s] w fun e w' => e = .returned (.bool true) ∧ Below w.heap.size w w' := by
  unfold maxLen at hs
  by_cases hl : 1048576 < s.size
  · clear ht
    go_enter Tryd.func7, Tryd.ntmps7
    go_wp2
    go_ret
    exact ⟨rfl, Below.refl _ _⟩
  have HT : Hid (ptab w) := ht
  clear ht
  go_enter Tryd.func7, Tryd.ntmps7
  go_wp2_with fail
  refine (scpuread_any s _ (by omega)).mono ?_
  rintro e w1 ⟨a, c, rfl, hr, hb1⟩
  have HR : Hid (RdIs cpText s a c) := hr
  clear hr
  have hp1 : ptab (w1.alloc (.cells #[.int .i64 a, .int .i64 0, .int .i64 c] 27)) := (HT.out.below hb1).below ((Below.refl _ _).alloc (Nat.le_refl _) _)
  have HP1 : Hid (ptab (w1.alloc (.cells #[.int .i64 a, .int .i64 0, .int .i64 c] 27))) := hp1
  clear hp1
  go_wp2_with fail
  refine (iCpuRead_any s _ (by omega) HP1.out).mono ?_
  rintro e w2 ⟨a', c', rfl, hr', hb2⟩
  obtain ⟨rfl, rfl⟩ := HR.out.same cp_inj hr'
  clear hr'
  obtain ⟨c0, c1, c2, f0, f1, f2, hb, hz⟩ := slot3 (w := w1) (x := w1.alloc (.cells #[.int .i64 a, .int .i64 0, .int .i64 c] 27)) (w1 := w2) rfl rfl rfl rfl hb2
  clear hb2
  go_wp2_with fail
  refine (eqNumQ_any _ _ _ _).mono ?_
  rintro e w3 ⟨rfl, hb3⟩
  go_wp2
  go_ret
  refine ⟨rfl, ?_⟩
  have h1 := hb1.size
  have h2 := hb.size
  exact (hb1.trans (hb.mono h1)).trans ((((Below.refl w2.heap.size w2).alloc (Nat.le_refl _) _).trans (hb3.mono (by simp))).mono (by omega))

end Go.Proofs.YtbeocggeakhnnaaDoor
