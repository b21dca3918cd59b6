/-
  The law FnExactMayMake, walked: it returns true at every class and zone.
-/
import Derived.Test.YtjkgpkgbaapdmaaMay
namespace Go.Proofs.Ytjkgpkgbaapdmaa
open Go.RowKit

set_option maxHeartbeats 1600000 in
theorem fnExactMayMake_walk (n : ByteArray) (x y : Bool) (z t : ByteArray) (w : World) (hn : n.size ≤ maxLen) (hz : z.size ≤ maxLen) (ht : t.size ≤ maxLen) :
    Calls Try.prog 6 #[.agg #[.string n, .bool x, .bool y, .string z], .string t] w fun e w' => e = .returned (.bool true) ∧ Below w.heap.size w w' := by
  unfold maxLen at hn hz ht
  by_cases hl : 1048576 < t.size
  · go_enter Try.func6, Try.ntmps6
    go_wp2
    go_ret
    exact ⟨rfl, below1 _ _⟩
  go_enter Try.func6, Try.ntmps6
  go_wp2_with fail
  refine (szClass_any n x y z _ _ (by omega) (by omega) (by decide) (by decide)).mono ?_
  rintro e w1 ⟨r, rfl, hr, hb⟩
  obtain ⟨g, hb1, -⟩ := slotK hb
  have c0 : w1.cell? ⟨w.heap.size, 0, none⟩ = some (.string n) := cellK g 0
  have c1 : w1.cell? ⟨w.heap.size, 1, none⟩ = some (.bool x) := cellK g 1
  have c2 : w1.cell? ⟨w.heap.size, 2, none⟩ = some (.bool y) := cellK g 2
  have c3 : w1.cell? ⟨w.heap.size, 3, none⟩ = some (.string z) := cellK g 3
  have HB : Hid (Below w.heap.size w w1) := hb1
  have HG := hidK g
  clear g hb hb1
  rcases hr with rfl | ⟨hr0, -, -⟩
  · go_wp2
    go_ret
    exact ⟨rfl, HB.out⟩
  go_wp2_with fail
  refine (toClass_any n x y z _).mono ?_
  rintro e w2 ⟨rfl, hb2⟩
  go_wp2_with fail
  refine (smay_any n x y z t _ (by omega) (by omega) (by omega)).mono ?_
  rintro e w3 ⟨r3, rfl, hr3, hb3⟩
  have hx3 : w.heap.size < w1.heap.size := lt_of_some HG.out
  have g3 := (hb3.block w.heap.size (by have := hb2.size; omega)).trans ((hb2.block w.heap.size hx3).trans HG.out)
  have d0 : w3.cell? ⟨w.heap.size, 0, none⟩ = some (.string n) := cellK g3 0
  have d1 : w3.cell? ⟨w.heap.size, 1, none⟩ = some (.bool x) := cellK g3 1
  have d2 : w3.cell? ⟨w.heap.size, 2, none⟩ = some (.bool y) := cellK g3 2
  have d3 : w3.cell? ⟨w.heap.size, 3, none⟩ = some (.string z) := cellK g3 3
  have HB3 := hidK (HB.out.trans ((hb2.mono (by omega)).trans (hb3.mono (by have := hb2.size; omega))))
  clear c0 c1 c2 c3 g3 HB hb2 hb3
  go_wp2_with fail
  refine (toClass_any n x y z _).mono ?_
  rintro e w4 ⟨rfl, hb4⟩
  have HB4 := hidK (HB3.out.trans (hb4.mono HB3.out.size))
  clear d0 d1 d2 d3 hb4
  go_wp2_with fail
  refine (imay_any n x y z t _ (by omega) (by omega) (by omega)).mono ?_
  rintro e w5 ⟨r5, rfl, hr5, hb5⟩
  have HB5 := hidK (HB4.out.trans (hb5.mono HB4.out.size))
  obtain rfl : r5 = r3 := by rw [Bool.eq_iff_iff, hr3, hr5]
  clear hr3 hr5 hb5
  go_wp2
  all_goals first | (go_ret; exact ⟨rfl, HB5.out⟩) | (rename_i hx; simp at hx)

end Go.Proofs.Ytjkgpkgbaapdmaa
