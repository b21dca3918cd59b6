/-
  The law FnExactStoreCrash, walked: it returns true at every store and every number.
-/
import Derived.Test.YthbkcphbkgekdaaCrash
namespace Go.Proofs.Ythbkcphbkgekdaa
open Go.RowKit

set_option maxHeartbeats 1600000 in
theorem fnExactStoreCrash_walk (t : ByteArray) (y : Int) (k : Int) (w : World) (ht : t.size ≤ maxLen) (_hy : (Lit.int .i64 y).wf = true) (_hk : (Lit.int .i64 k).wf = true) :
    Calls Try.prog 3 #[.agg #[.string t, .int .i64 y], .int .i64 k] w fun e w' => e = .returned (.bool true) ∧ Below w.heap.size w w' := by
  unfold maxLen at ht
  obtain ⟨u, z, hu⟩ := crS_ex t y k
  have HU := hidK hu
  clear hu
  go_enter Try.func3, Try.ntmps3
  go_wp2_with fail
  refine (szStore_any t y _ _ (by omega) (by decide) (by decide)).mono ?_
  rintro e w1 ⟨r, rfl, hr, hb⟩
  obtain ⟨g, hb1, -⟩ := slotK hb
  have c0 : w1.cell? ⟨w.heap.size, 0, none⟩ = some (.string t) := cellK g 0
  have c1 : w1.cell? ⟨w.heap.size, 1, none⟩ = some (.int .i64 y) := cellK g 1
  have HB : Hid (Below w.heap.size w w1) := hb1
  have HG := hidK g
  clear g hb hb1
  rcases hr with rfl | ⟨hr0, -, hl⟩
  · go_wp2
    go_ret
    exact ⟨rfl, HB.out⟩
  go_wp2_with fail
  refine (toStore_any t y _).mono ?_
  rintro e w2 ⟨rfl, hb2⟩
  have hx2 : w.heap.size < w1.heap.size := lt_of_some HG.out
  have HB2 := hidK (HB.out.trans (hb2.mono (by omega)))
  have HG2 := hidK ((hb2.block w.heap.size hx2).trans HG.out)
  clear hb2 HB HG c0 c1
  go_wp2_with fail
  refine (scrash_any t y k u z _ (by omega) HU.out).mono ?_
  rintro e w3 ⟨rfl, hb3⟩
  have hx3 : w.heap.size < w2.heap.size := lt_of_some HG2.out
  have HB3 := hidK (HB2.out.trans (hb3.mono (by omega)))
  have HG3 := hidK ((hb3.block w.heap.size hx3).trans HG2.out)
  have c0 : w3.cell? ⟨w.heap.size, 0, none⟩ = some (.string t) := cellK HG3.out 0
  have c1 : w3.cell? ⟨w.heap.size, 1, none⟩ = some (.int .i64 y) := cellK HG3.out 1
  have hx4 : w.heap.size < w3.heap.size := lt_of_some HG3.out
  clear hb3 HB2 HG2
  go_wp2_with fail
  refine (toStore_any t y _).mono ?_
  rintro e w4 ⟨rfl, hb4⟩
  obtain ⟨g4, hb4', hz4⟩ := slotK hb4
  have HB4 := hidK (HB3.out.trans (hb4'.mono (by omega)))
  have HG4 := hidK g4
  have hx5 : w3.heap.size < w4.heap.size := hz4
  clear hb4 hb4' g4 c0 c1 HB3 HG3
  go_wp2_with fail
  refine (icrash_any t y k u z _ (by omega) HU.out).mono ?_
  rintro e w5 ⟨rfl, hb5⟩
  have HB5 := hidK (HB4.out.trans (hb5.mono (by omega)))
  have HG5 := hidK ((hb5.block w3.heap.size hx5).trans HG4.out)
  have d0 : w5.cell? ⟨w3.heap.size, 0, none⟩ = some (.string u) := cellK HG5.out 0
  have d1 : w5.cell? ⟨w3.heap.size, 1, none⟩ = some (.int .i64 z) := cellK HG5.out 1
  have hx6 : w3.heap.size < w5.heap.size := lt_of_some HG5.out
  clear hb5 HB4 HG4 HG5
  go_wp2_with fail
  refine (eqStore_any u z _).mono ?_
  rintro e w6 ⟨rfl, hb6⟩
  have hz5 := HB5.out.size
  have HB6 := hidK (HB5.out.trans (((below1 w5 _).trans (hb6.mono (by simp))).mono (by omega)))
  clear hb6 HB5
  go_wp2
  go_ret
  exact ⟨rfl, HB6.out⟩

end Go.Proofs.Ythbkcphbkgekdaa
