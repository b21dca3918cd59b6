/-
  The law FnExactClaimText, walked: it returns true at every claim.
-/
import Derived.Test.YtegnnheljhielabDoorKLaw
import Derived.Test.YtegnnheljhielabDoorKText
import Derived.Deep.RegionWith
namespace Go.Proofs.YtegnnheljhielabDoor
open Go.RowKit

theorem below_drewK {B : Nat} {x w1 : World} (h : Below x.drew.heap.size x.drew w1) (hB : B ≤ x.heap.size) : Below B x w1 := ⟨h.os, h.tape, h.output, h.size, fun k hk => h.block k (Nat.lt_of_lt_of_le hk hB)⟩

set_option linter.unusedVariables false in
set_option maxHeartbeats 3200000 in
theorem fnExactClaimText_walk (n : ByteArray) (z : Int) (k : ByteArray) (x : Bool) (v : ByteArray) (w : World) (hn : n.size ≤ maxLen) (hz : (Lit.int .i64 z).wf = true) (hk : k.size ≤ maxLen) (hv : v.size ≤ maxLen) (ht : ptab w) :
    Calls Tryd.prog 3 #[.agg #[.string n, .int .i64 z, .string k, .bool x, .string v]] w fun e w' => e = .returned (.bool true) ∧ Below w.heap.size w w' := by
  unfold maxLen at hn hk hv
  clear hz
  have HT := hidK ht
  clear ht
  go_enter Tryd.func3, Tryd.ntmps3
  go_wp2_with fail
  refine (szClaim_any n z k x v _ _ (by omega) (by omega) (by omega)  (by decide) (by decide)).mono ?_
  rintro e w1 ⟨r, rfl, hr, hb⟩
  obtain ⟨g, hb1, -⟩ := slotK hb
  have c0 : w1.cell? ⟨w.heap.size, 0, none⟩ = some (.string n) := cellK g 0
  have c1 : w1.cell? ⟨w.heap.size, 1, none⟩ = some (.int .i64 z) := cellK g 1
  have c2 : w1.cell? ⟨w.heap.size, 2, none⟩ = some (.string k) := cellK g 2
  have c3 : w1.cell? ⟨w.heap.size, 3, none⟩ = some (.bool x) := cellK g 3
  have c4 : w1.cell? ⟨w.heap.size, 4, none⟩ = some (.string v) := cellK g 4
  have HB : Hid (Below w.heap.size w w1) := hb1
  have HG := hidK g
  clear g hb hb1
  rcases hr with rfl | ⟨hr0, -, hl⟩
  · go_wp2
    go_ret
    exact ⟨rfl, HB.out⟩
  go_wp2_with fail
  refine (toClaim_any n z k x v _).mono ?_
  rintro e w2 ⟨rfl, hb2⟩
  go_wp2_with fail
  refine (sclaimText_any n z k x v _ (by omega) (by omega) (by omega)).mono ?_
  rintro e w3 ⟨rfl, hb3⟩
  have hx3 : w.heap.size < w1.heap.size := lt_of_some HG.out
  have g3 := (hb3.block w.heap.size (by have := hb2.size; omega)).trans ((hb2.block w.heap.size hx3).trans HG.out)
  have d0 : w3.cell? ⟨w.heap.size, 0, none⟩ = some (.string n) := cellK g3 0
  have d1 : w3.cell? ⟨w.heap.size, 1, none⟩ = some (.int .i64 z) := cellK g3 1
  have d2 : w3.cell? ⟨w.heap.size, 2, none⟩ = some (.string k) := cellK g3 2
  have d3 : w3.cell? ⟨w.heap.size, 3, none⟩ = some (.bool x) := cellK g3 3
  have d4 : w3.cell? ⟨w.heap.size, 4, none⟩ = some (.string v) := cellK g3 4
  have HB3 := hidK (HB.out.trans ((hb2.mono (by omega)).trans (hb3.mono (by have := hb2.size; omega))))
  clear c0 c1 c2 c3 c4 g3 HB hb2 hb3
  go_wp2_with fail
  refine (toClaim_any n z k x v _).mono ?_
  rintro e w4 ⟨rfl, hb4⟩
  have HB4 := hidK (HB3.out.trans (hb4.mono HB3.out.size))
  clear d0 d1 d2 d3 d4 hb4
  go_wp2_with fail
  refine (iclaimText_any n z k x v _ (by omega) (by omega) (by omega) (HT.out.below HB4.out)).mono ?_
  rintro e w5 ⟨rfl, hb5⟩
  have HB5 := hidK (HB4.out.trans (hb5.mono HB4.out.size))
  clear hb5
  go_wp2
  all_goals first | (go_ret; exact ⟨rfl, HB5.out⟩) | (rename_i hx; simp at hx)

end Go.Proofs.YtegnnheljhielabDoor
