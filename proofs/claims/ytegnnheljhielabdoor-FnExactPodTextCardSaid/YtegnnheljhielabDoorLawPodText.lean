/-
  The law FnExactPodText, walked: it returns true at every pod.
-/
import Derived.Test.YtegnnheljhielabDoorKLaw
import Derived.Test.YtegnnheljhielabDoorPText
import Derived.Deep.RegionWith
namespace Go.Proofs.YtegnnheljhielabDoor
open Go.RowKit

theorem below_drewK {B : Nat} {x w1 : World} (h : Below x.drew.heap.size x.drew w1) (hB : B ≤ x.heap.size) : Below B x w1 := ⟨h.os, h.tape, h.output, h.size, fun k hk => h.block k (Nat.lt_of_lt_of_le hk hB)⟩

set_option linter.unusedVariables false in
set_option maxHeartbeats 3200000 in
theorem fnExactPodText_walk (n : ByteArray) (c : Int) (z : ByteArray) (a : Option Addr) (len cap : Nat) (zs : List ByteArray) (d : ByteArray) (p : Int) (w : World) (hn : n.size ≤ maxLen) (hc : (Lit.int .i64 c).wf = true) (hz : z.size ≤ maxLen) (hr : TxRow w a len cap zs) (hd : d.size ≤ maxLen) (hp : (Lit.int .i64 p).wf = true) (ht : ptab w) :
    Calls Tryd.prog 5 #[.agg #[.string n, .int .i64 c, .string z, .slice a len cap, .string d, .int .i64 p]] w fun e w' => e = .returned (.bool true) ∧ Below w.heap.size w w' := by
  unfold maxLen at hn hz hd
  clear hc hp
  have HT := hidK ht
  clear ht
  have HR : Hid (TxRow w a len cap zs) := hr
  have HZ := hidK hr.2.2.2.1
  have hzl : zs.length = len := hr.1
  clear hr
  go_enter Tryd.func5, Tryd.ntmps5
  go_wp2_with fail
  refine (szPod_any n c z a len cap zs d p _ _ (by omega) (by omega) (by omega) (HR.out.below (below1 _ _)) (by decide) (by decide)).mono ?_
  rintro e w1 ⟨r, rfl, hr, hb⟩
  obtain ⟨g, hb1, -⟩ := slotK hb
  have c0 : w1.cell? ⟨w.heap.size, 0, none⟩ = some (.string n) := cellK g 0
  have c1 : w1.cell? ⟨w.heap.size, 1, none⟩ = some (.int .i64 c) := cellK g 1
  have c2 : w1.cell? ⟨w.heap.size, 2, none⟩ = some (.string z) := cellK g 2
  have c3 : w1.cell? ⟨w.heap.size, 3, none⟩ = some (.slice a len cap) := cellK g 3
  have c4 : w1.cell? ⟨w.heap.size, 4, none⟩ = some (.string d) := cellK g 4
  have c5 : w1.cell? ⟨w.heap.size, 5, none⟩ = some (.int .i64 p) := cellK g 5
  have HB : Hid (Below w.heap.size w w1) := hb1
  have HG := hidK g
  clear g hb hb1
  rcases hr with rfl | ⟨hr0, -, hl⟩
  · go_wp2
    go_ret
    exact ⟨rfl, HB.out⟩
  go_wp2_with fail
  refine (toPod_any n c z a len cap zs d p _ (HR.out.below HB.out) hl).mono ?_
  rintro e w2 ⟨rfl, hG2, hb2⟩
  go_wp2_with fail
  refine (spodText_any n c z _ len len zs d p _ (by omega) (by omega) (by omega) (TxRow.copy hG2 hzl hl HZ.out)).mono ?_
  rintro e w3 ⟨rfl, hb3⟩
  have hx3 : w.heap.size < w1.heap.size := lt_of_some HG.out
  have g3 := (hb3.block w.heap.size (by have := hb2.size; omega)).trans ((hb2.block w.heap.size hx3).trans HG.out)
  have d0 : w3.cell? ⟨w.heap.size, 0, none⟩ = some (.string n) := cellK g3 0
  have d1 : w3.cell? ⟨w.heap.size, 1, none⟩ = some (.int .i64 c) := cellK g3 1
  have d2 : w3.cell? ⟨w.heap.size, 2, none⟩ = some (.string z) := cellK g3 2
  have d3 : w3.cell? ⟨w.heap.size, 3, none⟩ = some (.slice a len cap) := cellK g3 3
  have d4 : w3.cell? ⟨w.heap.size, 4, none⟩ = some (.string d) := cellK g3 4
  have d5 : w3.cell? ⟨w.heap.size, 5, none⟩ = some (.int .i64 p) := cellK g3 5
  have HG3 := hidK g3
  have HB3 := hidK (HB.out.trans ((hb2.mono (by omega)).trans (hb3.mono (by have := hb2.size; omega))))
  clear c0 c1 c2 c3 c4 c5 g3 HB HG hb2 hb3 hG2 hx3
  go_wp2_with fail
  refine (toPod_any n c z a len cap zs d p _ (HR.out.below HB3.out) hl).mono ?_
  rintro e w4 ⟨rfl, hG4, hb4⟩
  have hx4 : w.heap.size < w3.heap.size := lt_of_some HG3.out
  have HG4 := hidK ((hb4.block w.heap.size hx4).trans HG3.out)
  have HX4 := hidK hG4
  have HB4 := hidK (HB3.out.trans (hb4.mono HB3.out.size))
  clear d0 d1 d2 d3 d4 d5 hb4 hG4 HG3
  go_wp2_with fail
  refine (ipodText_any n c z _ len len zs d p _ (by omega) (by omega) (by omega) ((TxRow.copy HX4.out hzl hl HZ.out).below (below1 _ _)) (fun h => by cases h) (HT.out.below (HB4.out.trans ((below1 _ _).mono HB4.out.size)))).mono ?_
  rintro e w5 ⟨rfl, hb5⟩
  obtain ⟨g5, hb51, -⟩ := slotK hb5
  have hx5 : w.heap.size < w4.heap.size := lt_of_some HG4.out
  have g6 := (hb51.block w.heap.size hx5).trans HG4.out
  have c0 : w5.cell? ⟨w4.heap.size, 0, none⟩ = some (.string n) := cellK g5 0
  have c1 : w5.cell? ⟨w4.heap.size, 1, none⟩ = some (.int .i64 c) := cellK g5 1
  have c2 : w5.cell? ⟨w4.heap.size, 2, none⟩ = some (.string z) := cellK g5 2
  have c3 : w5.cell? ⟨w4.heap.size, 3, none⟩ = some (.slice (some ⟨w3.heap.size + 1 + 1 + 1, 0, none⟩) len len) := cellK g5 3
  have c4 : w5.cell? ⟨w4.heap.size, 4, none⟩ = some (.string d) := cellK g5 4
  have c5 : w5.cell? ⟨w4.heap.size, 5, none⟩ = some (.int .i64 p) := cellK g5 5
  have d0 : w5.cell? ⟨w.heap.size, 0, none⟩ = some (.string n) := cellK g6 0
  have d1 : w5.cell? ⟨w.heap.size, 1, none⟩ = some (.int .i64 c) := cellK g6 1
  have d2 : w5.cell? ⟨w.heap.size, 2, none⟩ = some (.string z) := cellK g6 2
  have d3 : w5.cell? ⟨w.heap.size, 3, none⟩ = some (.slice a len cap) := cellK g6 3
  have d4 : w5.cell? ⟨w.heap.size, 4, none⟩ = some (.string d) := cellK g6 4
  have d5 : w5.cell? ⟨w.heap.size, 5, none⟩ = some (.int .i64 p) := cellK g6 5
  have HB5 := hidK (HB4.out.trans (hb51.mono HB4.out.size))
  have HX5 := hidK ((hb51.block _ (lt_of_some HX4.out)).trans HX4.out)
  have HS5 := hidK g5
  clear g5 g6 hb5 hb51 HG4 HX4
  go_wp2_with fail
  go_region_with (first | (go_at_call 16; refine (toPod_any n c z a len cap zs d p _ (HR.out.below HB5.out.drew) hl).mono ?_; rintro e w6 ⟨rfl, hG6, hb6⟩; have g7 := (hb6.block w4.heap.size (lt_of_some HS5.out)).trans HS5.out; have y0 : w6.cell? ⟨w4.heap.size, 0, none⟩ = some (.string n) := cellK g7 0; have y1 : w6.cell? ⟨w4.heap.size, 1, none⟩ = some (.int .i64 c) := cellK g7 1; have y2 : w6.cell? ⟨w4.heap.size, 2, none⟩ = some (.string z) := cellK g7 2; have y3 : w6.cell? ⟨w4.heap.size, 3, none⟩ = some (.slice (some ⟨w3.heap.size + 1 + 1 + 1, 0, none⟩) len len) := cellK g7 3; have y4 : w6.cell? ⟨w4.heap.size, 4, none⟩ = some (.string d) := cellK g7 4; have y5 : w6.cell? ⟨w4.heap.size, 5, none⟩ = some (.int .i64 p) := cellK g7 5; clear g7) | (go_at_call 18; refine (eqPod_any n c z _ len len zs d p _ len len _ (TxRow.copy ((hb6.block _ (lt_of_some HX5.out)).trans HX5.out) hzl hl HZ.out) (TxRow.copy hG6 hzl hl HZ.out)).mono ?_; rintro e w7 ⟨rfl, hb7⟩))
  all_goals (
    have HB7 := hidK (HB5.out.trans ((below_drewK hb6 HB5.out.size).trans (hb7.mono (Nat.le_trans HB5.out.size (below_drewK hb6 (Nat.le_refl _)).size))))
    clear hb7 hb6 hG6
    go_wp2_with fail
    go_ret
    exact ⟨rfl, HB7.out⟩)

end Go.Proofs.YtegnnheljhielabDoor
