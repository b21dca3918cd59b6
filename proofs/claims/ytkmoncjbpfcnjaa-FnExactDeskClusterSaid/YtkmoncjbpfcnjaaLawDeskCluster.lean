/-
  The law FnExactDeskCluster, walked: it returns true.
-/
import Derived.Test.YtkmoncjbpfcnjaaDesk
namespace Go.Proofs.Ytkmoncjbpfcnjaa
open Go.RowKit Rc Mk

theorem deskC_num : mkCn 1 deskC.raw = 27 := by
  simp [mkCn, mkNs, mkN, mkN1, deskC, Cl.raw, ndF, kdF]

set_option maxRecDepth 10000 in
set_option maxHeartbeats 3200000 in
theorem fnExactDeskCluster_walk (w : World) :
    Calls Try.prog 3 #[] w fun e w' => e = .returned (.bool true) ∧ Below w.heap.size w w' := by
  go_enter Try.func3, Try.ntmps3
  go_wp2_with fail
  refine (sdesk_any _).mono ?_
  rintro e w1 ⟨d, rfl, ho, hb⟩
  have HR1 := hidK ho.row
  have HB1 := hidK hb
  clear ho hb
  go_wp2_with fail
  refine (idesk_any _).mono ?_
  rintro e w2 ⟨g, rfl, ho, hb⟩
  have hs1 : (w1.alloc (.cells #[.slice d.a1 d.l1 d.c1, .slice d.a2 d.l2 d.c2, .slice d.a3 d.l3 d.c3, .slice d.a4 d.l4 d.c4, .slice d.a5 d.l5 d.c5, .int .i64 0] 28)).heap.size = w1.heap.size + 1 := by simp
  rw [hs1] at ho hb
  have hs2 := hb.size
  have hs0 := HB1.out.size
  rw [hs1] at hs2
  have HXc := hidK ((hb.block w1.heap.size (by omega)).trans Array.getElem?_push_size)
  have HO2 := hidK (ho.into (S' := fun k => w1.heap.size + 1 ≤ k ∧ k < w2.heap.size) (fun k hk s => ⟨s, hk⟩))
  have HD2 : Hid (Below w1.heap.size w1 w2) := (below1 w1 (.cells #[.slice d.a1 d.l1 d.c1, .slice d.a2 d.l2 d.c2, .slice d.a3 d.l3 d.c3, .slice d.a4 d.l4 d.c4, .slice d.a5 d.l5 d.c5, .int .i64 0] 28)).trans (hb.mono (by omega))
  clear ho hb hs1
  have q12 : w1.heap.size < w2.heap.size := by omega
  have c0 : w2.cell? ⟨w1.heap.size, 0, none⟩ = some (.slice d.a1 d.l1 d.c1) := cellK HXc.out 0
  have c1 : w2.cell? ⟨w1.heap.size, 1, none⟩ = some (.slice d.a2 d.l2 d.c2) := cellK HXc.out 1
  have c2 : w2.cell? ⟨w1.heap.size, 2, none⟩ = some (.slice d.a3 d.l3 d.c3) := cellK HXc.out 2
  have c3 : w2.cell? ⟨w1.heap.size, 3, none⟩ = some (.slice d.a4 d.l4 d.c4) := cellK HXc.out 3
  have c4 : w2.cell? ⟨w1.heap.size, 4, none⟩ = some (.slice d.a5 d.l5 d.c5) := cellK HXc.out 4
  have c5 : w2.cell? ⟨w1.heap.size, 5, none⟩ = some (.int .i64 0) := cellK HXc.out 5
  go_wp2_with fail
  have HD3 := hidK (HD2.out.trans ((below1 w2 (.cells #[.slice g.a1 g.l1 g.c1, .slice g.a2 g.l2 g.c2, .slice g.a3 g.l3 g.c3, .slice g.a4 g.l4 g.c4, .slice g.a5 g.l5 g.c5, .int .i64 0] 28)).mono (by omega)))
  have HO3 := hidK (HO2.out.below (below1 w2 (.cells #[.slice g.a1 g.l1 g.c1, .slice g.a2 g.l2 g.c2, .slice g.a3 g.l3 g.c3, .slice g.a4 g.l4 g.c4, .slice g.a5 g.l5 g.c5, .int .i64 0] 28)))
  refine (eqCluster_any g d deskC _ (by exact HO3.out.row) (by exact HR1.out.below HD3.out)).mono ?_
  rintro e w3 ⟨rfl, hb⟩
  have hsz : (w2.alloc (.cells #[.slice g.a1 g.l1 g.c1, .slice g.a2 g.l2 g.c2, .slice g.a3 g.l3 g.c3, .slice g.a4 g.l4 g.c4, .slice g.a5 g.l5 g.c5, .int .i64 0] 28)).heap.size = w2.heap.size + 1 := by simp
  have hs3 := hb.size
  have HXc3 := hidK ((hb.block w1.heap.size (by rw [hsz]; omega)).trans ((Below.heap_alloc _ _ _ (by omega)).trans HXc.out))
  have HXg3 := hidK ((hb.block w2.heap.size (by rw [hsz]; omega)).trans Array.getElem?_push_size)
  have HO4 := hidK (HO3.out.below hb)
  have HD4 := hidK (HD3.out.trans (hb.mono (by rw [hsz]; omega)))
  rw [hsz] at hs3
  clear hb hsz HO2 HD2 HO3 HD3 HXc c0 c1 c2 c3 c4 c5
  have HXg := HXg3
  have HXc := HXc3
  clear HXg3 HXc3
  have g0 : w3.cell? ⟨w2.heap.size, 0, none⟩ = some (.slice g.a1 g.l1 g.c1) := cellK HXg.out 0
  have g1 : w3.cell? ⟨w2.heap.size, 1, none⟩ = some (.slice g.a2 g.l2 g.c2) := cellK HXg.out 1
  have g2 : w3.cell? ⟨w2.heap.size, 2, none⟩ = some (.slice g.a3 g.l3 g.c3) := cellK HXg.out 2
  have g3 : w3.cell? ⟨w2.heap.size, 3, none⟩ = some (.slice g.a4 g.l4 g.c4) := cellK HXg.out 3
  have g4 : w3.cell? ⟨w2.heap.size, 4, none⟩ = some (.slice g.a5 g.l5 g.c5) := cellK HXg.out 4
  have g5 : w3.cell? ⟨w2.heap.size, 5, none⟩ = some (.int .i64 0) := cellK HXg.out 5
  go_wp2_with fail
  refine (markCluster_any g deskC 1 _ w3 HO4.out (fun k s => by omega) (by decide) (by rw [deskC_num]; decide)).mono ?_
  rintro e w4 ⟨rfl, ho, hk⟩
  rw [deskC_num]
  have hs4 := hk.size
  have HO5 := hidK ho
  have HD5 := hidK (HD4.out.trans (hk.low (X := w1.heap.size) (by omega) (fun k s => by omega)))
  have HXg4 := hidK ((hk.block w2.heap.size (by omega) (fun s => by omega)).trans HXg.out)
  have HXc4 := hidK ((hk.block w1.heap.size (by omega) (fun s => by omega)).trans HXc.out)
  clear ho hk HO4 HD4 HXg HXc g0 g1 g2 g3 g4 g5
  have HXg := HXg4
  have HXc := HXc4
  clear HXg4 HXc4
  have g0 : w4.cell? ⟨w2.heap.size, 0, none⟩ = some (.slice g.a1 g.l1 g.c1) := cellK HXg.out 0
  have g1 : w4.cell? ⟨w2.heap.size, 1, none⟩ = some (.slice g.a2 g.l2 g.c2) := cellK HXg.out 1
  have g2 : w4.cell? ⟨w2.heap.size, 2, none⟩ = some (.slice g.a3 g.l3 g.c3) := cellK HXg.out 2
  have g3 : w4.cell? ⟨w2.heap.size, 3, none⟩ = some (.slice g.a4 g.l4 g.c4) := cellK HXg.out 3
  have g4 : w4.cell? ⟨w2.heap.size, 4, none⟩ = some (.slice g.a5 g.l5 g.c5) := cellK HXg.out 4
  have g5 : w4.cell? ⟨w2.heap.size, 5, none⟩ = some (.int .i64 0) := cellK HXg.out 5
  have HH := hidK (fun (v : World) (hr : ClRow v g (mkC 1 deskC.raw)) => heldCluster_any g deskC 0 1 v hr (by decide) (by rw [deskC_num]; decide))
  rw [deskC_num] at HH
  go_wp2_with fail
  refine (HH.out _ HO5.out.row).mono ?_
  rintro e w5 ⟨rfl, hb⟩
  have hs5 := hb.size
  have HXg5 := hidK ((hb.block w2.heap.size (by omega)).trans HXg.out)
  have HXc5 := hidK ((hb.block w1.heap.size (by omega)).trans HXc.out)
  have HR5 := hidK (HO5.out.row.below hb)
  have HD6 := hidK (HD5.out.trans (hb.mono (by omega)))
  clear hb HXg HXc HO5 HD5 g0 g1 g2 g3 g4 g5
  go_wp2_with fail
  refine (idesk_any _).mono ?_
  rintro e w6 ⟨h, rfl, ho, hb⟩
  have hs6 := hb.size
  have HXg6 := hidK ((hb.block w2.heap.size (by omega)).trans HXg5.out)
  have HXc6 := hidK ((hb.block w1.heap.size (by omega)).trans HXc5.out)
  have HR6 := hidK (HR5.out.below hb)
  have HD7 := hidK (HD6.out.trans (hb.mono (by omega)))
  have HH6 := hidK ho.row
  clear hb ho HXg5 HXc5 HR5 HD6
  have HXc := HXc6
  have q16 : w1.heap.size < w6.heap.size := by omega
  have c0 : w6.cell? ⟨w1.heap.size, 0, none⟩ = some (.slice d.a1 d.l1 d.c1) := cellK HXc.out 0
  have c1 : w6.cell? ⟨w1.heap.size, 1, none⟩ = some (.slice d.a2 d.l2 d.c2) := cellK HXc.out 1
  have c2 : w6.cell? ⟨w1.heap.size, 2, none⟩ = some (.slice d.a3 d.l3 d.c3) := cellK HXc.out 2
  have c3 : w6.cell? ⟨w1.heap.size, 3, none⟩ = some (.slice d.a4 d.l4 d.c4) := cellK HXc.out 3
  have c4 : w6.cell? ⟨w1.heap.size, 4, none⟩ = some (.slice d.a5 d.l5 d.c5) := cellK HXc.out 4
  have c5 : w6.cell? ⟨w1.heap.size, 5, none⟩ = some (.int .i64 0) := cellK HXc.out 5
  go_wp2_with fail
  have HD8 := hidK (HD7.out.trans ((below1 w6 (.cells #[.slice h.a1 h.l1 h.c1, .slice h.a2 h.l2 h.c2, .slice h.a3 h.l3 h.c3, .slice h.a4 h.l4 h.c4, .slice h.a5 h.l5 h.c5, .int .i64 0] 28)).mono (by omega)))
  have HH7 := hidK (HH6.out.below (below1 w6 (.cells #[.slice h.a1 h.l1 h.c1, .slice h.a2 h.l2 h.c2, .slice h.a3 h.l3 h.c3, .slice h.a4 h.l4 h.c4, .slice h.a5 h.l5 h.c5, .int .i64 0] 28)))
  have HR7 := hidK (HR6.out.below (below1 w6 (.cells #[.slice h.a1 h.l1 h.c1, .slice h.a2 h.l2 h.c2, .slice h.a3 h.l3 h.c3, .slice h.a4 h.l4 h.c4, .slice h.a5 h.l5 h.c5, .int .i64 0] 28)))
  refine (eqCluster_any h d deskC _ (by exact HH7.out) (by exact HR1.out.below HD8.out)).mono ?_
  rintro e w7 ⟨rfl, hb⟩
  have hsz : (w6.alloc (.cells #[.slice h.a1 h.l1 h.c1, .slice h.a2 h.l2 h.c2, .slice h.a3 h.l3 h.c3, .slice h.a4 h.l4 h.c4, .slice h.a5 h.l5 h.c5, .int .i64 0] 28)).heap.size = w6.heap.size + 1 := by simp
  have hs7 := hb.size
  have HXg := hidK ((hb.block w2.heap.size (by rw [hsz]; omega)).trans ((Below.heap_alloc _ _ _ (by omega)).trans HXg6.out))
  have HR8 := hidK (HR7.out.below hb)
  have HD9 := hidK (HD8.out.trans (hb.mono (by rw [hsz]; omega)))
  rw [hsz] at hs7
  clear hb hsz HXg6 HXc6 HXc HR7 HR6 HD8 HD7 HH6 HH7 c0 c1 c2 c3 c4 c5
  have g0 : w7.cell? ⟨w2.heap.size, 0, none⟩ = some (.slice g.a1 g.l1 g.c1) := cellK HXg.out 0
  have g1 : w7.cell? ⟨w2.heap.size, 1, none⟩ = some (.slice g.a2 g.l2 g.c2) := cellK HXg.out 1
  have g2 : w7.cell? ⟨w2.heap.size, 2, none⟩ = some (.slice g.a3 g.l3 g.c3) := cellK HXg.out 2
  have g3 : w7.cell? ⟨w2.heap.size, 3, none⟩ = some (.slice g.a4 g.l4 g.c4) := cellK HXg.out 3
  have g4 : w7.cell? ⟨w2.heap.size, 4, none⟩ = some (.slice g.a5 g.l5 g.c5) := cellK HXg.out 4
  have g5 : w7.cell? ⟨w2.heap.size, 5, none⟩ = some (.int .i64 0) := cellK HXg.out 5
  go_wp2_with fail
  refine (HH.out _ HR8.out).mono ?_
  rintro e w8 ⟨rfl, hb⟩
  have HD := hidK (HB1.out.trans ((HD9.out.trans (hb.mono (by omega))).mono hs0))
  clear hb g0 g1 g2 g3 g4 g5
  go_wp2_with fail
  go_ret
  exact ⟨rfl, HD.out⟩

end Go.Proofs.Ytkmoncjbpfcnjaa
