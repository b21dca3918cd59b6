/-
  The law FnExactClusterRight, walked: it returns true at every cluster.
-/
import Derived.Test.YtcljghpfclegmaaGreatDoorScr
import Derived.Test.YtcljghpfclegmaaGreatDoorTcl
namespace Go.Proofs.YtcljghpfclegmaaGreatDoor
open Go.RowKit Rc Mk

def ClV (c : Cl) : Fact := fun v w => ∃ d : Ad, v = .agg #[.slice d.a1 d.l1 d.c1, .slice d.a2 d.l2 d.c2, .slice d.a3 d.l3 d.c3, .slice d.a4 d.l4 d.c4, .slice d.a5 d.l5 d.c5, .int .i64 c.now] ∧ ClRow w d c.raw
theorem ClV.mono (c : Cl) : Fact.Mono (ClV c) := by
  rintro v w w' ⟨d, h1, h2⟩ hb
  exact ⟨d, h1, h2.below hb⟩

set_option maxRecDepth 100000 in
set_option maxHeartbeats 6400000 in
theorem clusterRight_walk (d : Ad) (c : Cl) (w : World) (hr : ClRow w d c.raw) (hG : ens w) :
    Calls Tryz.prog 3 #[.agg #[.slice d.a1 d.l1 d.c1, .slice d.a2 d.l2 d.c2, .slice d.a3 d.l3 d.c3, .slice d.a4 d.l4 d.c4, .slice d.a5 d.l5 d.c5, .int .i64 c.now]] w fun e w' => e = .returned (.bool true) ∧ Below w.heap.size w w' := by
  have HR := hidK hr
  have HE := hidK hG
  have HB := hidK (Below.refl w.heap.size w)
  clear hr hG
  go_enter Tryz.func3, Tryz.ntmps3
  go_wp2_with fail
  refine (szCluster_any d c _ (HR.out.below (HB.out.trans ((below1 _ _).mono HB.out.size)))).mono ?_
  rintro e w1 ⟨r, rfl, hi, hb⟩
  have hsz1 : (w.alloc (.cells #[.slice d.a1 d.l1 d.c1, .slice d.a2 d.l2 d.c2, .slice d.a3 d.l3 d.c3, .slice d.a4 d.l4 d.c4, .slice d.a5 d.l5 d.c5, .int .i64 c.now] 28)).heap.size = w.heap.size + 1 := by simp
  have Ck : Hid (w1.heap[w.heap.size]? = some (.cells #[.slice d.a1 d.l1 d.c1, .slice d.a2 d.l2 d.c2, .slice d.a3 d.l3 d.c3, .slice d.a4 d.l4 d.c4, .slice d.a5 d.l5 d.c5, .int .i64 c.now] 28 (0, 0))) := (hb.block (w.heap.size) (by rw [hsz1]; omega)).trans (Array.getElem?_push_size)
  have HB1 := hidK (HB.out.trans (((below1 _ _ : Below w.heap.size w (w.alloc (.cells #[.slice d.a1 d.l1 d.c1, .slice d.a2 d.l2 d.c2, .slice d.a3 d.l3 d.c3, .slice d.a4 d.l4 d.c4, .slice d.a5 d.l5 d.c5, .int .i64 c.now] 28))).trans (hb.mono (by rw [hsz1]; omega))).mono HB.out.size))
  clear HB hb hsz1
  have HB := HB1
  clear HB1
  have Bk := Ck
  clear Ck
  rcases hi with rfl | ⟨hr0, -, hft⟩
  · have k0 : w1.cell? ⟨w.heap.size, 0, none⟩ = some (.slice d.a1 d.l1 d.c1) := cellK Bk.out 0
    have k1 : w1.cell? ⟨w.heap.size, 1, none⟩ = some (.slice d.a2 d.l2 d.c2) := cellK Bk.out 1
    have k2 : w1.cell? ⟨w.heap.size, 2, none⟩ = some (.slice d.a3 d.l3 d.c3) := cellK Bk.out 2
    have k3 : w1.cell? ⟨w.heap.size, 3, none⟩ = some (.slice d.a4 d.l4 d.c4) := cellK Bk.out 3
    have k4 : w1.cell? ⟨w.heap.size, 4, none⟩ = some (.slice d.a5 d.l5 d.c5) := cellK Bk.out 4
    have k5 : w1.cell? ⟨w.heap.size, 5, none⟩ = some (.int .i64 c.now) := cellK Bk.out 5
    have ltk_1 : w.heap.size < w1.heap.size := lt_of_some Bk.out
    go_wp2
    go_ret
    exact ⟨rfl, HB.out⟩
  have HF := hidK hft
  clear hft
  have k0 : w1.cell? ⟨w.heap.size, 0, none⟩ = some (.slice d.a1 d.l1 d.c1) := cellK Bk.out 0
  have k1 : w1.cell? ⟨w.heap.size, 1, none⟩ = some (.slice d.a2 d.l2 d.c2) := cellK Bk.out 1
  have k2 : w1.cell? ⟨w.heap.size, 2, none⟩ = some (.slice d.a3 d.l3 d.c3) := cellK Bk.out 2
  have k3 : w1.cell? ⟨w.heap.size, 3, none⟩ = some (.slice d.a4 d.l4 d.c4) := cellK Bk.out 3
  have k4 : w1.cell? ⟨w.heap.size, 4, none⟩ = some (.slice d.a5 d.l5 d.c5) := cellK Bk.out 4
  have k5 : w1.cell? ⟨w.heap.size, 5, none⟩ = some (.int .i64 c.now) := cellK Bk.out 5
  have ltk_1 : w.heap.size < w1.heap.size := lt_of_some Bk.out
  go_wp2_with fail
  refine (toCluster_any d c _ (HR.out.below HB.out) HF.out).mono ?_
  rintro e w2 ⟨d1, rfl, ho, hb⟩
  clear k0 k1 k2 k3 k4 k5 ltk_1
  have Ck := hidK ((hb.block (w.heap.size) (by have := lt_of_some Bk.out; omega)).trans (Bk.out))
  have HB2 := hidK (HB.out.trans (hb.mono HB.out.size))
  clear HB hb Bk
  have HB := HB2
  clear HB2
  have Bk := Ck
  clear Ck
  have HO := hidK ho.row
  clear ho
  go_wp2_with fail
  have HO2 := HO
  clear HO
  refine (sright_any d1 c _ HO2.out).mono ?_
  rintro e w3 ⟨r0, rfl, hi, hb⟩
  have Ck := hidK ((hb.block (w.heap.size) (by have := lt_of_some Bk.out; omega)).trans (Bk.out))
  have HB3 := hidK (HB.out.trans (hb.mono HB.out.size))
  clear HB hb Bk
  have HB := HB3
  clear HB3
  have Bk := Ck
  clear Ck
  have HI := hidK hi
  clear hi HO2
  have k0 : w3.cell? ⟨w.heap.size, 0, none⟩ = some (.slice d.a1 d.l1 d.c1) := cellK Bk.out 0
  have k1 : w3.cell? ⟨w.heap.size, 1, none⟩ = some (.slice d.a2 d.l2 d.c2) := cellK Bk.out 1
  have k2 : w3.cell? ⟨w.heap.size, 2, none⟩ = some (.slice d.a3 d.l3 d.c3) := cellK Bk.out 2
  have k3 : w3.cell? ⟨w.heap.size, 3, none⟩ = some (.slice d.a4 d.l4 d.c4) := cellK Bk.out 3
  have k4 : w3.cell? ⟨w.heap.size, 4, none⟩ = some (.slice d.a5 d.l5 d.c5) := cellK Bk.out 4
  have k5 : w3.cell? ⟨w.heap.size, 5, none⟩ = some (.int .i64 c.now) := cellK Bk.out 5
  have ltk_3 : w.heap.size < w3.heap.size := lt_of_some Bk.out
  go_wp2_with fail
  refine (toCluster_any d c _ (HR.out.below HB.out) HF.out).mono ?_
  rintro e w4 ⟨d2, rfl, ho, hb⟩
  clear k0 k1 k2 k3 k4 k5 ltk_3
  have Ck := hidK ((hb.block (w.heap.size) (by have := lt_of_some Bk.out; omega)).trans (Bk.out))
  have HB4 := hidK (HB.out.trans (hb.mono HB.out.size))
  clear HB hb Bk
  have HB := HB4
  clear HB4
  have Bk := Ck
  clear Ck
  have HO := hidK ho.row
  clear ho
  go_wp2_with fail
  have HO3 := hidK (HO.out.below (below1 w4 (.cells #[.slice d2.a1 d2.l1 d2.c1, .slice d2.a2 d2.l2 d2.c2, .slice d2.a3 d2.l3 d2.c3, .slice d2.a4 d2.l4 d2.c4, .slice d2.a5 d2.l5 d2.c5, .int .i64 c.now] 37)))
  clear HO
  refine (iright_any d2 c _ HO3.out (HE.out.below (HB.out.trans ((below1 _ _).mono HB.out.size)))).mono ?_
  rintro e w5 ⟨r1, rfl, hj, hb⟩
  have HO := hidK (HO3.out.below hb)
  clear HO3
  have hsz5 : (w4.alloc (.cells #[.slice d2.a1 d2.l1 d2.c1, .slice d2.a2 d2.l2 d2.c2, .slice d2.a3 d2.l3 d2.c3, .slice d2.a4 d2.l4 d2.c4, .slice d2.a5 d2.l5 d2.c5, .int .i64 c.now] 37)).heap.size = w4.heap.size + 1 := by simp
  have Ck := hidK ((hb.block (w.heap.size) (by rw [hsz5]; have := lt_of_some Bk.out; omega)).trans ((Below.heap_alloc _ _ _ (lt_of_some Bk.out)).trans (Bk.out)))
  have Cx : Hid (w5.heap[w4.heap.size]? = some (.cells #[.slice d2.a1 d2.l1 d2.c1, .slice d2.a2 d2.l2 d2.c2, .slice d2.a3 d2.l3 d2.c3, .slice d2.a4 d2.l4 d2.c4, .slice d2.a5 d2.l5 d2.c5, .int .i64 c.now] 37 (0, 0))) := (hb.block (w4.heap.size) (by rw [hsz5]; omega)).trans (Array.getElem?_push_size)
  have HB5 := hidK (HB.out.trans (((below1 _ _ : Below w4.heap.size w4 (w4.alloc (.cells #[.slice d2.a1 d2.l1 d2.c1, .slice d2.a2 d2.l2 d2.c2, .slice d2.a3 d2.l3 d2.c3, .slice d2.a4 d2.l4 d2.c4, .slice d2.a5 d2.l5 d2.c5, .int .i64 c.now] 37))).trans (hb.mono (by rw [hsz5]; omega))).mono HB.out.size))
  clear HB hb Bk hsz5
  have HB := HB5
  clear HB5
  have Bk := Ck
  clear Ck
  have Bx := Cx
  clear Cx
  obtain rfl : r1 = r0 := by
    cases r1 <;> cases r0
    · rfl
    · exact (hj.2 (HI.out.1 rfl)).symm ▸ rfl
    · exact (HI.out.2 (hj.1 rfl)).symm ▸ rfl
    · rfl
  clear hj HI
  obtain ⟨W, hW0⟩ : ∃ W, W = w5 := ⟨_, rfl⟩
  rw [← hW0] at HO HB Bk Bx
  have hrr : (r1 == r1) = true := by simp
  go_wp2_with fail
  rw [← hW0]
  clear hW0 hrr
  rename_i K0 hK0
  refine wp_region_grow (back := none) (by kernel_rfl) (List.append_nil _).symm (by kernel_rfl) ?_
  refine' Grow.stepC _ rfl ?_ ?_
  rotate_left 1
  · refine Obl.plain rfl ?_
    intro ac wg K hsz hW hf hK; clear hsz
    have e5 := hf 5 (by decide)
    simp [slotFact, List.lookup] at e5
    clear hf
    have gk := (hW.block _ (lt_of_some Bx.out)).trans Bx.out
    have k0 : wg.cell? ⟨w4.heap.size, 0, none⟩ = some (.slice d2.a1 d2.l1 d2.c1) := cellK gk 0
    have k1 : wg.cell? ⟨w4.heap.size, 1, none⟩ = some (.slice d2.a2 d2.l2 d2.c2) := cellK gk 1
    have k2 : wg.cell? ⟨w4.heap.size, 2, none⟩ = some (.slice d2.a3 d2.l3 d2.c3) := cellK gk 2
    have k3 : wg.cell? ⟨w4.heap.size, 3, none⟩ = some (.slice d2.a4 d2.l4 d2.c4) := cellK gk 3
    have k4 : wg.cell? ⟨w4.heap.size, 4, none⟩ = some (.slice d2.a5 d2.l5 d2.c5) := cellK gk 4
    have k5 : wg.cell? ⟨w4.heap.size, 5, none⟩ = some (.int .i64 c.now) := cellK gk 5
    clear gk
    go_simp
    refine hK _ _ (Below.refl _ _) ?_
    with_reducible rfl
  refine' Grow.stepC _ rfl ?_ ?_
  rotate_left 1
  · refine Obl.plain rfl ?_
    intro ac wg K hsz hW hf hK; clear hsz
    have e1 := hf 1 (by decide)
    simp [slotFact, List.lookup] at e1
    clear hf
    have gk := (hW.block _ (lt_of_some Bk.out)).trans Bk.out
    have k0 : wg.cell? ⟨w.heap.size, 0, none⟩ = some (.slice d.a1 d.l1 d.c1) := cellK gk 0
    have k1 : wg.cell? ⟨w.heap.size, 1, none⟩ = some (.slice d.a2 d.l2 d.c2) := cellK gk 1
    have k2 : wg.cell? ⟨w.heap.size, 2, none⟩ = some (.slice d.a3 d.l3 d.c3) := cellK gk 2
    have k3 : wg.cell? ⟨w.heap.size, 3, none⟩ = some (.slice d.a4 d.l4 d.c4) := cellK gk 3
    have k4 : wg.cell? ⟨w.heap.size, 4, none⟩ = some (.slice d.a5 d.l5 d.c5) := cellK gk 4
    have k5 : wg.cell? ⟨w.heap.size, 5, none⟩ = some (.int .i64 c.now) := cellK gk 5
    clear gk
    go_simp
    refine hK _ _ (Below.refl _ _) ?_
    with_reducible rfl
  refine Grow.step (ClV c) rfl (ClV.mono c) ?_ ?_
  · refine Obl.plain rfl ?_
    intro ac wg K hsz hW hf hK; clear hsz
    have e23 := hf 23 (by decide)
    simp [slotFact, List.lookup] at e23
    clear hf
    go_simp
    refine (toCluster_any d c _ (HR.out.below (HB.out.trans (hW.mono HB.out.size))) HF.out).mono ?_
    rintro e w6 ⟨d3, rfl, ho, hb6⟩
    exact hK _ _ hb6 ⟨d3, rfl, ho.row⟩
  refine' Grow.stepC (.bool true) rfl ?_ ?_
  · refine Obl.plain rfl ?_
    intro ac wg K hsz hW hf hK; clear hsz
    have e22 := hf 22 (by decide)
    simp [slotFact, List.lookup] at e22
    have e24 := hf 24 (by decide)
    simp [slotFact, List.lookup] at e24
    obtain ⟨d3, e24, hrow⟩ := e24
    clear hf
    go_simp
    refine (eqCluster_any d2 d3 c _ (HO.out.below hW) hrow).mono ?_
    rintro e w6 ⟨rfl, hb6⟩
    exact hK _ _ hb6 rfl
  refine' Grow.stepC _ rfl ?_ ?_
  rotate_left 1
  · refine Obl.plain rfl ?_
    intro ac wg K hsz hW hf hK; clear hsz
    have e25 := hf 25 (by decide)
    simp [slotFact, List.lookup] at e25
    clear hf
    go_simp
    refine hK _ _ (Below.refl _ _) ?_
    with_reducible rfl
  refine Grow.done ?_
  intro q wz hW hf
  simp only [List.forall_mem_cons] at hf
  obtain ⟨h26, -⟩ := hf
  have HZ := hidK (HB.out.trans (hW.mono HB.out.size))
  refine hK0 _ _ ?_
  simp only [putsAll, List.foldr, Act.put, List.setIfInBounds_toArray, List.set_cons_zero, List.set_cons_succ, h26]
  clear hK0
  go_wp2_with fail
  go_ret
  exact ⟨rfl, HZ.out⟩

theorem fnExactClusterRight_walk (a1 : Option Addr) (l1 y1 : Nat) (ns : List Nd) (a2 : Option Addr) (l2 y2 : Nat) (ks : List Kd) (a3 : Option Addr) (l3 y3 : Nat) (vs : List Vd) (a4 : Option Addr) (l4 y4 : Nat) (xs : List Xd) (a5 : Option Addr) (l5 y5 : Nat) (ps : List Pd) (now : Int) (w : World)
    (h1 : RRow w a1 l1 y1 7 (ns.map ndF)) (h2 : RRow w a2 l2 y2 4 (ks.map kdF)) (h3 : RRow w a3 l3 y3 8 (vs.map vdF)) (h4 : RRow w a4 l4 y4 5 (xs.map xdF)) (h5 : RRow w a5 l5 y5 6 (ps.map pdF)) (_ : (Lit.int .i64 now).wf = true) (hG : ens w) :
    Calls Tryz.prog 3 #[.agg #[.slice a1 l1 y1, .slice a2 l2 y2, .slice a3 l3 y3, .slice a4 l4 y4, .slice a5 l5 y5, .int .i64 now]] w fun e w' => e = .returned (.bool true) ∧ Below w.heap.size w w' :=
  clusterRight_walk ⟨a1, l1, y1, a2, l2, y2, a3, l3, y3, a4, l4, y4, a5, l5, y5⟩ ⟨ns, ks, vs, xs, ps, now⟩ w ⟨h1, h2, h3, h4, h5⟩ hG

end Go.Proofs.YtcljghpfclegmaaGreatDoor
