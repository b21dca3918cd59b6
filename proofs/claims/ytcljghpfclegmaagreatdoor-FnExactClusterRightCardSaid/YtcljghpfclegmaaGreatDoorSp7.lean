/-
  Whether all volumes of a pod are mounted on its node, as the specification asks it.
-/
import Derived.Test.YtcljghpfclegmaaGreatDoorSp2
namespace Go.Proofs.YtcljghpfclegmaaGreatDoor
open Go.RowKit
namespace Rc
open Mk

def FreshN (W : World) : Fact := fun v w => ∃ g, v = .pointer (some ⟨g, 0, none⟩) ∧ W.heap.size ≤ g ∧ w.heap[g]? = some (.cells #[.string ⟨#[]⟩, .string ⟨#[]⟩, .int .i64 0, .int .i64 0, .int .i64 0, .bool false, .slice none 0 0] 102 (0, 0))
theorem FreshN.mono (W : World) : Fact.Mono (FreshN W) := by
  rintro v w w' ⟨g, h1, h2, h3⟩ hb
  exact ⟨g, h1, h2, (hb.block g (lt_of_some h3)).trans h3⟩
theorem put7N {w : World} {g : Nat} {v0 v1 v2 v3 v4 v5 v6 : Value} (h : w.heap[g]? = some (.cells #[.string ⟨#[]⟩, .string ⟨#[]⟩, .int .i64 0, .int .i64 0, .int .i64 0, .bool false, .slice none 0 0] 102 (0, 0))) :
    (((((((w.setCell ⟨g, 0, none⟩ (v0)).setCell ⟨g, 1, none⟩ (v1)).setCell ⟨g, 2, none⟩ (v2)).setCell ⟨g, 3, none⟩ (v3)).setCell ⟨g, 4, none⟩ (v4)).setCell ⟨g, 5, none⟩ (v5)).setCell ⟨g, 6, none⟩ (v6)).heap[g]? = some (.cells #[v0, v1, v2, v3, v4, v5, v6] 102 (0, 0)) := by
  have := block_set (i := 6) (block_set (i := 5) (block_set (i := 4) (block_set (i := 3) (block_set (i := 2) (block_set (i := 1) (block_set (i := 0) h v0) v1) v2) v3) v4) v5) v6
  simpa using this
theorem set_below7 {W w : World} {g : Nat} {v0 v1 v2 v3 v4 v5 v6 : Value} (hg : W.heap.size ≤ g) (h : Below W.heap.size W w) : Below W.heap.size W (((((((w.setCell ⟨g, 0, none⟩ (v0)).setCell ⟨g, 1, none⟩ (v1)).setCell ⟨g, 2, none⟩ (v2)).setCell ⟨g, 3, none⟩ (v3)).setCell ⟨g, 4, none⟩ (v4)).setCell ⟨g, 5, none⟩ (v5)).setCell ⟨g, 6, none⟩ (v6)) :=
  set_below hg (set_below hg (set_below hg (set_below hg (set_below hg (set_below hg (set_below hg h))))))
/-- All disks of the pod's claims are among the mounts. -/
def AllS (c : Cl) (p : Pd) (n : Nd) : Prop := ∀ (j : Nat) t, p.zs[j]? = some t → ∃ v, IsBd c t v ∧ InL n.zs v.n

set_option maxRecDepth 100000 in
set_option maxHeartbeats 12800000 in
theorem sall_any (d : Ad) (c : Cl) (p : Pd) (pa : Option Addr) (pl pc : Nat) (j1 : Nat) (n : Nd) (w : World) (hr : ClRow w d c.raw) (hn : RisBy Nd.n c.ns) (hx : RisBy Xd.n c.xs) (hv : RisBy Vd.n c.vs) (hne : ∀ (j : Nat) v, c.vs[j]? = some v → ¬ v.n = ⟨#[]⟩) (hp : TxRow w pa pl pc p.zs) (hj1 : c.ns[j1]? = some n) (hnn : n.n = p.d) (hbd : ∀ (j : Nat) t, p.zs[j]? = some t → ∃ v, IsBd c t v) :
    Calls Tryz.prog 143 #[.agg #[.slice d.a1 d.l1 d.c1, .slice d.a2 d.l2 d.c2, .slice d.a3 d.l3 d.c3, .slice d.a4 d.l4 d.c4, .slice d.a5 d.l5 d.c5, .int .i64 c.now], .agg #[.string p.n, .int .i64 p.c, .string p.z, .slice pa pl pc, .string p.d, .int .i64 p.p]] w (BoolB (AllS c p n) w) := by
  obtain ⟨a1, l1, y1, a2, l2, y2, a3, l3, y3, a4, l4, y4, a5, l5, y5⟩ := d
  dsimp only
  have HR := hidK hr
  have hl1 : c.ns.length = l1 := by simpa using (show (c.ns.map ndF).length = l1 from hr.n.1)
  have hm1 : l1 ≤ 9223372036854775807 := Nat.le_trans hr.n.2.1 hr.n.2.2.1
  have hl2 : c.ks.length = l2 := by simpa using (show (c.ks.map kdF).length = l2 from hr.k.1)
  have hm2 : l2 ≤ 9223372036854775807 := Nat.le_trans hr.k.2.1 hr.k.2.2.1
  have hl3 : c.vs.length = l3 := by simpa using (show (c.vs.map vdF).length = l3 from hr.v.1)
  have hm3 : l3 ≤ 9223372036854775807 := Nat.le_trans hr.v.2.1 hr.v.2.2.1
  have hl4 : c.xs.length = l4 := by simpa using (show (c.xs.map xdF).length = l4 from hr.x.1)
  have hm4 : l4 ≤ 9223372036854775807 := Nat.le_trans hr.x.2.1 hr.x.2.2.1
  have hl5 : c.ps.length = l5 := by simpa using (show (c.ps.map pdF).length = l5 from hr.p.1)
  have hm5 : l5 ≤ 9223372036854775807 := Nat.le_trans hr.p.2.1 hr.p.2.2.1
  clear hr
  have HNR := hidK hn
  have HX := hidK hx
  have HV := hidK hv
  have HNE := hidK hne
  have HP := hidK hp
  have HBD := hidK hbd
  have hlc : pl ≤ 9223372036854775807 := Nat.le_trans hp.2.1 hp.2.2.1
  have hzl : p.zs.length = pl := hp.1
  have hl1' : j1 < l1 := by have h3 := (List.getElem?_eq_some_iff.1 hj1).1; omega
  obtain ⟨b1, o1, n', rfl, hb1n, hn', hat⟩ := nd_at HR.out.n hl1'
  rw [hj1] at hn'
  obtain rfl := Option.some.inj hn'
  obtain ⟨na, nl, nc, hnr, z0, z1, d0, d1, d2, d3, d4, d5, d6⟩ := nd_cells hat
  have HJn := hidK hj1
  have HNn := hidK hnn
  have HTn := hidK hnr
  have HBn := hidK hb1n
  have HD : Hid (w.cell? ⟨b1, o1 + j1 * 7, none⟩ = some (.string n.n) ∧ w.cell? ⟨b1, o1 + j1 * 7 + 1, none⟩ = some (.string n.z) ∧ w.cell? ⟨b1, o1 + j1 * 7 + 2, none⟩ = some (.int .i64 n.c) ∧ w.cell? ⟨b1, o1 + j1 * 7 + 3, none⟩ = some (.int .i64 n.s) ∧ w.cell? ⟨b1, o1 + j1 * 7 + 4, none⟩ = some (.int .i64 n.u) ∧ w.cell? ⟨b1, o1 + j1 * 7 + 5, none⟩ = some (.bool n.d) ∧ w.cell? ⟨b1, o1 + j1 * 7 + 6, none⟩ = some (.slice na nl nc)) := ⟨d0, d1, d2, d3, d4, d5, d6⟩
  clear hn' hat hnr z0 z1 d0 d1 d2 d3 d4 d5 d6 hj1 hnn hb1n hn hx hv hne hp hbd
  obtain ⟨W, hW0⟩ : ∃ W, W = (w.alloc (.cells #[.slice (some ⟨b1, o1, none⟩) l1 y1, .slice a2 l2 y2, .slice a3 l3 y3, .slice a4 l4 y4, .slice a5 l5 y5, .int .i64 c.now] 37)).alloc (.cells #[.string p.n, .int .i64 p.c, .string p.z, .slice pa pl pc, .string p.d, .int .i64 p.p] 76) := ⟨_, rfl⟩
  have GK : Hid (W.heap[w.heap.size]? = some (.cells #[.slice (some ⟨b1, o1, none⟩) l1 y1, .slice a2 l2 y2, .slice a3 l3 y3, .slice a4 l4 y4, .slice a5 l5 y5, .int .i64 c.now] 37 (0, 0))) := by rw [hW0]; exact heap2_0 _ _ _
  have GP : Hid (W.heap[w.heap.size + 1]? = some (.cells #[.string p.n, .int .i64 p.c, .string p.z, .slice pa pl pc, .string p.d, .int .i64 p.p] 76 (0, 0))) := by rw [hW0]; exact heap2_1 _ _ _
  have BW : Hid (Below w.heap.size w W) := by rw [hW0]; exact below2 _ _ _
  go_enter Tryz.func143, Tryz.ntmps143
  go_wp2_with fail
  rw [← hW0]
  clear hW0
  rename_i K0 hK0
  refine wp_region_grow_last (by kernel_rfl) rfl rfl (by kernel_rfl) ?_
  refine' Grow.stepC _ rfl ?_ ?_
  rotate_left 1
  · refine Obl.plain rfl ?_
    intro ac wg K hsz hW hf hK; clear hsz
    have e2 := hf 2 (by decide)
    simp [slotFact, List.lookup] at e2
    clear hf
    go_simp
    refine hK _ _ (Below.refl _ _) ?_
    with_reducible rfl
  refine' Grow.stepC _ rfl ?_ ?_
  rotate_left 1
  · refine Obl.plain rfl ?_
    intro ac wg K hsz hW hf hK; clear hsz
    have e7 := hf 7 (by decide)
    simp [slotFact, List.lookup] at e7
    clear hf
    have gk := (hW.block _ (lt_of_some GK.out)).trans GK.out
    have k0 : wg.cell? ⟨w.heap.size, 0, none⟩ = some (.slice (some ⟨b1, o1, none⟩) l1 y1) := cellK gk 0
    have k1 : wg.cell? ⟨w.heap.size, 1, none⟩ = some (.slice a2 l2 y2) := cellK gk 1
    have k2 : wg.cell? ⟨w.heap.size, 2, none⟩ = some (.slice a3 l3 y3) := cellK gk 2
    have k3 : wg.cell? ⟨w.heap.size, 3, none⟩ = some (.slice a4 l4 y4) := cellK gk 3
    have k4 : wg.cell? ⟨w.heap.size, 4, none⟩ = some (.slice a5 l5 y5) := cellK gk 4
    have k5 : wg.cell? ⟨w.heap.size, 5, none⟩ = some (.int .i64 c.now) := cellK gk 5
    clear gk
    go_simp
    refine hK _ _ (Below.refl _ _) ?_
    with_reducible rfl
  refine' Grow.stepC _ rfl ?_ ?_
  rotate_left 1
  · refine Obl.plain rfl ?_
    intro ac wg K hsz hW hf hK; clear hsz
    have e2 := hf 2 (by decide)
    simp [slotFact, List.lookup] at e2
    clear hf
    have gk := (hW.block _ (lt_of_some GK.out)).trans GK.out
    have k0 : wg.cell? ⟨w.heap.size, 0, none⟩ = some (.slice (some ⟨b1, o1, none⟩) l1 y1) := cellK gk 0
    have k1 : wg.cell? ⟨w.heap.size, 1, none⟩ = some (.slice a2 l2 y2) := cellK gk 1
    have k2 : wg.cell? ⟨w.heap.size, 2, none⟩ = some (.slice a3 l3 y3) := cellK gk 2
    have k3 : wg.cell? ⟨w.heap.size, 3, none⟩ = some (.slice a4 l4 y4) := cellK gk 3
    have k4 : wg.cell? ⟨w.heap.size, 4, none⟩ = some (.slice a5 l5 y5) := cellK gk 4
    have k5 : wg.cell? ⟨w.heap.size, 5, none⟩ = some (.int .i64 c.now) := cellK gk 5
    clear gk
    go_simp
    refine hK _ _ (Below.refl _ _) ?_
    with_reducible rfl
  refine' Grow.stepC _ rfl ?_ ?_
  rotate_left 1
  · refine Obl.plain rfl ?_
    intro ac wg K hsz hW hf hK; clear hsz
    have e3 := hf 3 (by decide)
    simp [slotFact, List.lookup] at e3
    clear hf
    go_simp
    refine hK _ _ (Below.refl _ _) ?_
    with_reducible rfl
  refine' Grow.stepC _ rfl ?_ ?_
  rotate_left 1
  · refine Obl.plain rfl ?_
    intro ac wg K hsz hW hf hK; clear hsz
    have e10 := hf 10 (by decide)
    simp [slotFact, List.lookup] at e10
    clear hf
    have gr := (hW.block _ (lt_of_some GP.out)).trans GP.out
    have r0 : wg.cell? ⟨w.heap.size + 1, 0, none⟩ = some (.string p.n) := cellK gr 0
    have r1 : wg.cell? ⟨w.heap.size + 1, 1, none⟩ = some (.int .i64 p.c) := cellK gr 1
    have r2 : wg.cell? ⟨w.heap.size + 1, 2, none⟩ = some (.string p.z) := cellK gr 2
    have r3 : wg.cell? ⟨w.heap.size + 1, 3, none⟩ = some (.slice pa pl pc) := cellK gr 3
    have r4 : wg.cell? ⟨w.heap.size + 1, 4, none⟩ = some (.string p.d) := cellK gr 4
    have r5 : wg.cell? ⟨w.heap.size + 1, 5, none⟩ = some (.int .i64 p.p) := cellK gr 5
    clear gr
    go_simp
    refine hK _ _ (Below.refl _ _) ?_
    with_reducible rfl
  refine' Grow.stepC (.int .i64 j1) rfl ?_ ?_
  · refine Obl.plain rfl ?_
    intro ac wg K hsz hW hf hK; clear hsz
    have e9 := hf 9 (by decide)
    simp [slotFact, List.lookup] at e9
    have e11 := hf 11 (by decide)
    simp [slotFact, List.lookup] at e11
    clear hf
    go_simp
    refine (sxnd_hit ⟨(some ⟨b1, o1, none⟩), l1, y1, a2, l2, y2, a3, l3, y3, a4, l4, y4, a5, l5, y5⟩ c.now c.ns p.d _ (HR.out.n.below (BW.out.trans (hW.mono BW.out.size))) HNR.out HJn.out HNn.out).mono ?_
    rintro e w5 ⟨rfl, hb5⟩
    exact hK _ _ hb5 rfl
  refine' Grow.stepC _ rfl ?_ ?_
  rotate_left 1
  · refine Obl.plain rfl ?_
    intro ac wg K hsz hW hf hK; clear hsz
    have e8 := hf 8 (by decide)
    simp [slotFact, List.lookup] at e8
    have e12 := hf 12 (by decide)
    simp [slotFact, List.lookup] at e12
    clear hf
    go_simp
    refine hK _ _ (Below.refl _ _) ?_
    with_reducible rfl
  refine' Grow.stepC _ rfl ?_ ?_
  rotate_left 1
  · refine Obl.plain rfl ?_
    intro ac wg K hsz hW hf hK; clear hsz
    have e13 := hf 13 (by decide)
    simp [slotFact, List.lookup] at e13
    clear hf
    have hBg := BW.out.trans (hW.mono BW.out.size)
    obtain ⟨d0, d1, d2, d3, d4, d5, d6⟩ := HD.out
    have g0 := (cell_below hBg HBn.out).trans d0
    have g1 := (cell_below hBg HBn.out).trans d1
    have g2 := (cell_below hBg HBn.out).trans d2
    have g3 := (cell_below hBg HBn.out).trans d3
    have g4 := (cell_below hBg HBn.out).trans d4
    have g5 := (cell_below hBg HBn.out).trans d5
    have g6 := (cell_below hBg HBn.out).trans d6
    clear d0 d1 d2 d3 d4 d5 d6 hBg
    go_simp
    refine hK _ _ (Below.refl _ _) ?_
    with_reducible rfl
  refine Grow.step (FreshN W) rfl (FreshN.mono W) ?_ ?_
  · refine Obl.plain rfl ?_
    intro ac wg K hsz hW hf hK; clear hsz
    clear hf
    go_simp
    exact hK _ _ (below1 _ _) ⟨_, rfl, hW.size, Array.getElem?_push_size⟩
  refine Grow.done ?_
  intro q wz hW hf
  simp only [List.forall_mem_cons] at hf
  obtain ⟨⟨g5, h5, hbW, hgb⟩, h14, -⟩ := hf
  have r0 : wz.cell? ⟨g5, 0, none⟩ = some (.string ⟨#[]⟩) := cellK hgb 0
  have r1 : wz.cell? ⟨g5, 1, none⟩ = some (.string ⟨#[]⟩) := cellK hgb 1
  have r2 : wz.cell? ⟨g5, 2, none⟩ = some (.int .i64 0) := cellK hgb 2
  have r3 : wz.cell? ⟨g5, 3, none⟩ = some (.int .i64 0) := cellK hgb 3
  have r4 : wz.cell? ⟨g5, 4, none⟩ = some (.int .i64 0) := cellK hgb 4
  have r5 : wz.cell? ⟨g5, 5, none⟩ = some (.bool false) := cellK hgb 5
  have r6 : wz.cell? ⟨g5, 6, none⟩ = some (.slice none 0 0) := cellK hgb 6
  have f0 : wz.frozen? ⟨g5, 0, none⟩ = false := froK hgb 0
  have f1 : wz.frozen? ⟨g5, 1, none⟩ = false := froK hgb 1
  have f2 : wz.frozen? ⟨g5, 2, none⟩ = false := froK hgb 2
  have f3 : wz.frozen? ⟨g5, 3, none⟩ = false := froK hgb 3
  have f4 : wz.frozen? ⟨g5, 4, none⟩ = false := froK hgb 4
  have f5 : wz.frozen? ⟨g5, 5, none⟩ = false := froK hgb 5
  have f6 : wz.frozen? ⟨g5, 6, none⟩ = false := froK hgb 6
  have GN := hidK (put7N (v0 := .string n.n) (v1 := .string n.z) (v2 := .int .i64 n.c) (v3 := .int .i64 n.s) (v4 := .int .i64 n.u) (v5 := .bool n.d) (v6 := .slice na nl nc) hgb)
  have BN := hidK (set_below7 (v0 := .string n.n) (v1 := .string n.z) (v2 := .int .i64 n.c) (v3 := .int .i64 n.s) (v4 := .int .i64 n.u) (v5 := .bool n.d) (v6 := .slice na nl nc) hbW hW)
  clear hgb hW
  intro K hK
  rw [if_pos (by rfl)]
  simp only [putsAll, List.foldr, Act.put, List.setIfInBounds_toArray, List.set_cons_zero, List.set_cons_succ, h5, h14]
  simp only [List.getLast]
  go_simp
  refine hK _ _ ?_
  refine hK0 _ _ ?_
  clear hK hK0 K K0
  generalize (((((((wz.setCell ⟨g5, 0, none⟩ (.string n.n)).setCell ⟨g5, 1, none⟩ (.string n.z)).setCell ⟨g5, 2, none⟩ (.int .i64 n.c)).setCell ⟨g5, 3, none⟩ (.int .i64 n.s)).setCell ⟨g5, 4, none⟩ (.int .i64 n.u)).setCell ⟨g5, 5, none⟩ (.bool n.d)).setCell ⟨g5, 6, none⟩ (.slice na nl nc)) = Y at GN BN ⊢
  clear r0 f0 r1 f1 r2 f2 r3 f3 r4 f4 r5 f5 r6 f6
  have KV := hidK ((BN.out.block _ (lt_of_some GK.out)).trans GK.out)
  have PVv := hidK ((BN.out.block _ (lt_of_some GP.out)).trans GP.out)
  have BV := hidK (BW.out.trans (BN.out.mono BW.out.size))
  clear GK GP BW BN hbW
  have pp : Y.cell? ⟨w.heap.size + 1, 3, none⟩ = some (.slice pa pl pc) := cellK PVv.out 3
  go_wp2
  clear pp
  go_loopw [6] (fun i wr => ∃ k : Nat, k ≤ pl ∧ i = .int .i64 k ∧ Hid (∀ (j : Nat) t, j < k → p.zs[j]? = some t → ∃ v, IsBd c t v ∧ InL n.zs v.n) ∧ Hid (Below Y.heap.size Y wr)) (fun i _ => pl - (intOf i).toNat)
  case atStart => exact ⟨0, by omega, rfl, fun _ _ h => absurd h (by omega), Below.refl _ _⟩
  case round =>
    obtain ⟨k, hk, rfl, HQ, HBY⟩ := hrel
    have HB := hidK (BV.out.trans (HBY.out.mono BV.out.size))
    have Bk := hidK ((HBY.out.block _ (lt_of_some KV.out)).trans KV.out)
    have Bp := hidK ((HBY.out.block _ (lt_of_some PVv.out)).trans PVv.out)
    have Bn := hidK ((HBY.out.block _ (lt_of_some GN.out)).trans GN.out)
    have pp : wr.cell? ⟨w.heap.size + 1, 3, none⟩ = some (.slice pa pl pc) := cellK Bp.out 3
    by_cases hlt : k < pl
    · obtain ⟨b, o, t, rfl, hb, hxt, hc, hsz⟩ := (HP.out.below HB.out).at hlt
      have HXt := hidK hxt
      clear hxt hsz
      obtain ⟨v, hbd⟩ := HBD.out k t HXt.out
      obtain ⟨j3, hj3⟩ := hbd.at
      have hl3' : j3 < l3 := by have h1 := (List.getElem?_eq_some_iff.1 hj3).1; omega
      obtain ⟨b3, o3, v', rfl, hb3, hv', hat⟩ := vd_at HR.out.v hl3'
      rw [hj3] at hv'
      obtain rfl := Option.some.inj hv'
      obtain ⟨xa, xl, xc, hvr, z0, z2, z3, z5, d0, d1, d2, d3, d4, d5, d6, d7⟩ := vd_cells hat
      have HJ := hidK hj3
      have HDb := hidK hbd
      have hbv : b3 < wr.heap.size := Nat.lt_of_lt_of_le hb3 HB.out.size
      have v0 := (cell_below HB.out hb3).trans d0
      clear hv' hat hvr z0 z2 z3 z5 d0 d1 d2 d3 d4 d5 d6 d7 hj3 hbd hb3
      by_cases hin : InL n.zs v.n
      · have HIn := hidK hin
        clear hin
        have Gk : Hid (wr.heap[w.heap.size]? = some (.cells #[.slice (some ⟨b1, o1, none⟩) l1 y1, .slice a2 l2 y2, .slice (some ⟨b3, o3, none⟩) l3 y3, .slice a4 l4 y4, .slice a5 l5 y5, .int .i64 c.now] 37 (0, 0))) := Bk.out
        have Gp : Hid (wr.heap[w.heap.size + 1]? = some (.cells #[.string p.n, .int .i64 p.c, .string p.z, .slice (some ⟨b, o, none⟩) pl pc, .string p.d, .int .i64 p.p] 76 (0, 0))) := Bp.out
        have Gn : Hid (wr.heap[g5]? = some (.cells #[.string n.n, .string n.z, .int .i64 n.c, .int .i64 n.s, .int .i64 n.u, .bool n.d, .slice na nl nc] 102 (0, 0))) := Bn.out
        have HW := hidK HB.out
        have k0 : ∀ q : Wd wr, q.w.cell? ⟨w.heap.size, 0, none⟩ = some (.slice (some ⟨b1, o1, none⟩) l1 y1) := fun q => q.slot Gk.out rfl
        have k1 : ∀ q : Wd wr, q.w.cell? ⟨w.heap.size, 1, none⟩ = some (.slice a2 l2 y2) := fun q => q.slot Gk.out rfl
        have k2 : ∀ q : Wd wr, q.w.cell? ⟨w.heap.size, 2, none⟩ = some (.slice (some ⟨b3, o3, none⟩) l3 y3) := fun q => q.slot Gk.out rfl
        have k3 : ∀ q : Wd wr, q.w.cell? ⟨w.heap.size, 3, none⟩ = some (.slice a4 l4 y4) := fun q => q.slot Gk.out rfl
        have k4 : ∀ q : Wd wr, q.w.cell? ⟨w.heap.size, 4, none⟩ = some (.slice a5 l5 y5) := fun q => q.slot Gk.out rfl
        have k5 : ∀ q : Wd wr, q.w.cell? ⟨w.heap.size, 5, none⟩ = some (.int .i64 c.now) := fun q => q.slot Gk.out rfl
        have p3 : ∀ q : Wd wr, q.w.cell? ⟨w.heap.size + 1, 3, none⟩ = some (.slice (some ⟨b, o, none⟩) pl pc) := fun q => q.slot Gp.out rfl
        have n6 : ∀ q : Wd wr, q.w.cell? ⟨g5, 6, none⟩ = some (.slice na nl nc) := fun q => q.slot Gn.out rfl
        have tw : ∀ q : Wd wr, q.w.cell? ⟨b, o + k, none⟩ = some (.string t) := fun q => (q.cell (hb)).trans (hc)
        have vw : ∀ q : Wd wr, q.w.cell? ⟨b3, o3 + j3 * 8, none⟩ = some (.string v.n) := fun q => (q.cell (hbv)).trans (v0)
        have hne0 := Wd.ne wr
        have HC0 := hidK (fun q : Wd wr => sbind_hit ⟨(some ⟨b1, o1, none⟩), l1, y1, a2, l2, y2, (some ⟨b3, o3, none⟩), l3, y3, a4, l4, y4, a5, l5, y5⟩ c t q.w (HR.out.below (HW.out.trans (q.b.mono HW.out.size))) HX.out HV.out HNE.out HJ.out HDb.out)
        have HC1 := hidK (fun q : Wd wr => (shas_any na nl nc n.zs v.n q.w (HTn.out.below (HW.out.trans (q.b.mono HW.out.size)))).mono (fun _ _ h => BoolB.yes h HIn.out))
        go_wp2_with fail
        refine wp_region_wide (by kernel_rfl) (by kernel_rfl) ?_
        repeat (go_big_quiet_step (first | (go_at_call 128; exact Calls.wide (HC0.out _)) | (go_at_call 130; exact Calls.wide (HC1.out _)) | fail))
        refine wpQuiet_nil ?_
        rintro _ ⟨q2, rfl⟩
        have HB1 := hidK (HW.out.trans (q2.b.mono HW.out.size))
        have Ck := hidK ((q2.b.block _ (lt_of_some Gk.out)).trans Gk.out)
        have Cp := hidK ((q2.b.block _ (lt_of_some Gp.out)).trans Gp.out)
        have Cn := hidK ((q2.b.block _ (lt_of_some Gn.out)).trans Gn.out)
        clear hne0 HW HB HC0 HC1 k0 k1 k2 k3 k4 k5 p3 n6 tw vw Gk Gp Gn Bk Bp Bn pp hb hc hbv v0
        have HB := HB1
        clear HB1
        have Bk := Ck
        clear Ck
        have Bp := Cp
        clear Cp
        have Bn := Cn
        clear Cn
        go_wp2_with fail
        refine ⟨⟨k + 1, by omega, by go_num, fun j s hj hs => ?_, HBY.out.trans (q2.b.mono HBY.out.size)⟩, by simp [intOf]; omega⟩
        by_cases e : j = k
        · subst e
          rw [HXt.out] at hs
          obtain rfl := Option.some.inj hs
          exact ⟨v, HDb.out, HIn.out⟩
        · exact HQ.out j s (by omega) hs
      · have HIn := hidK hin
        clear hin
        have Gk : Hid (wr.heap[w.heap.size]? = some (.cells #[.slice (some ⟨b1, o1, none⟩) l1 y1, .slice a2 l2 y2, .slice (some ⟨b3, o3, none⟩) l3 y3, .slice a4 l4 y4, .slice a5 l5 y5, .int .i64 c.now] 37 (0, 0))) := Bk.out
        have Gp : Hid (wr.heap[w.heap.size + 1]? = some (.cells #[.string p.n, .int .i64 p.c, .string p.z, .slice (some ⟨b, o, none⟩) pl pc, .string p.d, .int .i64 p.p] 76 (0, 0))) := Bp.out
        have Gn : Hid (wr.heap[g5]? = some (.cells #[.string n.n, .string n.z, .int .i64 n.c, .int .i64 n.s, .int .i64 n.u, .bool n.d, .slice na nl nc] 102 (0, 0))) := Bn.out
        have HW := hidK HB.out
        have k0 : ∀ q : Wd wr, q.w.cell? ⟨w.heap.size, 0, none⟩ = some (.slice (some ⟨b1, o1, none⟩) l1 y1) := fun q => q.slot Gk.out rfl
        have k1 : ∀ q : Wd wr, q.w.cell? ⟨w.heap.size, 1, none⟩ = some (.slice a2 l2 y2) := fun q => q.slot Gk.out rfl
        have k2 : ∀ q : Wd wr, q.w.cell? ⟨w.heap.size, 2, none⟩ = some (.slice (some ⟨b3, o3, none⟩) l3 y3) := fun q => q.slot Gk.out rfl
        have k3 : ∀ q : Wd wr, q.w.cell? ⟨w.heap.size, 3, none⟩ = some (.slice a4 l4 y4) := fun q => q.slot Gk.out rfl
        have k4 : ∀ q : Wd wr, q.w.cell? ⟨w.heap.size, 4, none⟩ = some (.slice a5 l5 y5) := fun q => q.slot Gk.out rfl
        have k5 : ∀ q : Wd wr, q.w.cell? ⟨w.heap.size, 5, none⟩ = some (.int .i64 c.now) := fun q => q.slot Gk.out rfl
        have p3 : ∀ q : Wd wr, q.w.cell? ⟨w.heap.size + 1, 3, none⟩ = some (.slice (some ⟨b, o, none⟩) pl pc) := fun q => q.slot Gp.out rfl
        have n6 : ∀ q : Wd wr, q.w.cell? ⟨g5, 6, none⟩ = some (.slice na nl nc) := fun q => q.slot Gn.out rfl
        have tw : ∀ q : Wd wr, q.w.cell? ⟨b, o + k, none⟩ = some (.string t) := fun q => (q.cell (hb)).trans (hc)
        have vw : ∀ q : Wd wr, q.w.cell? ⟨b3, o3 + j3 * 8, none⟩ = some (.string v.n) := fun q => (q.cell (hbv)).trans (v0)
        have hne0 := Wd.ne wr
        have HC0 := hidK (fun q : Wd wr => sbind_hit ⟨(some ⟨b1, o1, none⟩), l1, y1, a2, l2, y2, (some ⟨b3, o3, none⟩), l3, y3, a4, l4, y4, a5, l5, y5⟩ c t q.w (HR.out.below (HW.out.trans (q.b.mono HW.out.size))) HX.out HV.out HNE.out HJ.out HDb.out)
        have HC1 := hidK (fun q : Wd wr => (shas_any na nl nc n.zs v.n q.w (HTn.out.below (HW.out.trans (q.b.mono HW.out.size)))).mono (fun _ _ h => BoolB.no h HIn.out))
        go_wp2_with fail
        refine wp_region_wide (by kernel_rfl) (by kernel_rfl) ?_
        repeat (go_big_quiet_step (first | (go_at_call 128; exact Calls.wide (HC0.out _)) | (go_at_call 130; exact Calls.wide (HC1.out _)) | fail))
        refine wpQuiet_nil ?_
        rintro _ ⟨q2, rfl⟩
        have HB1 := hidK (HW.out.trans (q2.b.mono HW.out.size))
        have Ck := hidK ((q2.b.block _ (lt_of_some Gk.out)).trans Gk.out)
        have Cp := hidK ((q2.b.block _ (lt_of_some Gp.out)).trans Gp.out)
        have Cn := hidK ((q2.b.block _ (lt_of_some Gn.out)).trans Gn.out)
        clear hne0 HW HB HC0 HC1 k0 k1 k2 k3 k4 k5 p3 n6 tw vw Gk Gp Gn Bk Bp Bn pp hb hc hbv v0
        have HB := HB1
        clear HB1
        have Bk := Ck
        clear Ck
        have Bp := Cp
        clear Cp
        have Bn := Cn
        clear Cn
        go_wp2
        go_ret
        refine BoolB.f (fun h => ?_) HB.out
        obtain ⟨v2, e1, e2⟩ := h k t HXt.out
        obtain rfl := IsBd.inj HX.out HV.out HDb.out e1
        exact HIn.out e2
    · obtain rfl : pl = k := by omega
      go_wp2
      go_ret
      exact BoolB.t (fun j t ht => HQ.out j t (by have := (List.getElem?_eq_some_iff.1 ht).1; omega) ht) HB.out

end Rc
end Go.Proofs.YtcljghpfclegmaaGreatDoor
