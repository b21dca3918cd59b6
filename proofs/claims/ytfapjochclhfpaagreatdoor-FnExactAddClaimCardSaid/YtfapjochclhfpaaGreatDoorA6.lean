import Derived.Test.YtfapjochclhfpaaGreatDoorA5
import Derived.Stop.LaidErr
import Derived.ChangeVars
import Derived.Deep.Strs
import Derived.Deep.Fields
import Derived.WideShapes
import Derived.ChangeArms
/-
  The law FnExactAddClaim, walked: it returns true at every argument.
-/
namespace Go.Proofs.YtfapjochclhfpaaGreatDoor
open Go.RowKit Rc Mk

def AddClaimClV (c : Cl) : Fact := fun v w => ∃ d : Ad, v = .agg #[.slice d.a1 d.l1 d.c1, .slice d.a2 d.l2 d.c2, .slice d.a3 d.l3 d.c3, .slice d.a4 d.l4 d.c4, .slice d.a5 d.l5 d.c5, .int .i64 c.now] ∧ ClRow w d c.raw
theorem AddClaimClV.mono (c : Cl) : Fact.Mono (AddClaimClV c) := by
  rintro v w w' ⟨d, h1, h2⟩ hb
  exact ⟨d, h1, h2.below hb⟩

set_option linter.unusedVariables false in
set_option maxRecDepth 100000 in
set_option maxHeartbeats 6400000 in
theorem addClaim_walk (d : Ad) (c : Cl) (x : Xd) (E : Nat → Addr) (w : World) (hr : ClRow w d c.raw) (z0 : x.n.size ≤ 9223372036854775807) (z2 : x.k.size ≤ 9223372036854775807) (z4 : x.v.size ≤ 9223372036854775807) (hG : Ers w E) :
    Calls Tryz.prog 3 #[.agg #[.slice d.a1 d.l1 d.c1, .slice d.a2 d.l2 d.c2, .slice d.a3 d.l3 d.c3, .slice d.a4 d.l4 d.c4, .slice d.a5 d.l5 d.c5, .int .i64 c.now], .agg #[.string x.n, .int .i64 x.z, .string x.k, .bool x.x, .string x.v]] w fun e w' => e = .returned (.bool true) ∧ Below w.heap.size w w' := by
  have HR := hidK hr
  have HE := hidK hG
  have HB := hidK (Below.refl w.heap.size w)
  clear hr hG
  go_enter Tryz.func3, Tryz.ntmps3
  go_wp2_with fail
  refine (szCluster_any d c _ (HR.out.below (HB.out.trans ((below2 _ _ _).mono HB.out.size)))).mono ?_
  rintro e w1 ⟨r, rfl, hi, hb⟩
  obtain ⟨HA0, HA1, hbx⟩ := slots2 hb
  have Bk := hidK HA0
  have By := hidK HA1
  replace HB := upB HB hbx
  clear hb hbx HA0 HA1
  rcases hi with rfl | ⟨hr0, hrm, hft⟩
  · obtain ⟨k0, k1, k2, k3, k4, k5⟩ := cs6 Bk.out
    have ltk_1 := lt_of_some Bk.out
    obtain ⟨y0, y1, y2, y3, y4⟩ := cs5 By.out
    have lty_1 := lt_of_some By.out
    go_wp2
    go_ret
    exact ⟨rfl, HB.out⟩
  have HF := hidK hft
  clear hft
  obtain ⟨k0, k1, k2, k3, k4, k5⟩ := cs6 Bk.out
  have ltk_1 := lt_of_some Bk.out
  obtain ⟨y0, y1, y2, y3, y4⟩ := cs5 By.out
  have lty_1 := lt_of_some By.out
  go_wp2_with fail
  refine (szClaim_any x.n x.z x.k x.x x.v r _ z0 z2 z4 hr0 hrm).mono ?_
  rintro e w2 ⟨r2, rfl, hi, hb⟩
  clear k0 k1 k2 k3 k4 k5 ltk_1 y0 y1 y2 y3 y4 lty_1
  replace Bk := upK Bk hb
  replace By := upK By hb
  replace HB := upB HB hb
  clear hb
  rcases hi with rfl | ⟨hr1, -, -⟩
  · obtain ⟨k0, k1, k2, k3, k4, k5⟩ := cs6 Bk.out
    have ltk_2 := lt_of_some Bk.out
    obtain ⟨y0, y1, y2, y3, y4⟩ := cs5 By.out
    have lty_2 := lt_of_some By.out
    go_wp2
    go_ret
    exact ⟨rfl, HB.out⟩
  clear hr0 hrm
  obtain ⟨k0, k1, k2, k3, k4, k5⟩ := cs6 Bk.out
  have ltk_2 := lt_of_some Bk.out
  obtain ⟨y0, y1, y2, y3, y4⟩ := cs5 By.out
  have lty_2 := lt_of_some By.out
  go_wp2_with fail
  clear k0 k1 k2 k3 k4 k5 ltk_2 y0 y1 y2 y3 y4 lty_2
  rename_i K0 hK0
  refine wp_region_grow_last (by kernel_rfl) rfl rfl (by kernel_rfl) ?_
  refine' Grow.stepC _ rfl ?_ ?_
  rotate_left 1
  · refine Obl.plain rfl ?_
    intro ac wg K hsz hW hf hK; clear hsz
    have e2 := hf 2 (by decide)
    simp [slotFact, List.lookup] at e2
    clear hf
    obtain ⟨k0, k1, k2, k3, k4, k5⟩ := cs6 ((hW.block _ (lt_of_some Bk.out)).trans Bk.out)
    go_simp
    refine hK _ _ (Below.refl _ _) ?_
    with_reducible rfl
  refine Grow.step (AddClaimClV c) rfl (AddClaimClV.mono c) ?_ ?_
  · refine Obl.plain rfl ?_
    intro ac wg K hsz hW hf hK; clear hsz
    have e23 := hf 23 (by decide)
    simp [slotFact, List.lookup] at e23
    clear hf
    go_simp
    refine (toCluster_any d c _ (HR.out.below (HB.out.trans (hW.mono HB.out.size))) HF.out).mono ?_
    rintro e w6 ⟨d3, rfl, ho, hb6⟩
    exact hK _ _ hb6 ⟨d3, rfl, ho.row⟩
  refine' Grow.stepC _ rfl ?_ ?_
  rotate_left 1
  · refine Obl.plain rfl ?_
    intro ac wg K hsz hW hf hK; clear hsz
    have e3 := hf 3 (by decide)
    simp [slotFact, List.lookup] at e3
    clear hf
    obtain ⟨y0, y1, y2, y3, y4⟩ := cs5 ((hW.block _ (lt_of_some By.out)).trans By.out)
    go_simp
    refine hK _ _ (Below.refl _ _) ?_
    with_reducible rfl
  refine' Grow.stepC (.agg #[.string x.n, .int .i64 x.z, .string x.k, .bool x.x, .string x.v]) rfl ?_ ?_
  · refine Obl.plain rfl ?_
    intro ac wg K hsz hW hf hK; clear hsz
    have e25 := hf 25 (by decide)
    simp [slotFact, List.lookup] at e25
    clear hf
    go_simp
    refine (toClaim_any x.n x.z x.k x.x x.v _).mono ?_
    rintro e w6 ⟨rfl, hb6⟩
    exact hK _ _ hb6 rfl
  refine Grow.step (AnsF (AddClaimIs c x)) rfl (AnsF.mono _) ?_ ?_
  · refine Obl.plain rfl ?_
    intro ac wg K hsz hW hf hK; clear hsz
    have e24 := hf 24 (by decide)
    simp [slotFact, List.lookup] at e24
    have e26 := hf 26 (by decide)
    simp [slotFact, List.lookup] at e26
    clear hf
    obtain ⟨d3, e24, hrow⟩ := e24
    go_simp
    refine (saddX_any d3 c x _ hrow z0 z2 z4).mono ?_
    rintro e w6 ⟨dg, o, rfl, hI, ho, hb6⟩
    exact hK _ _ hb6 ⟨dg, o, rfl, hI, ho⟩
  refine Grow.step (BoxF w2.heap.size) rfl (BoxF.mono _) ?_ ?_
  · refine Obl.plain rfl ?_
    intro ac wg K hsz hW hf hK; clear hsz
    clear hf
    go_simp
    exact hK _ _ (below1 _ _) ⟨_, rfl, hW.size, Array.getElem?_push_size⟩
  refine Grow.done ?_
  intro q wz hW hf
  simp only [List.forall_mem_cons] at hf
  obtain ⟨⟨b6, h6, hb6, hg6⟩, ⟨dg0, o, h27, hIS, hR0⟩, -⟩ := hf
  obtain ⟨t0, t1, t2, t3, t4, t5, t6, t7⟩ := cs8 hg6
  have f0 := froK hg6 0
  have f1 := froK hg6 1
  have f2 := froK hg6 2
  have f3 := froK hg6 3
  have f4 := froK hg6 4
  have f5 := froK hg6 5
  have f6 := froK hg6 6
  have f7 := froK hg6 7
  have Ba := hidK (put8 (v0 := .slice dg0.a1 dg0.l1 dg0.c1) (v1 := .slice dg0.a2 dg0.l2 dg0.c2) (v2 := .slice dg0.a3 dg0.l3 dg0.c3) (v3 := .slice dg0.a4 dg0.l4 dg0.c4) (v4 := .slice dg0.a5 dg0.l5 dg0.c5) (v5 := .int .i64 o.c.now) (v6 := .string o.n) (v7 := .int .i64 o.p) hg6)
  have HWX : Hid (Below w2.heap.size w2 ((((((((wz.setCell ⟨b6, 0, none⟩ (.slice dg0.a1 dg0.l1 dg0.c1)).setCell ⟨b6, 1, none⟩ (.slice dg0.a2 dg0.l2 dg0.c2)).setCell ⟨b6, 2, none⟩ (.slice dg0.a3 dg0.l3 dg0.c3)).setCell ⟨b6, 3, none⟩ (.slice dg0.a4 dg0.l4 dg0.c4)).setCell ⟨b6, 4, none⟩ (.slice dg0.a5 dg0.l5 dg0.c5)).setCell ⟨b6, 5, none⟩ (.int .i64 o.c.now)).setCell ⟨b6, 6, none⟩ (.string o.n)).setCell ⟨b6, 7, none⟩ (.int .i64 o.p))) := set_below hb6 (set_below hb6 (set_below hb6 (set_below hb6 (set_below hb6 (set_below hb6 (set_below hb6 (set_below hb6 (hW))))))))
  have R0 : Hid (ClFr ((((((((wz.setCell ⟨b6, 0, none⟩ (.slice dg0.a1 dg0.l1 dg0.c1)).setCell ⟨b6, 1, none⟩ (.slice dg0.a2 dg0.l2 dg0.c2)).setCell ⟨b6, 2, none⟩ (.slice dg0.a3 dg0.l3 dg0.c3)).setCell ⟨b6, 3, none⟩ (.slice dg0.a4 dg0.l4 dg0.c4)).setCell ⟨b6, 4, none⟩ (.slice dg0.a5 dg0.l5 dg0.c5)).setCell ⟨b6, 5, none⟩ (.int .i64 o.c.now)).setCell ⟨b6, 6, none⟩ (.string o.n)).setCell ⟨b6, 7, none⟩ (.int .i64 o.p)) dg0 o.c.raw (fun _ => True)) := hR0.past hg6 (fun k hk => put8_ne hk)
  have HIS := hidK hIS
  have hsz6 : wz.heap.size ≤ ((((((((wz.setCell ⟨b6, 0, none⟩ (.slice dg0.a1 dg0.l1 dg0.c1)).setCell ⟨b6, 1, none⟩ (.slice dg0.a2 dg0.l2 dg0.c2)).setCell ⟨b6, 2, none⟩ (.slice dg0.a3 dg0.l3 dg0.c3)).setCell ⟨b6, 3, none⟩ (.slice dg0.a4 dg0.l4 dg0.c4)).setCell ⟨b6, 4, none⟩ (.slice dg0.a5 dg0.l5 dg0.c5)).setCell ⟨b6, 5, none⟩ (.int .i64 o.c.now)).setCell ⟨b6, 6, none⟩ (.string o.n)).setCell ⟨b6, 7, none⟩ (.int .i64 o.p)).heap.size := by simp [World.setCell]
  clear hg6 hIS hR0
  intro K hK
  rw [if_pos (by rfl)]
  simp only [putsAll, List.foldr, Act.put, List.setIfInBounds_toArray, List.set_cons_zero, List.set_cons_succ, h6, h27]
  simp only [List.getLast]
  go_simp
  refine hK _ _ ?_
  refine hK0 _ _ ?_
  clear hK hK0 K K0
  generalize ((((((((wz.setCell ⟨b6, 0, none⟩ (.slice dg0.a1 dg0.l1 dg0.c1)).setCell ⟨b6, 1, none⟩ (.slice dg0.a2 dg0.l2 dg0.c2)).setCell ⟨b6, 2, none⟩ (.slice dg0.a3 dg0.l3 dg0.c3)).setCell ⟨b6, 3, none⟩ (.slice dg0.a4 dg0.l4 dg0.c4)).setCell ⟨b6, 4, none⟩ (.slice dg0.a5 dg0.l5 dg0.c5)).setCell ⟨b6, 5, none⟩ (.int .i64 o.c.now)).setCell ⟨b6, 6, none⟩ (.string o.n)).setCell ⟨b6, 7, none⟩ (.int .i64 o.p)) = X3 at Ba HWX R0 ⊢
  clear t0 t1 t2 t3 t4 t5 t6 t7 f0 f1 f2 f3 f4 f5 f6 f7 hsz6
  have HB3 := hidK (HB.out.trans (HWX.out.mono HB.out.size))
  replace Bk := hidK ((HWX.out.block _ (lt_of_some Bk.out)).trans Bk.out)
  replace By := hidK ((HWX.out.block _ (lt_of_some By.out)).trans By.out)
  clear HB hW
  have HB := HB3
  clear HB3 HWX
  have RR := hidK R0.out.row
  clear R0
  have HY := hidK (Bw.refl X3)
  have HQ3 : Hid (w.heap.size + 1 < X3.heap.size) := lt_of_some By.out
  have HQ6 : Hid (b6 < X3.heap.size) := lt_of_some Ba.out
  obtain ⟨k0, k1, k2, k3, k4, k5⟩ := cs6 Bk.out
  have ltk_2 := lt_of_some Bk.out
  go_wp2_with fail
  refine (toCluster_any d c _ (HR.out.below HB.out) HF.out).mono ?_
  rintro e w4 ⟨d2, rfl, ho, hb⟩
  clear k0 k1 k2 k3 k4 k5 ltk_2
  replace Bk := upK Bk hb
  replace By := upK By hb
  replace Ba := upK Ba hb
  replace HY := hidK (HY.out.below hb)
  replace HB := upB HB hb
  clear hb
  have HQ4 : Hid (X3.heap.size ≤ w4.heap.size) := by have := HY.out.le; show X3.heap.size ≤ _; omega
  have HO2 := hidK (ho.into (S' := fun k => X3.heap.size ≤ k ∧ k < w4.heap.size) (fun k hk s => ⟨s, hk⟩))
  clear ho
  obtain ⟨k0, k1, k2, k3, k4, k5⟩ := cs6 Bk.out
  have ltk_3 := lt_of_some Bk.out
  obtain ⟨y0, y1, y2, y3, y4⟩ := cs5 By.out
  have lty_3 := lt_of_some By.out
  obtain ⟨a0, a1, a2, a3, a4, a5, a6, a7⟩ := cs8 Ba.out
  have lta_3 := lt_of_some Ba.out
  go_wp2_with fail
  obtain ⟨W, hW0⟩ : ∃ W, W = w4.alloc (.cells #[.slice d2.a1 d2.l1 d2.c1, .slice d2.a2 d2.l2 d2.c2, .slice d2.a3 d2.l3 d2.c3, .slice d2.a4 d2.l4 d2.c4, .slice d2.a5 d2.l5 d2.c5, .int .i64 c.now] 39) := ⟨_, rfl⟩
  have hb : Below (w4.alloc (.cells #[.slice d2.a1 d2.l1 d2.c1, .slice d2.a2 d2.l2 d2.c2, .slice d2.a3 d2.l3 d2.c3, .slice d2.a4 d2.l4 d2.c4, .slice d2.a5 d2.l5 d2.c5, .int .i64 c.now] 39)).heap.size (w4.alloc (.cells #[.slice d2.a1 d2.l1 d2.c1, .slice d2.a2 d2.l2 d2.c2, .slice d2.a3 d2.l3 d2.c3, .slice d2.a4 d2.l4 d2.c4, .slice d2.a5 d2.l5 d2.c5, .int .i64 c.now] 39)) W := by rw [hW0]; exact Below.refl _ _
  rw [← hW0]
  clear hW0
  clear k0 k1 k2 k3 k4 k5 ltk_3 y0 y1 y2 y3 y4 lty_3 a0 a1 a2 a3 a4 a5 a6 a7 lta_3
  obtain ⟨HA0, hbx⟩ := slots1 hb
  replace Bk := upK Bk hbx
  replace By := upK By hbx
  replace Ba := upK Ba hbx
  have Bx := hidK HA0
  replace HY := hidK (HY.out.below hbx)
  replace HO2 := hidK (HO2.out.below hbx)
  replace HB := upB HB hbx
  clear hb hbx HA0
  rename_i K0 hK0
  refine wp_region_grow_last (by kernel_rfl) rfl rfl (by kernel_rfl) ?_
  refine' Grow.stepC _ rfl ?_ ?_
  rotate_left 1
  · refine Obl.plain rfl ?_
    intro ac wg K hsz hW hf hK; clear hsz
    have e7 := hf 7 (by decide)
    simp [slotFact, List.lookup] at e7
    clear hf
    obtain ⟨k0, k1, k2, k3, k4, k5⟩ := cs6 ((hW.block _ (lt_of_some Bx.out)).trans Bx.out)
    go_simp
    refine hK _ _ (Below.refl _ _) ?_
    with_reducible rfl
  refine' Grow.stepC _ rfl ?_ ?_
  rotate_left 1
  · refine Obl.plain rfl ?_
    intro ac wg K hsz hW hf hK; clear hsz
    have e3 := hf 3 (by decide)
    simp [slotFact, List.lookup] at e3
    clear hf
    obtain ⟨y0, y1, y2, y3, y4⟩ := cs5 ((hW.block _ (lt_of_some By.out)).trans By.out)
    go_simp
    refine hK _ _ (Below.refl _ _) ?_
    with_reducible rfl
  refine' Grow.stepC (.agg #[.string x.n, .int .i64 x.z, .string x.k, .bool x.x, .string x.v]) rfl ?_ ?_
  · refine Obl.plain rfl ?_
    intro ac wg K hsz hW hf hK; clear hsz
    have e31 := hf 31 (by decide)
    simp [slotFact, List.lookup] at e31
    clear hf
    go_simp
    refine (toClaim_any x.n x.z x.k x.x x.v _).mono ?_
    rintro e w6 ⟨rfl, hb6⟩
    exact hK _ _ hb6 rfl
  refine Grow.step (OwF W.heap.size (AddClaimIs c x)) rfl (OwF.mono _ _) ?_ ?_
  · refine Obl.plain rfl ?_
    intro ac wg K hsz hW hf hK; clear hsz
    have e30 := hf 30 (by decide)
    simp [slotFact, List.lookup] at e30
    have e32 := hf 32 (by decide)
    simp [slotFact, List.lookup] at e32
    clear hf
    go_simp
    refine (iaddX_any d2 c x E _ (HO2.out.row.below hW) (HE.out.below (HB.out.trans (hW.mono HB.out.size))) z0 z2 z4).mono ?_
    rintro e w6 ⟨dg, o1, rfl, hI, ho, hb6⟩
    exact hK _ _ hb6 ⟨dg, o1, rfl, hI, ho.into (fun k _ s => Nat.le_trans hW.size s)⟩
  refine Grow.step (BoxF W.heap.size) rfl (BoxF.mono _) ?_ ?_
  · refine Obl.plain rfl ?_
    intro ac wg K hsz hW hf hK; clear hsz
    clear hf
    go_simp
    exact hK _ _ (below1 _ _) ⟨_, rfl, hW.size, Array.getElem?_push_size⟩
  refine Grow.done ?_
  intro q wz hW hf
  simp only [List.forall_mem_cons] at hf
  obtain ⟨⟨b8, h8, hb8, hg8⟩, ⟨dg1, o1, h33, hI1, hO1⟩, -⟩ := hf
  obtain rfl := HIS.out.same hI1
  obtain ⟨t0, t1, t2, t3, t4, t5, t6, t7⟩ := cs8 hg8
  have f0 := froK hg8 0
  have f1 := froK hg8 1
  have f2 := froK hg8 2
  have f3 := froK hg8 3
  have f4 := froK hg8 4
  have f5 := froK hg8 5
  have f6 := froK hg8 6
  have f7 := froK hg8 7
  have Bg := hidK (put8 (v0 := .slice dg1.a1 dg1.l1 dg1.c1) (v1 := .slice dg1.a2 dg1.l2 dg1.c2) (v2 := .slice dg1.a3 dg1.l3 dg1.c3) (v3 := .slice dg1.a4 dg1.l4 dg1.c4) (v4 := .slice dg1.a5 dg1.l5 dg1.c5) (v5 := .int .i64 o.c.now) (v6 := .string o.n) (v7 := .int .i64 o.p) hg8)
  have HWX : Hid (Below W.heap.size W ((((((((wz.setCell ⟨b8, 0, none⟩ (.slice dg1.a1 dg1.l1 dg1.c1)).setCell ⟨b8, 1, none⟩ (.slice dg1.a2 dg1.l2 dg1.c2)).setCell ⟨b8, 2, none⟩ (.slice dg1.a3 dg1.l3 dg1.c3)).setCell ⟨b8, 3, none⟩ (.slice dg1.a4 dg1.l4 dg1.c4)).setCell ⟨b8, 4, none⟩ (.slice dg1.a5 dg1.l5 dg1.c5)).setCell ⟨b8, 5, none⟩ (.int .i64 o.c.now)).setCell ⟨b8, 6, none⟩ (.string o.n)).setCell ⟨b8, 7, none⟩ (.int .i64 o.p))) := set_below hb8 (set_below hb8 (set_below hb8 (set_below hb8 (set_below hb8 (set_below hb8 (set_below hb8 (set_below hb8 (hW))))))))
  have hsz8 : ((((((((wz.setCell ⟨b8, 0, none⟩ (.slice dg1.a1 dg1.l1 dg1.c1)).setCell ⟨b8, 1, none⟩ (.slice dg1.a2 dg1.l2 dg1.c2)).setCell ⟨b8, 2, none⟩ (.slice dg1.a3 dg1.l3 dg1.c3)).setCell ⟨b8, 3, none⟩ (.slice dg1.a4 dg1.l4 dg1.c4)).setCell ⟨b8, 4, none⟩ (.slice dg1.a5 dg1.l5 dg1.c5)).setCell ⟨b8, 5, none⟩ (.int .i64 o.c.now)).setCell ⟨b8, 6, none⟩ (.string o.n)).setCell ⟨b8, 7, none⟩ (.int .i64 o.p)).heap.size = wz.heap.size := by simp [World.setCell]
  have HO1 : Hid (ClOwn ((((((((wz.setCell ⟨b8, 0, none⟩ (.slice dg1.a1 dg1.l1 dg1.c1)).setCell ⟨b8, 1, none⟩ (.slice dg1.a2 dg1.l2 dg1.c2)).setCell ⟨b8, 2, none⟩ (.slice dg1.a3 dg1.l3 dg1.c3)).setCell ⟨b8, 3, none⟩ (.slice dg1.a4 dg1.l4 dg1.c4)).setCell ⟨b8, 4, none⟩ (.slice dg1.a5 dg1.l5 dg1.c5)).setCell ⟨b8, 5, none⟩ (.int .i64 o.c.now)).setCell ⟨b8, 6, none⟩ (.string o.n)).setCell ⟨b8, 7, none⟩ (.int .i64 o.p)) dg1 o.c.raw (fun k => (W.heap.size ≤ k ∧ ¬ k = b8) ∧ k < ((((((((wz.setCell ⟨b8, 0, none⟩ (.slice dg1.a1 dg1.l1 dg1.c1)).setCell ⟨b8, 1, none⟩ (.slice dg1.a2 dg1.l2 dg1.c2)).setCell ⟨b8, 2, none⟩ (.slice dg1.a3 dg1.l3 dg1.c3)).setCell ⟨b8, 3, none⟩ (.slice dg1.a4 dg1.l4 dg1.c4)).setCell ⟨b8, 4, none⟩ (.slice dg1.a5 dg1.l5 dg1.c5)).setCell ⟨b8, 5, none⟩ (.int .i64 o.c.now)).setCell ⟨b8, 6, none⟩ (.string o.n)).setCell ⟨b8, 7, none⟩ (.int .i64 o.p)).heap.size)) := by
    obtain ⟨P, hP⟩ := hO1.away hg8
    exact ⟨P, hP.keep (fun k _ s => put8_ne s.2) (fun k hk s => ⟨s, by rw [hsz8]; exact hk⟩)⟩
  have HB8 : Hid (W.heap.size ≤ b8) := hb8
  clear hg8 hI1 hO1 hsz8
  intro K hK
  rw [if_pos (by rfl)]
  simp only [putsAll, List.foldr, Act.put, List.setIfInBounds_toArray, List.set_cons_zero, List.set_cons_succ, h8, h33]
  simp only [List.getLast]
  go_simp
  refine hK _ _ ?_
  refine hK0 _ _ ?_
  clear hK hK0 K K0
  generalize ((((((((wz.setCell ⟨b8, 0, none⟩ (.slice dg1.a1 dg1.l1 dg1.c1)).setCell ⟨b8, 1, none⟩ (.slice dg1.a2 dg1.l2 dg1.c2)).setCell ⟨b8, 2, none⟩ (.slice dg1.a3 dg1.l3 dg1.c3)).setCell ⟨b8, 3, none⟩ (.slice dg1.a4 dg1.l4 dg1.c4)).setCell ⟨b8, 4, none⟩ (.slice dg1.a5 dg1.l5 dg1.c5)).setCell ⟨b8, 5, none⟩ (.int .i64 o.c.now)).setCell ⟨b8, 6, none⟩ (.string o.n)).setCell ⟨b8, 7, none⟩ (.int .i64 o.p)) = X5 at Bg HWX HO1 ⊢
  clear t0 t1 t2 t3 t4 t5 t6 t7 f0 f1 f2 f3 f4 f5 f6 f7 hW hb8
  have hb := HWX.out
  have HQW : Hid (w4.heap.size < W.heap.size) := lt_of_some Bx.out
  replace Bk := upK Bk hb
  replace By := upK By hb
  replace Ba := upK Ba hb
  replace Bx := upK Bx hb
  replace HY := hidK (HY.out.below hb)
  replace HO2 := hidK (HO2.out.below hb)
  replace HB := upB HB hb
  clear hb
  clear HWX
  have HQ5 : Hid (W.heap.size ≤ X5.heap.size) := by have := lt_of_some Bg.out; have := HB8.out; show W.heap.size ≤ _; omega
  have HZ : Hid (X5.heap.size ≤ X5.heap.size) := Nat.le_refl _
  have hlz : mkCn 1 o.c.raw ≤ 1152921504606846976 := HIS.out.marks HF.out
  have HH := hidK (fun (W : World) (hr : ClRow W dg1 (mkC 1 o.c.raw)) => heldCout_any dg1 o 1 W hr (by decide) hlz)
  obtain ⟨M, hM⟩ : ∃ M : Int, M = mkCn 1 o.c.raw := ⟨_, rfl⟩
  have hM0 : (0 : Int) < M := by rw [hM]; have := mkCn_ge 1 o.c.raw; omega
  rw [← hM] at HH
  have HMM := hidK hM
  clear hM
  obtain ⟨k0, k1, k2, k3, k4, k5⟩ := cs6 Bk.out
  have ltk_5 := lt_of_some Bk.out
  obtain ⟨y0, y1, y2, y3, y4⟩ := cs5 By.out
  have lty_5 := lt_of_some By.out
  obtain ⟨a0, a1, a2, a3, a4, a5, a6, a7⟩ := cs8 Ba.out
  have lta_5 := lt_of_some Ba.out
  obtain ⟨x0, x1, x2, x3, x4, x5⟩ := cs6 Bx.out
  have ltx_5 := lt_of_some Bx.out
  obtain ⟨g0, g1, g2, g3, g4, g5, g6, g7⟩ := cs8 Bg.out
  have ltg_5 := lt_of_some Bg.out
  go_wp2_with fail
  refine (eqCout_any dg1 dg0 o _ (HO1.out.row) (RR.out.below HY.out.out)).mono ?_
  rintro e v6 ⟨rfl, hb⟩
  replace HZ : Hid (X5.heap.size ≤ v6.heap.size) := Nat.le_trans HZ.out hb.size
  clear k0 k1 k2 k3 k4 k5 ltk_5 y0 y1 y2 y3 y4 lty_5 a0 a1 a2 a3 a4 a5 a6 a7 lta_5 x0 x1 x2 x3 x4 x5 ltx_5 g0 g1 g2 g3 g4 g5 g6 g7 ltg_5
  replace Bk := upK Bk hb
  replace By := upK By hb
  replace Ba := upK Ba hb
  replace Bx := upK Bx hb
  replace Bg := upK Bg hb
  replace HY := hidK (HY.out.below hb)
  replace HO2 := hidK (HO2.out.below hb)
  replace HO1 := hidK (HO1.out.below hb)
  replace HB := upB HB hb
  clear hb
  go_wp2_with fail
  rename_i K0 hK0
  refine wp_region_grow (back := none) (by kernel_rfl) (List.append_nil _).symm (by kernel_rfl) ?_
  refine' Grow.stepC _ rfl ?_ ?_
  rotate_left 1
  · refine Obl.plain rfl ?_
    intro ac wg K hsz hW hf hK; clear hsz
    have e7 := hf 7 (by decide)
    simp [slotFact, List.lookup] at e7
    clear hf
    obtain ⟨k0, k1, k2, k3, k4, k5⟩ := cs6 ((hW.block _ (lt_of_some Bx.out)).trans Bx.out)
    go_simp
    refine hK _ _ (Below.refl _ _) ?_
    with_reducible rfl
  refine' Grow.stepC _ rfl ?_ ?_
  rotate_left 1
  · refine Obl.plain rfl ?_
    intro ac wg K hsz hW hf hK; clear hsz
    have e2 := hf 2 (by decide)
    simp [slotFact, List.lookup] at e2
    clear hf
    obtain ⟨k0, k1, k2, k3, k4, k5⟩ := cs6 ((hW.block _ (lt_of_some Bk.out)).trans Bk.out)
    go_simp
    refine hK _ _ (Below.refl _ _) ?_
    with_reducible rfl
  refine Grow.step (AddClaimClV c) rfl (AddClaimClV.mono c) ?_ ?_
  · refine Obl.plain rfl ?_
    intro ac wg K hsz hW hf hK; clear hsz
    have e39 := hf 39 (by decide)
    simp [slotFact, List.lookup] at e39
    clear hf
    go_simp
    refine (toCluster_any d c _ (HR.out.below (HB.out.trans (hW.mono HB.out.size))) HF.out).mono ?_
    rintro e w6 ⟨d3, rfl, ho, hb6⟩
    exact hK _ _ hb6 ⟨d3, rfl, ho.row⟩
  refine' Grow.stepC (.bool true) rfl ?_ ?_
  · refine Obl.plain rfl ?_
    intro ac wg K hsz hW hf hK; clear hsz
    have e38 := hf 38 (by decide)
    simp [slotFact, List.lookup] at e38
    have e40 := hf 40 (by decide)
    simp [slotFact, List.lookup] at e40
    obtain ⟨d3, e40, hrow⟩ := e40
    clear hf
    go_simp
    refine (eqCluster_any d2 d3 c _ (HO2.out.row.below hW) hrow).mono ?_
    rintro e w6 ⟨rfl, hb6⟩
    exact hK _ _ hb6 rfl
  refine' Grow.stepC _ rfl ?_ ?_
  rotate_left 1
  · refine Obl.plain rfl ?_
    intro ac wg K hsz hW hf hK; clear hsz
    have e41 := hf 41 (by decide)
    simp [slotFact, List.lookup] at e41
    clear hf
    go_simp
    refine hK _ _ (Below.refl _ _) ?_
    with_reducible rfl
  refine Grow.done ?_
  intro q wz hW hf
  simp only [List.forall_mem_cons] at hf
  obtain ⟨h42, -⟩ := hf
  have hb := hW
  refine hK0 _ _ ?_
  simp only [putsAll, List.foldr, Act.put, List.setIfInBounds_toArray, List.set_cons_zero, List.set_cons_succ, h42]
  clear hK0
  replace HZ : Hid (X5.heap.size ≤ wz.heap.size) := Nat.le_trans HZ.out hb.size
  replace Bk := upK Bk hb
  replace By := upK By hb
  replace Ba := upK Ba hb
  replace Bx := upK Bx hb
  replace Bg := upK Bg hb
  replace HY := hidK (HY.out.below hb)
  replace HO2 := hidK (HO2.out.below hb)
  replace HO1 := hidK (HO1.out.below hb)
  replace HB := upB HB hb
  clear hb
  clear hW
  obtain ⟨rk, hrk⟩ : ∃ r : Int, r = mkCn 1 c.raw := ⟨_, rfl⟩
  have hrk0 : decide (rk < 0) = false := by rw [decide_eq_false_iff_not, hrk]; have := mkCn_ge 1 c.raw; omega
  obtain ⟨k0, k1, k2, k3, k4, k5⟩ := cs6 Bk.out
  have ltk_7 := lt_of_some Bk.out
  obtain ⟨y0, y1, y2, y3, y4⟩ := cs5 By.out
  have lty_7 := lt_of_some By.out
  obtain ⟨a0, a1, a2, a3, a4, a5, a6, a7⟩ := cs8 Ba.out
  have lta_7 := lt_of_some Ba.out
  obtain ⟨x0, x1, x2, x3, x4, x5⟩ := cs6 Bx.out
  have ltx_7 := lt_of_some Bx.out
  obtain ⟨g0, g1, g2, g3, g4, g5, g6, g7⟩ := cs8 Bg.out
  have ltg_7 := lt_of_some Bg.out
  go_wp2_with fail
  refine (markCluster_any d2 c 1 _ wz HO2.out (fun k s => by have s2 := s.2; have q9 := HY.out.le; have qx := lt_of_some Bx.out; have q3 := HQ3.out; have q4 := HQ4.out; have q5 := HQ5.out; have q6 := HQ6.out; have q7 := HQW.out; have q8 := HB8.out; omega) (by decide) HF.out.marks).mono ?_
  rintro e w8 ⟨rfl, ho, hk⟩
  replace HZ : Hid (X5.heap.size ≤ w8.heap.size) := Nat.le_trans HZ.out hk.size
  clear k0 k1 k2 k3 k4 k5 ltk_7 y0 y1 y2 y3 y4 lty_7 a0 a1 a2 a3 a4 a5 a6 a7 lta_7 x0 x1 x2 x3 x4 x5 ltx_7 g0 g1 g2 g3 g4 g5 g6 g7 ltg_7
  have Ck := hidK ((hk.block (w.heap.size) (lt_of_some Bk.out) (fun s => by have s1 := s.1; have s2 := s.2; have q3 := HQ3.out; have q4 := HQ4.out; have q5 := HQ5.out; have q6 := HQ6.out; have q7 := HQW.out; have q8 := HB8.out; omega)).trans Bk.out)
  have Cy := hidK ((hk.block (w.heap.size + 1) (lt_of_some By.out) (fun s => by have s1 := s.1; have s2 := s.2; have q3 := HQ3.out; have q4 := HQ4.out; have q5 := HQ5.out; have q6 := HQ6.out; have q7 := HQW.out; have q8 := HB8.out; omega)).trans By.out)
  have Ca := hidK ((hk.block (b6) (lt_of_some Ba.out) (fun s => by have s1 := s.1; have s2 := s.2; have q3 := HQ3.out; have q4 := HQ4.out; have q5 := HQ5.out; have q6 := HQ6.out; have q7 := HQW.out; have q8 := HB8.out; omega)).trans Ba.out)
  have Cx := hidK ((hk.block (w4.heap.size) (lt_of_some Bx.out) (fun s => by have s1 := s.1; have s2 := s.2; have q3 := HQ3.out; have q4 := HQ4.out; have q5 := HQ5.out; have q6 := HQ6.out; have q7 := HQW.out; have q8 := HB8.out; omega)).trans Bx.out)
  have Cg := hidK ((hk.block (b8) (lt_of_some Bg.out) (fun s => by have s1 := s.1; have s2 := s.2; have q3 := HQ3.out; have q4 := HQ4.out; have q5 := HQ5.out; have q6 := HQ6.out; have q7 := HQW.out; have q8 := HB8.out; omega)).trans Bg.out)
  have HB8 := hidK (HB.out.trans (hk.low (X := w.heap.size) HB.out.size (fun k s => by have s1 := s.1; have q3 := HQ3.out; have q4 := HQ4.out; have q5 := HQ5.out; have q6 := HQ6.out; have q7 := HQW.out; have q8 := HB8.out; omega)))
  have CHY := hidK (HY.out.kept hk (fun k s => by have s1 := s.1; have q3 := HQ3.out; have q4 := HQ4.out; have q5 := HQ5.out; have q6 := HQ6.out; have q7 := HQW.out; have q8 := HB8.out; omega))
  have CHO1 := hidK (HO1.out.kept hk (fun k s s' => by have s1 := s.1; have s2 := s.2; have t1 := s'.1; have t2 := s'.2; have q3 := HQ3.out; have q4 := HQ4.out; have q5 := HQ5.out; have q6 := HQ6.out; have q7 := HQW.out; have q8 := HB8.out; omega))
  clear HB HY hk HO2 HO1 Bk By Ba Bx Bg
  have HB := HB8
  clear HB8
  have HY := CHY
  clear CHY
  have HO1 := CHO1
  clear CHO1
  have Bk := Ck
  clear Ck
  have By := Cy
  clear Cy
  have Ba := Ca
  clear Ca
  have Bx := Cx
  clear Cx
  have Bg := Cg
  clear Cg
  clear ho
  rw [← hrk]
  clear hrk
  obtain ⟨k0, k1, k2, k3, k4, k5⟩ := cs6 Bk.out
  have ltk_8 := lt_of_some Bk.out
  obtain ⟨y0, y1, y2, y3, y4⟩ := cs5 By.out
  have lty_8 := lt_of_some By.out
  obtain ⟨a0, a1, a2, a3, a4, a5, a6, a7⟩ := cs8 Ba.out
  have lta_8 := lt_of_some Ba.out
  obtain ⟨x0, x1, x2, x3, x4, x5⟩ := cs6 Bx.out
  have ltx_8 := lt_of_some Bx.out
  obtain ⟨g0, g1, g2, g3, g4, g5, g6, g7⟩ := cs8 Bg.out
  have ltg_8 := lt_of_some Bg.out
  go_wp2_with fail
  refine (eqCout_any dg1 dg0 o _ (HO1.out.row) (RR.out.below HY.out.out)).mono ?_
  rintro e w9 ⟨rfl, hb⟩
  replace HZ : Hid (X5.heap.size ≤ w9.heap.size) := Nat.le_trans HZ.out hb.size
  clear k0 k1 k2 k3 k4 k5 ltk_8 y0 y1 y2 y3 y4 lty_8 a0 a1 a2 a3 a4 a5 a6 a7 lta_8 x0 x1 x2 x3 x4 x5 ltx_8 g0 g1 g2 g3 g4 g5 g6 g7 ltg_8
  replace Bk := upK Bk hb
  replace By := upK By hb
  replace Ba := upK Ba hb
  replace Bx := upK Bx hb
  replace Bg := upK Bg hb
  replace HY := hidK (HY.out.below hb)
  replace HO1 := hidK (HO1.out.below hb)
  replace HB := upB HB hb
  clear hb
  clear hrk0
  obtain ⟨k0, k1, k2, k3, k4, k5⟩ := cs6 Bk.out
  have ltk_9 := lt_of_some Bk.out
  obtain ⟨y0, y1, y2, y3, y4⟩ := cs5 By.out
  have lty_9 := lt_of_some By.out
  obtain ⟨a0, a1, a2, a3, a4, a5, a6, a7⟩ := cs8 Ba.out
  have lta_9 := lt_of_some Ba.out
  obtain ⟨x0, x1, x2, x3, x4, x5⟩ := cs6 Bx.out
  have ltx_9 := lt_of_some Bx.out
  obtain ⟨g0, g1, g2, g3, g4, g5, g6, g7⟩ := cs8 Bg.out
  have ltg_9 := lt_of_some Bg.out
  go_wp2_with fail
  refine (markCout_any dg1 o 1 _ _ HO1.out (fun k s => by have s2 := s.2; have q9 := HZ.out; have q3 := HQ3.out; have q4 := HQ4.out; have q5 := HQ5.out; have q6 := HQ6.out; have q7 := HQW.out; have q8 := HB8.out; omega) (by decide) hlz).mono ?_
  rintro e w10 ⟨rfl, ho, hk⟩
  replace HZ : Hid (X5.heap.size ≤ w10.heap.size) := Nat.le_trans HZ.out hk.size
  clear k0 k1 k2 k3 k4 k5 ltk_9 y0 y1 y2 y3 y4 lty_9 a0 a1 a2 a3 a4 a5 a6 a7 lta_9 x0 x1 x2 x3 x4 x5 ltx_9 g0 g1 g2 g3 g4 g5 g6 g7 ltg_9
  have Ck := hidK ((hk.block (w.heap.size) (lt_of_some Bk.out) (fun s => by have s1 := s.1; have s2 := s.2; have q3 := HQ3.out; have q4 := HQ4.out; have q5 := HQ5.out; have q6 := HQ6.out; have q7 := HQW.out; have q8 := HB8.out; omega)).trans Bk.out)
  have Cy := hidK ((hk.block (w.heap.size + 1) (lt_of_some By.out) (fun s => by have s1 := s.1; have s2 := s.2; have q3 := HQ3.out; have q4 := HQ4.out; have q5 := HQ5.out; have q6 := HQ6.out; have q7 := HQW.out; have q8 := HB8.out; omega)).trans By.out)
  have Ca := hidK ((hk.block (b6) (lt_of_some Ba.out) (fun s => by have s1 := s.1; have s2 := s.2; have q3 := HQ3.out; have q4 := HQ4.out; have q5 := HQ5.out; have q6 := HQ6.out; have q7 := HQW.out; have q8 := HB8.out; omega)).trans Ba.out)
  have Cx := hidK ((hk.block (w4.heap.size) (lt_of_some Bx.out) (fun s => by have s1 := s.1; have s2 := s.2; have q3 := HQ3.out; have q4 := HQ4.out; have q5 := HQ5.out; have q6 := HQ6.out; have q7 := HQW.out; have q8 := HB8.out; omega)).trans Bx.out)
  have Cg := hidK ((hk.block (b8) (lt_of_some Bg.out) (fun s => by have s1 := s.1; have s2 := s.2; have q3 := HQ3.out; have q4 := HQ4.out; have q5 := HQ5.out; have q6 := HQ6.out; have q7 := HQW.out; have q8 := HB8.out; omega)).trans Bg.out)
  have HB10 := hidK (HB.out.trans (hk.low (X := w.heap.size) HB.out.size (fun k s => by have s1 := s.1; have q3 := HQ3.out; have q4 := HQ4.out; have q5 := HQ5.out; have q6 := HQ6.out; have q7 := HQW.out; have q8 := HB8.out; omega)))
  have CHY := hidK (HY.out.kept hk (fun k s => by have s1 := s.1; have q3 := HQ3.out; have q4 := HQ4.out; have q5 := HQ5.out; have q6 := HQ6.out; have q7 := HQW.out; have q8 := HB8.out; omega))
  clear HB HY hk HO1 Bk By Ba Bx Bg
  have HB := HB10
  clear HB10
  have HY := CHY
  clear CHY
  have Bk := Ck
  clear Ck
  have By := Cy
  clear Cy
  have Ba := Ca
  clear Ca
  have Bx := Cx
  clear Cx
  have Bg := Cg
  clear Cg
  have HM1 := hidK ho
  clear ho
  rw [← HMM.out]
  obtain ⟨k0, k1, k2, k3, k4, k5⟩ := cs6 Bk.out
  have ltk_10 := lt_of_some Bk.out
  obtain ⟨y0, y1, y2, y3, y4⟩ := cs5 By.out
  have lty_10 := lt_of_some By.out
  obtain ⟨a0, a1, a2, a3, a4, a5, a6, a7⟩ := cs8 Ba.out
  have lta_10 := lt_of_some Ba.out
  obtain ⟨x0, x1, x2, x3, x4, x5⟩ := cs6 Bx.out
  have ltx_10 := lt_of_some Bx.out
  obtain ⟨g0, g1, g2, g3, g4, g5, g6, g7⟩ := cs8 Bg.out
  have ltg_10 := lt_of_some Bg.out
  go_wp2_with fail
  refine (HH.out _ HM1.out.row).mono ?_
  rintro e w11 ⟨rfl, hb⟩
  replace HZ : Hid (X5.heap.size ≤ w11.heap.size) := Nat.le_trans HZ.out hb.size
  clear k0 k1 k2 k3 k4 k5 ltk_10 y0 y1 y2 y3 y4 lty_10 a0 a1 a2 a3 a4 a5 a6 a7 lta_10 x0 x1 x2 x3 x4 x5 ltx_10 g0 g1 g2 g3 g4 g5 g6 g7 ltg_10
  replace Bk := upK Bk hb
  replace By := upK By hb
  replace Ba := upK Ba hb
  replace Bx := upK Bx hb
  replace Bg := upK Bg hb
  replace HY := hidK (HY.out.below hb)
  replace HM1 := hidK (HM1.out.below hb)
  replace HB := upB HB hb
  clear hb
  obtain ⟨k0, k1, k2, k3, k4, k5⟩ := cs6 Bk.out
  have ltk_11 := lt_of_some Bk.out
  obtain ⟨y0, y1, y2, y3, y4⟩ := cs5 By.out
  have lty_11 := lt_of_some By.out
  go_wp2_with fail
  rename_i K0 hK0
  refine wp_region_grow_last (by kernel_rfl) rfl rfl (by kernel_rfl) ?_
  refine' Grow.stepC _ rfl ?_ ?_
  rotate_left 1
  · refine Obl.plain rfl ?_
    intro ac wg K hsz hW hf hK; clear hsz
    have e2 := hf 2 (by decide)
    simp [slotFact, List.lookup] at e2
    clear hf
    obtain ⟨k0, k1, k2, k3, k4, k5⟩ := cs6 ((hW.block _ (lt_of_some Bk.out)).trans Bk.out)
    go_simp
    refine hK _ _ (Below.refl _ _) ?_
    with_reducible rfl
  refine Grow.step (AddClaimClV c) rfl (AddClaimClV.mono c) ?_ ?_
  · refine Obl.plain rfl ?_
    intro ac wg K hsz hW hf hK; clear hsz
    have e65 := hf 65 (by decide)
    simp [slotFact, List.lookup] at e65
    clear hf
    go_simp
    refine (toCluster_any d c _ (HR.out.below (HB.out.trans (hW.mono HB.out.size))) HF.out).mono ?_
    rintro e w6 ⟨d3, rfl, ho, hb6⟩
    exact hK _ _ hb6 ⟨d3, rfl, ho.row⟩
  refine' Grow.stepC _ rfl ?_ ?_
  rotate_left 1
  · refine Obl.plain rfl ?_
    intro ac wg K hsz hW hf hK; clear hsz
    have e3 := hf 3 (by decide)
    simp [slotFact, List.lookup] at e3
    clear hf
    obtain ⟨y0, y1, y2, y3, y4⟩ := cs5 ((hW.block _ (lt_of_some By.out)).trans By.out)
    go_simp
    refine hK _ _ (Below.refl _ _) ?_
    with_reducible rfl
  refine' Grow.stepC (.agg #[.string x.n, .int .i64 x.z, .string x.k, .bool x.x, .string x.v]) rfl ?_ ?_
  · refine Obl.plain rfl ?_
    intro ac wg K hsz hW hf hK; clear hsz
    have e67 := hf 67 (by decide)
    simp [slotFact, List.lookup] at e67
    clear hf
    go_simp
    refine (toClaim_any x.n x.z x.k x.x x.v _).mono ?_
    rintro e w6 ⟨rfl, hb6⟩
    exact hK _ _ hb6 rfl
  refine Grow.step (AnsF (AddClaimIs c x)) rfl (AnsF.mono _) ?_ ?_
  · refine Obl.plain rfl ?_
    intro ac wg K hsz hW hf hK; clear hsz
    have e66 := hf 66 (by decide)
    simp [slotFact, List.lookup] at e66
    have e68 := hf 68 (by decide)
    simp [slotFact, List.lookup] at e68
    clear hf
    obtain ⟨d3, e66, hrow⟩ := e66
    go_simp
    refine (iaddX_any d3 c x E _ hrow (HE.out.below (HB.out.trans (hW.mono HB.out.size))) z0 z2 z4).mono ?_
    rintro e w6 ⟨dg, o1, rfl, hI, ho, hb6⟩
    exact hK _ _ hb6 ⟨dg, o1, rfl, hI, ho.fr⟩
  refine Grow.step (BoxF w11.heap.size) rfl (BoxF.mono _) ?_ ?_
  · refine Obl.plain rfl ?_
    intro ac wg K hsz hW hf hK; clear hsz
    clear hf
    go_simp
    exact hK _ _ (below1 _ _) ⟨_, rfl, hW.size, Array.getElem?_push_size⟩
  refine Grow.done ?_
  intro q wy hW hf
  simp only [List.forall_mem_cons] at hf
  obtain ⟨⟨b9, h9, hb9, hg9⟩, ⟨dg2, o2, h69, hI2, hR2⟩, -⟩ := hf
  obtain rfl := HIS.out.same hI2
  obtain ⟨t0, t1, t2, t3, t4, t5, t6, t7⟩ := cs8 hg9
  have f0 := froK hg9 0
  have f1 := froK hg9 1
  have f2 := froK hg9 2
  have f3 := froK hg9 3
  have f4 := froK hg9 4
  have f5 := froK hg9 5
  have f6 := froK hg9 6
  have f7 := froK hg9 7
  have Bh := hidK (put8 (v0 := .slice dg2.a1 dg2.l1 dg2.c1) (v1 := .slice dg2.a2 dg2.l2 dg2.c2) (v2 := .slice dg2.a3 dg2.l3 dg2.c3) (v3 := .slice dg2.a4 dg2.l4 dg2.c4) (v4 := .slice dg2.a5 dg2.l5 dg2.c5) (v5 := .int .i64 o.c.now) (v6 := .string o.n) (v7 := .int .i64 o.p) hg9)
  have HWX : Hid (Below w11.heap.size w11 ((((((((wy.setCell ⟨b9, 0, none⟩ (.slice dg2.a1 dg2.l1 dg2.c1)).setCell ⟨b9, 1, none⟩ (.slice dg2.a2 dg2.l2 dg2.c2)).setCell ⟨b9, 2, none⟩ (.slice dg2.a3 dg2.l3 dg2.c3)).setCell ⟨b9, 3, none⟩ (.slice dg2.a4 dg2.l4 dg2.c4)).setCell ⟨b9, 4, none⟩ (.slice dg2.a5 dg2.l5 dg2.c5)).setCell ⟨b9, 5, none⟩ (.int .i64 o.c.now)).setCell ⟨b9, 6, none⟩ (.string o.n)).setCell ⟨b9, 7, none⟩ (.int .i64 o.p))) := set_below hb9 (set_below hb9 (set_below hb9 (set_below hb9 (set_below hb9 (set_below hb9 (set_below hb9 (set_below hb9 (hW))))))))
  have R2 : Hid (ClFr ((((((((wy.setCell ⟨b9, 0, none⟩ (.slice dg2.a1 dg2.l1 dg2.c1)).setCell ⟨b9, 1, none⟩ (.slice dg2.a2 dg2.l2 dg2.c2)).setCell ⟨b9, 2, none⟩ (.slice dg2.a3 dg2.l3 dg2.c3)).setCell ⟨b9, 3, none⟩ (.slice dg2.a4 dg2.l4 dg2.c4)).setCell ⟨b9, 4, none⟩ (.slice dg2.a5 dg2.l5 dg2.c5)).setCell ⟨b9, 5, none⟩ (.int .i64 o.c.now)).setCell ⟨b9, 6, none⟩ (.string o.n)).setCell ⟨b9, 7, none⟩ (.int .i64 o.p)) dg2 o.c.raw (fun _ => True)) := hR2.past hg9 (fun k hk => put8_ne hk)
  clear hg9 hI2 hR2
  intro K hK
  rw [if_pos (by rfl)]
  simp only [putsAll, List.foldr, Act.put, List.setIfInBounds_toArray, List.set_cons_zero, List.set_cons_succ, h9, h69]
  simp only [List.getLast]
  go_simp
  refine hK _ _ ?_
  refine hK0 _ _ ?_
  clear hK hK0 K K0
  generalize ((((((((wy.setCell ⟨b9, 0, none⟩ (.slice dg2.a1 dg2.l1 dg2.c1)).setCell ⟨b9, 1, none⟩ (.slice dg2.a2 dg2.l2 dg2.c2)).setCell ⟨b9, 2, none⟩ (.slice dg2.a3 dg2.l3 dg2.c3)).setCell ⟨b9, 3, none⟩ (.slice dg2.a4 dg2.l4 dg2.c4)).setCell ⟨b9, 4, none⟩ (.slice dg2.a5 dg2.l5 dg2.c5)).setCell ⟨b9, 5, none⟩ (.int .i64 o.c.now)).setCell ⟨b9, 6, none⟩ (.string o.n)).setCell ⟨b9, 7, none⟩ (.int .i64 o.p)) = X9 at Bh HWX R2 ⊢
  clear t0 t1 t2 t3 t4 t5 t6 t7 f0 f1 f2 f3 f4 f5 f6 f7 hW hb9
  have hb := HWX.out
  clear k0 k1 k2 k3 k4 k5 ltk_11 y0 y1 y2 y3 y4 lty_11
  replace Bk := upK Bk hb
  replace By := upK By hb
  replace Ba := upK Ba hb
  replace Bx := upK Bx hb
  replace Bg := upK Bg hb
  replace HY := hidK (HY.out.below hb)
  replace HM1 := hidK (HM1.out.below hb)
  replace HB := upB HB hb
  clear hb
  clear HWX
  have RR2 := hidK R2.out.row
  clear R2
  obtain ⟨k0, k1, k2, k3, k4, k5⟩ := cs6 Bk.out
  have ltk_12 := lt_of_some Bk.out
  obtain ⟨y0, y1, y2, y3, y4⟩ := cs5 By.out
  have lty_12 := lt_of_some By.out
  obtain ⟨a0, a1, a2, a3, a4, a5, a6, a7⟩ := cs8 Ba.out
  have lta_12 := lt_of_some Ba.out
  obtain ⟨x0, x1, x2, x3, x4, x5⟩ := cs6 Bx.out
  have ltx_12 := lt_of_some Bx.out
  obtain ⟨g0, g1, g2, g3, g4, g5, g6, g7⟩ := cs8 Bg.out
  have ltg_12 := lt_of_some Bg.out
  obtain ⟨h0, h1, h2, h3, h4, h5, h6, h7⟩ := cs8 Bh.out
  have lth_12 := lt_of_some Bh.out
  go_wp2_with fail
  refine (eqCout_any dg2 dg0 o _ (RR2.out) (RR.out.below HY.out.out)).mono ?_
  rintro e w14 ⟨rfl, hb⟩
  clear k0 k1 k2 k3 k4 k5 ltk_12 y0 y1 y2 y3 y4 lty_12 a0 a1 a2 a3 a4 a5 a6 a7 lta_12 x0 x1 x2 x3 x4 x5 ltx_12 g0 g1 g2 g3 g4 g5 g6 g7 ltg_12 h0 h1 h2 h3 h4 h5 h6 h7 lth_12
  replace Bk := upK Bk hb
  replace By := upK By hb
  replace Ba := upK Ba hb
  replace Bx := upK Bx hb
  replace Bg := upK Bg hb
  replace Bh := upK Bh hb
  replace HY := hidK (HY.out.below hb)
  replace HM1 := hidK (HM1.out.below hb)
  replace HB := upB HB hb
  clear hb
  obtain ⟨k0, k1, k2, k3, k4, k5⟩ := cs6 Bk.out
  have ltk_13 := lt_of_some Bk.out
  obtain ⟨y0, y1, y2, y3, y4⟩ := cs5 By.out
  have lty_13 := lt_of_some By.out
  obtain ⟨a0, a1, a2, a3, a4, a5, a6, a7⟩ := cs8 Ba.out
  have lta_13 := lt_of_some Ba.out
  obtain ⟨x0, x1, x2, x3, x4, x5⟩ := cs6 Bx.out
  have ltx_13 := lt_of_some Bx.out
  obtain ⟨g0, g1, g2, g3, g4, g5, g6, g7⟩ := cs8 Bg.out
  have ltg_13 := lt_of_some Bg.out
  obtain ⟨h0, h1, h2, h3, h4, h5, h6, h7⟩ := cs8 Bh.out
  have lth_13 := lt_of_some Bh.out
  go_wp2_with fail
  refine (HH.out _ HM1.out.row).mono ?_
  rintro e w15 ⟨rfl, hb⟩
  clear k0 k1 k2 k3 k4 k5 ltk_13 y0 y1 y2 y3 y4 lty_13 a0 a1 a2 a3 a4 a5 a6 a7 lta_13 x0 x1 x2 x3 x4 x5 ltx_13 g0 g1 g2 g3 g4 g5 g6 g7 ltg_13 h0 h1 h2 h3 h4 h5 h6 h7 lth_13
  replace Bk := upK Bk hb
  replace By := upK By hb
  replace Ba := upK Ba hb
  replace Bx := upK Bx hb
  replace Bg := upK Bg hb
  replace Bh := upK Bh hb
  replace HY := hidK (HY.out.below hb)
  replace HM1 := hidK (HM1.out.below hb)
  replace HB := upB HB hb
  clear hb
  go_wp2_with fail
  go_ret
  exact ⟨rfl, HB.out⟩

set_option linter.unusedVariables false in
theorem fnExactAddClaim_walk (a1 : Option Addr) (l1 y1 : Nat) (ns : List Nd) (a2 : Option Addr) (l2 y2 : Nat) (ks : List Kd) (a3 : Option Addr) (l3 y3 : Nat) (vs : List Vd) (a4 : Option Addr) (l4 y4 : Nat) (xs : List Xd) (a5 : Option Addr) (l5 y5 : Nat) (ps : List Pd) (now : Int) (x0 : ByteArray) (x1 : Int) (x2 : ByteArray) (x3 : Bool) (x4 : ByteArray) (w : World)
    (h1 : RRow w a1 l1 y1 7 (ns.map ndF)) (h2 : RRow w a2 l2 y2 4 (ks.map kdF)) (h3 : RRow w a3 l3 y3 8 (vs.map vdF)) (h4 : RRow w a4 l4 y4 5 (xs.map xdF)) (h5 : RRow w a5 l5 y5 6 (ps.map pdF)) (_ : (Lit.int .i64 now).wf = true) (hx0 : x0.size ≤ maxLen) (_ : (Lit.int .i64 x1).wf = true) (hx2 : x2.size ≤ maxLen) (hx4 : x4.size ≤ maxLen) (hG : ∃ E, Ers w E) :
    Calls Tryz.prog 3 #[.agg #[.slice a1 l1 y1, .slice a2 l2 y2, .slice a3 l3 y3, .slice a4 l4 y4, .slice a5 l5 y5, .int .i64 now], .agg #[.string x0, .int .i64 x1, .string x2, .bool x3, .string x4]] w fun e w' => e = .returned (.bool true) ∧ Below w.heap.size w w' := by
  obtain ⟨E, hG⟩ := hG
  exact addClaim_walk ⟨a1, l1, y1, a2, l2, y2, a3, l3, y3, a4, l4, y4, a5, l5, y5⟩ ⟨ns, ks, vs, xs, ps, now⟩ ⟨x0, x1, x2, x3, x4⟩ E w ⟨h1, h2, h3, h4, h5⟩ hx0 hx2 hx4 hG

end Go.Proofs.YtfapjochclhfpaaGreatDoor

namespace Go.Proofs.YtfapjochclhfpaaGreatDoor
open Go.RowKit
namespace Rc

theorem wordStar : "*" ++ "errors.errorString" = "*errors.errorString" := by decide
theorem wordRow (u : TypeId) (h : Tryz.prog.typeName? 3 u = some "*errors.errorString") : u = 191 :=
  typeName_ptr_named (nm := "errors.errorString") (by rw [wordStar]; kernel_rfl) (by kernel_rfl) (by decide) u (by rw [wordStar]; exact h)

theorem laid_words {P : Program} {W : World} {nm : String} {ti tp te ts : TypeId} {ms : Array (String × TypeId)} {f : Field} (hi : P.underlying ti = some (.interface ms)) (hrow : ∀ u, P.typeName? 3 u = some nm → u = tp)
    (hp : P.underlying tp = some (.pointer te)) (he : P.underlying te = some (.struct #[f])) (hft : f.type = ts) (hfo : f.offset = 0) (hs : P.underlying ts = some .string) (hc : P.cellsOf te = 1) (hcs : P.cellsOf ts = 1) :
    ∀ (l : List (String × List UInt8)) (ps : List MemPlace), (∀ x ∈ l, ∃ g, P.globalNamed x.1 = some g ∧ (P.globals[g]?).map (·.type) = some ti) →
      DataW.LaidVars P W (l.map fun x => (x.1, .iface nm (.ptr (.agg [.lit (.string x.2)])))) ps → ps.Nodup →
      (∀ b off, MemPlace.cell b off ∈ ps → (∃ c t, W.heap[b]? = some (.cells c t (0, 0))) ∧ ∀ u v, W.cell? ⟨b, off, none⟩ = some (.iface u v) → Value.okWide P W .any 0 u v) →
      ∃ E : Nat → Addr, (∀ (i : Nat) x, l[i]? = some x → W.var? P x.1 = some #[.iface tp (.pointer (some (E i)))] ∧ MemPlace.cell (E i).block (E i).off ∈ ps) ∧ ∀ i j, i < l.length → j < l.length → E i = E j → i = j
  | [], ps, _, _, _, _ => ⟨fun _ => ⟨0, 0, none⟩, fun i x h => by simp at h, fun i j h => by simp at h⟩
  | x :: l, ps, hT, hv, hnd, hrows => by
    obtain ⟨g, t, cs, fuel, p, q, hg, ht, hvar, hd, hq, rfl⟩ := hv
    obtain ⟨g', hg', ht'⟩ := hT x (by simp)
    obtain rfl := Option.some.inj (hg.symm.trans hg')
    obtain rfl := Option.some.inj (ht.symm.trans ht')
    have hsub : ∀ {y}, y ∈ q → y ∈ MemPlace.row ⟨g, 0, none⟩ cs.size ++ p ++ q := fun h => List.mem_append_right _ h
    obtain ⟨E, hE1, hE2⟩ := laid_words hi hrow hp he hft hfo hs hc hcs l q (fun y hy => hT y (by simp [hy])) hq (List.Nodup.sublist (List.sublist_append_right _ _) hnd) (fun b off hm => hrows b off (hsub hm))
    obtain ⟨l0⟩ := cs
    have ok0 : ∀ u v, l0 = [.iface u v] → Value.okWide P W .any 0 u v := fun u v e => by
      subst e
      exact (hrows g 0 (by simp [MemPlace.row])).2 u v (by simpa using World.var?_cell hg hvar 0)
    obtain ⟨a0, s0, rfl, hc0, hs0, hz0, rfl⟩ := errorString_of_trod hi hrow hp he hft hfo hs hc hcs hd ok0
    have ha : MemPlace.cell a0.block a0.off ∈ MemPlace.row a0 1 := by simp [MemPlace.row]
    have hdis : ∀ i, i < l.length → ¬ E i = a0 := fun i hi' e => by
      have h1 := (hE1 i _ (List.getElem?_eq_getElem hi')).2
      rw [e] at h1
      have h2 := (List.nodup_append.1 hnd).2.2 _ (List.mem_append_right _ ha) _ h1
      exact h2 rfl
    refine ⟨fun i => match i with | 0 => a0 | i + 1 => E i, fun i y hy => ?_, fun i j hi' hj' e => ?_⟩
    · cases i with
      | zero =>
        obtain rfl : x = y := by simpa using hy
        exact ⟨hvar, List.mem_append_left _ (List.mem_append_right _ ha)⟩
      | succ i =>
        obtain ⟨h1, h2⟩ := hE1 i y (by simpa using hy)
        exact ⟨h1, hsub h2⟩
    · cases i with
      | zero => cases j with
        | zero => rfl
        | succ j => exact absurd e.symm (hdis j (by simpa using hj'))
      | succ i => cases j with
        | zero => exact absurd e (hdis i (by simpa using hi'))
        | succ j => rw [hE2 i j (by simpa using hi') (by simpa using hj') e]

theorem vars_length {H : Type} {enc : TypeId × Value → H} {P : Program} {w : World} {sp : Nat → Bool} : ∀ (ns : List String) (gs : List (DataW H)) (ps : List MemPlace), DataW.TrodVars enc P w sp ns gs ps → gs.length = ns.length
  | [], [], _, _ => rfl
  | [], _ :: _, _, h => h.elim
  | _ :: _, [], _, h => h.elim
  | _ :: ns, _ :: gs, _, h => by
    obtain ⟨_, _, _, _, _, q, _, _, _, _, h1, _⟩ := h
    simp [vars_length ns gs q h1]
theorem len10 {α : Type} : ∀ {l : List α}, l.length = 10 → ∃ a b c d e f g h i j, l = [a, b, c, d, e, f, g, h, i, j]
  | [a, b, c, d, e, f, g, h, i, j], _ => ⟨a, b, c, d, e, f, g, h, i, j, rfl⟩

end Rc
end Go.Proofs.YtfapjochclhfpaaGreatDoor

namespace Go.Proofs.YtfapjochclhfpaaGreatDoor
open Go.RowKit Go.ChangeShapes Go.WideShapes Go.Deep

theorem list5 {α : Type} {l : List α} (h : l.length = 5) : ∃ x0 x1 x2 x3 x4, l = [x0, x1, x2, x3, x4] := by
  match l, h with
  | [x0, x1, x2, x3, x4], _ => exact ⟨_, _, _, _, _, rfl⟩
theorem list6 {α : Type} {l : List α} (h : l.length = 6) : ∃ x0 x1 x2 x3 x4 x5, l = [x0, x1, x2, x3, x4, x5] := by
  match l, h with
  | [x0, x1, x2, x3, x4, x5], _ => exact ⟨_, _, _, _, _, _, rfl⟩
section
variable {H : Type} {enc : TypeId × Value → H} {P : Program} {w : World} {base : Nat} {spare : Nat → Bool} {held : Bool}

theorem open_aggN {r : Reach} {b0 : Nat} {t : TypeId} {fs : Array Field} {v : Value} {d : DataW H} {p : List MemPlace} (hs : P.underlying t = some (.struct fs)) (hone : oneCellFields P fs = true) (hC : P.cellsOf t = fs.size)
    (hv : Value.okWide P w r b0 t v) (h : DataW.Trod enc P w base spare held t v d p) :
    ∃ (cs : List Value) (n : Nat), v = .agg cs.toArray ∧ cs.length = fs.size ∧ ∀ (i : Nat) (f : Field), fs[i]? = some f → ∃ c y, cs[i]? = some c ∧ DataW.trod enc P w base spare held n f.type [c] = some y := by
  obtain ⟨cs, rfl, hsz⟩ := okWide_struct hs hv
  obtain ⟨fuel, hf⟩ := h
  obtain ⟨xs, n, _, hx, hl, hlen, hf'⟩ := DataW.trod_struct hs hf
  refine ⟨cs.toList, n, rfl, by rw [Array.length_toList]; exact hsz.trans hC, fun i f hi => ?_⟩
  obtain ⟨o, k⟩ := hone_of hone i f hi
  have hlt : i < fs.size := (Array.getElem?_eq_some_iff.1 hi).1
  have hlc : i < cs.toList.length := by rw [Array.length_toList, hsz, hC]; exact hlt
  have g := hf' i f hi
  rw [o, k] at g
  have e : ((Value.agg cs).cells.toList.drop i).take 1 = [cs.toList[i]'hlc] := by
    show (cs.toList.drop i).take 1 = _
    rw [List.drop_eq_getElem_cons hlc]
    rfl
  rw [e] at g
  exact ⟨_, xs[i]'(by omega), List.getElem?_eq_getElem hlc, by rw [g, List.getElem?_eq_getElem]⟩

theorem row_of_trod {t e : TypeId} {n : Nat} {c : Value} {y : DataW H × List MemPlace} (ht : P.underlying t = some (.slice e)) (he : P.underlying e = some .string) (hc : P.cellsOf e = 1)
    (h : DataW.trod enc P w base spare held n t [c] = some y) : ∃ a len cap zs, c = .slice a len cap ∧ TxRow w a len cap zs := by
  rcases open_strs ht he hc h with ⟨hcs, _⟩ | ⟨a, len, cap, m, Sx, hcs, hb, hl, hm, hmm, _, hx⟩
  · exact ⟨none, 0, 0, [], by simpa using hcs, rfl, Nat.le_refl _, by omega, fun j x hx => by simp at hx, Or.inl rfl⟩
  · have hlm : len ≤ m := by rw [hmm]; split <;> omega
    have hm' : cap ≤ 9223372036854775807 := by unfold maxLen at hm; omega
    refine ⟨some a, len, cap, (List.range len).map Sx, by simpa using hcs, by simp, hl, hm', fun j x hj => ?_, ?_⟩
    · rw [List.getElem?_map] at hj
      by_cases hjl : j < len
      · rw [List.getElem?_range hjl] at hj
        obtain rfl := Option.some.inj hj
        have := (hx j (by omega)).2
        unfold maxLen at this
        omega
      · rw [List.getElem?_eq_none (by simp; omega)] at hj
        cases hj
    · by_cases h0 : len = 0
      · subst h0; exact Or.inl rfl
      right
      obtain ⟨b, o, spot⟩ := a
      have h0' := (hx 0 (by omega)).1
      have hspot : spot = none := by simpa [Addr.add] using World.cell?_spot h0'
      subst hspot
      refine ⟨b, o, rfl, ?_, fun j x hj => ?_⟩
      · rw [Addr.add_lit] at h0'
        rcases Nat.lt_or_ge b w.heap.size with h1 | h1
        · exact h1
        · simp [World.cell?, Array.getElem?_eq_none h1] at h0'
      · rw [List.getElem?_map] at hj
        by_cases hjl : j < len
        · rw [List.getElem?_range hjl] at hj
          obtain rfl := Option.some.inj hj
          have := (hx j (by omega)).1
          rw [Addr.add_lit] at this
          exact this
        · rw [List.getElem?_eq_none (by simp; omega)] at hj
          cases hj
end

section
variable {H : Type} {enc : TypeId × Value → H} {w : World} {base : Nat} {spare : Nat → Bool} {held : Bool}

theorem open_aggC {P : Program} {n : Nat} {t : TypeId} {fs : Array Field} {cs : List Value} {x : DataW H × List MemPlace} (hs : P.underlying t = some (.struct fs)) (hone : oneCellFields P fs = true) (hC : P.cellsOf t = fs.size)
    (h : DataW.trod enc P w base spare held n t cs = some x) :
    ∃ (n : Nat), cs.length = fs.size ∧ ∀ (i : Nat) (f : Field), fs[i]? = some f → ∃ c y, cs[i]? = some c ∧ DataW.trod enc P w base spare held n f.type [c] = some y := by
  obtain ⟨xs, n, _, hx, hl, hlen, hf'⟩ := DataW.trod_struct hs h
  refine ⟨n, hl.trans hC, fun i f hi => ?_⟩
  obtain ⟨o, k⟩ := hone_of hone i f hi
  have hlt : i < fs.size := (Array.getElem?_eq_some_iff.1 hi).1
  have hlc : i < cs.length := by rw [hl, hC]; exact hlt
  have g := hf' i f hi
  rw [o, k] at g
  have e : (cs.drop i).take 1 = [cs[i]'hlc] := by
    rw [List.drop_eq_getElem_cons hlc]
    rfl
  rw [e] at g
  exact ⟨_, xs[i]'(by omega), List.getElem?_eq_getElem hlc, by rw [g, List.getElem?_eq_getElem]⟩

end

end Go.Proofs.YtfapjochclhfpaaGreatDoor

namespace Go.Proofs.YtfapjochclhfpaaGreatDoor
open Go.RowKit Go.ChangeShapes Go.WideShapes Go.Deep
namespace Rc

section
variable {H : Type} {enc : TypeId × Value → H} {w : World} {base : Nat} {spare : Nat → Bool} {held : Bool}

theorem nd_of_trod {b o n : Nat} {cs : List Value} {x : DataW H × List MemPlace} (hc : ∀ i, i < 7 → w.cell? ⟨b, o + i, none⟩ = cs[i]?) (h : DataW.trod enc Tryz.prog w base spare held n 105 cs = some x) : ∃ v : Nd, RAt w b o (ndF v) := by
  obtain ⟨m, hl, hf⟩ := open_aggC Tryz.underlying105 (by kernel_rfl) (by kernel_rfl) h
  obtain ⟨c0, y0, e0, t0⟩ := hf 0 _ rfl
  obtain ⟨b0, q0, -, s0⟩ := DataW.trod_string Tryz.underlying9 t0
  obtain rfl : c0 = .string b0 := by simpa using q0
  obtain ⟨c1, y1, e1, t1⟩ := hf 1 _ rfl
  obtain ⟨b1, q1, -, s1⟩ := DataW.trod_string Tryz.underlying9 t1
  obtain rfl : c1 = .string b1 := by simpa using q1
  obtain ⟨c2, y2, e2, t2⟩ := hf 2 _ rfl
  obtain ⟨b2, q2, -, s2⟩ := DataW.trod_int Tryz.underlying2 t2
  obtain rfl : c2 = .int .i64 b2 := by simpa using q2
  obtain ⟨c3, y3, e3, t3⟩ := hf 3 _ rfl
  obtain ⟨b3, q3, -, s3⟩ := DataW.trod_int Tryz.underlying2 t3
  obtain rfl : c3 = .int .i64 b3 := by simpa using q3
  obtain ⟨c4, y4, e4, t4⟩ := hf 4 _ rfl
  obtain ⟨b4, q4, -, s4⟩ := DataW.trod_int Tryz.underlying2 t4
  obtain rfl : c4 = .int .i64 b4 := by simpa using q4
  obtain ⟨c5, y5, e5, t5⟩ := hf 5 _ rfl
  obtain ⟨b5, q5, -⟩ := DataW.trod_bool Tryz.underlying4 t5
  obtain rfl : c5 = .bool b5 := by simpa using q5
  obtain ⟨c6, y6, e6, t6⟩ := hf 6 _ rfl
  obtain ⟨b6, l6, p6, zz, rfl, r6⟩ := row_of_trod Tryz.underlying51 Tryz.underlying9 (by kernel_rfl) t6
  unfold maxLen at s0 s1
  refine ⟨⟨b0, b1, b2, b3, b4, b5, zz⟩, fun i f hi => ?_⟩
  rcases i with _ | _ | _ | _ | _ | _ | _ | i
  · cases hi
    exact ⟨_, (hc 0 (by omega)).trans e0, rfl, show b0.size ≤ _ by omega⟩
  · cases hi
    exact ⟨_, (hc 1 (by omega)).trans e1, rfl, show b1.size ≤ _ by omega⟩
  · cases hi
    exact ⟨_, (hc 2 (by omega)).trans e2, rfl⟩
  · cases hi
    exact ⟨_, (hc 3 (by omega)).trans e3, rfl⟩
  · cases hi
    exact ⟨_, (hc 4 (by omega)).trans e4, rfl⟩
  · cases hi
    exact ⟨_, (hc 5 (by omega)).trans e5, rfl⟩
  · cases hi
    exact ⟨_, (hc 6 (by omega)).trans e6, b6, l6, p6, rfl, r6⟩
  · first | (cases hi; done) | (simp [ndF] at hi; done)

theorem ndrow_of_trod {n : Nat} {c : Value} {y : DataW H × List MemPlace} (h : DataW.trod enc Tryz.prog w base spare held n 22 [c] = some y) : ∃ a len cap, ∃ xs : List Nd, c = .slice a len cap ∧ RRow w a len cap 7 (xs.map ndF) := by
  rcases open_slice Tryz.underlying22 h with ⟨hcs, _⟩ | ⟨a, len, cap, m, n', D, Pl, hcs, hb, hl, hm, hmm, _, hx⟩
  · exact ⟨none, 0, 0, [], by simpa using hcs, rfl, Nat.le_refl _, by omega, .inl rfl⟩
  have hlm : len ≤ m := by rw [hmm]; split <;> omega
  have hm' : cap ≤ 9223372036854775807 := by unfold maxLen at hm; omega
  have hce : Tryz.prog.cellsOf 105 = 7 := by kernel_rfl
  rw [hce] at hx
  by_cases h0 : len = 0
  · subst h0
    exact ⟨some a, 0, cap, [], by simpa using hcs, rfl, hl, hm', .inl rfl⟩
  obtain ⟨b, o, spot⟩ := a
  obtain ⟨cs0, k1, k2⟩ := hx 0 (by omega)
  have hspot : spot = none := by
    obtain ⟨_, hl0, hc0⟩ := World.cells?_some k1
    have := hc0 0 (by omega)
    rw [List.getElem?_eq_getElem (by omega)] at this
    simpa [Addr.add] using World.cell?_spot this
  subst hspot
  have hblt : b < w.heap.size := by
    obtain ⟨_, hl0, hc0⟩ := World.cells?_some k1
    have := hc0 0 (by omega)
    rw [List.getElem?_eq_getElem (by omega)] at this
    rcases Nat.lt_or_ge b w.heap.size with h1 | h1
    · exact h1
    · simp [Addr.add, World.cell?, Array.getElem?_eq_none h1] at this
  have each : ∀ i, i < len → ∃ v : Nd, RAt w b (o + i * 7) (ndF v) := fun i hi => by
    obtain ⟨cs, k1, k2⟩ := hx i (by omega)
    obtain ⟨_, hl0, hc0⟩ := World.cells?_some k1
    refine nd_of_trod (fun j hj => ?_) k2
    have := hc0 j hj
    rw [add_add, Addr.add_lit] at this
    rw [Nat.add_assoc]
    exact this
  have hin : Inhabited Nd := ⟨⟨⟨#[]⟩, ⟨#[]⟩, 0, 0, 0, false, []⟩⟩
  obtain ⟨f, hf⟩ := choose_lt each
  refine ⟨some ⟨b, o, none⟩, len, cap, (List.range len).map f, by simpa using hcs, by simp, hl, hm', .inr ⟨b, o, rfl, hblt, fun j r hj => ?_⟩⟩
  rw [List.getElem?_map, List.getElem?_map] at hj
  by_cases hjl : j < len
  · rw [List.getElem?_range hjl] at hj
    obtain rfl := Option.some.inj hj
    exact hf j hjl
  · rw [List.getElem?_eq_none (by simp; omega)] at hj
    cases hj

theorem kd_of_trod {b o n : Nat} {cs : List Value} {x : DataW H × List MemPlace} (hc : ∀ i, i < 4 → w.cell? ⟨b, o + i, none⟩ = cs[i]?) (h : DataW.trod enc Tryz.prog w base spare held n 108 cs = some x) : ∃ v : Kd, RAt w b o (kdF v) := by
  obtain ⟨m, hl, hf⟩ := open_aggC Tryz.underlying108 (by kernel_rfl) (by kernel_rfl) h
  obtain ⟨c0, y0, e0, t0⟩ := hf 0 _ rfl
  obtain ⟨b0, q0, -, s0⟩ := DataW.trod_string Tryz.underlying9 t0
  obtain rfl : c0 = .string b0 := by simpa using q0
  obtain ⟨c1, y1, e1, t1⟩ := hf 1 _ rfl
  obtain ⟨b1, q1, -⟩ := DataW.trod_bool Tryz.underlying4 t1
  obtain rfl : c1 = .bool b1 := by simpa using q1
  obtain ⟨c2, y2, e2, t2⟩ := hf 2 _ rfl
  obtain ⟨b2, q2, -⟩ := DataW.trod_bool Tryz.underlying4 t2
  obtain rfl : c2 = .bool b2 := by simpa using q2
  obtain ⟨c3, y3, e3, t3⟩ := hf 3 _ rfl
  obtain ⟨b3, q3, -, s3⟩ := DataW.trod_string Tryz.underlying9 t3
  obtain rfl : c3 = .string b3 := by simpa using q3
  unfold maxLen at s0 s3
  refine ⟨⟨b0, b1, b2, b3⟩, fun i f hi => ?_⟩
  rcases i with _ | _ | _ | _ | i
  · cases hi
    exact ⟨_, (hc 0 (by omega)).trans e0, rfl, show b0.size ≤ _ by omega⟩
  · cases hi
    exact ⟨_, (hc 1 (by omega)).trans e1, rfl⟩
  · cases hi
    exact ⟨_, (hc 2 (by omega)).trans e2, rfl⟩
  · cases hi
    exact ⟨_, (hc 3 (by omega)).trans e3, rfl, show b3.size ≤ _ by omega⟩
  · first | (cases hi; done) | (simp [kdF] at hi; done)

theorem kdrow_of_trod {n : Nat} {c : Value} {y : DataW H × List MemPlace} (h : DataW.trod enc Tryz.prog w base spare held n 23 [c] = some y) : ∃ a len cap, ∃ xs : List Kd, c = .slice a len cap ∧ RRow w a len cap 4 (xs.map kdF) := by
  rcases open_slice Tryz.underlying23 h with ⟨hcs, _⟩ | ⟨a, len, cap, m, n', D, Pl, hcs, hb, hl, hm, hmm, _, hx⟩
  · exact ⟨none, 0, 0, [], by simpa using hcs, rfl, Nat.le_refl _, by omega, .inl rfl⟩
  have hlm : len ≤ m := by rw [hmm]; split <;> omega
  have hm' : cap ≤ 9223372036854775807 := by unfold maxLen at hm; omega
  have hce : Tryz.prog.cellsOf 108 = 4 := by kernel_rfl
  rw [hce] at hx
  by_cases h0 : len = 0
  · subst h0
    exact ⟨some a, 0, cap, [], by simpa using hcs, rfl, hl, hm', .inl rfl⟩
  obtain ⟨b, o, spot⟩ := a
  obtain ⟨cs0, k1, k2⟩ := hx 0 (by omega)
  have hspot : spot = none := by
    obtain ⟨_, hl0, hc0⟩ := World.cells?_some k1
    have := hc0 0 (by omega)
    rw [List.getElem?_eq_getElem (by omega)] at this
    simpa [Addr.add] using World.cell?_spot this
  subst hspot
  have hblt : b < w.heap.size := by
    obtain ⟨_, hl0, hc0⟩ := World.cells?_some k1
    have := hc0 0 (by omega)
    rw [List.getElem?_eq_getElem (by omega)] at this
    rcases Nat.lt_or_ge b w.heap.size with h1 | h1
    · exact h1
    · simp [Addr.add, World.cell?, Array.getElem?_eq_none h1] at this
  have each : ∀ i, i < len → ∃ v : Kd, RAt w b (o + i * 4) (kdF v) := fun i hi => by
    obtain ⟨cs, k1, k2⟩ := hx i (by omega)
    obtain ⟨_, hl0, hc0⟩ := World.cells?_some k1
    refine kd_of_trod (fun j hj => ?_) k2
    have := hc0 j hj
    rw [add_add, Addr.add_lit] at this
    rw [Nat.add_assoc]
    exact this
  have hin : Inhabited Kd := ⟨⟨⟨#[]⟩, false, false, ⟨#[]⟩⟩⟩
  obtain ⟨f, hf⟩ := choose_lt each
  refine ⟨some ⟨b, o, none⟩, len, cap, (List.range len).map f, by simpa using hcs, by simp, hl, hm', .inr ⟨b, o, rfl, hblt, fun j r hj => ?_⟩⟩
  rw [List.getElem?_map, List.getElem?_map] at hj
  by_cases hjl : j < len
  · rw [List.getElem?_range hjl] at hj
    obtain rfl := Option.some.inj hj
    exact hf j hjl
  · rw [List.getElem?_eq_none (by simp; omega)] at hj
    cases hj

theorem vd_of_trod {b o n : Nat} {cs : List Value} {x : DataW H × List MemPlace} (hc : ∀ i, i < 8 → w.cell? ⟨b, o + i, none⟩ = cs[i]?) (h : DataW.trod enc Tryz.prog w base spare held n 110 cs = some x) : ∃ v : Vd, RAt w b o (vdF v) := by
  obtain ⟨m, hl, hf⟩ := open_aggC Tryz.underlying110 (by kernel_rfl) (by kernel_rfl) h
  obtain ⟨c0, y0, e0, t0⟩ := hf 0 _ rfl
  obtain ⟨b0, q0, -, s0⟩ := DataW.trod_string Tryz.underlying9 t0
  obtain rfl : c0 = .string b0 := by simpa using q0
  obtain ⟨c1, y1, e1, t1⟩ := hf 1 _ rfl
  obtain ⟨b1, q1, -, s1⟩ := DataW.trod_int Tryz.underlying2 t1
  obtain rfl : c1 = .int .i64 b1 := by simpa using q1
  obtain ⟨c2, y2, e2, t2⟩ := hf 2 _ rfl
  obtain ⟨b2, q2, -, s2⟩ := DataW.trod_string Tryz.underlying9 t2
  obtain rfl : c2 = .string b2 := by simpa using q2
  obtain ⟨c3, y3, e3, t3⟩ := hf 3 _ rfl
  obtain ⟨b3, q3, -, s3⟩ := DataW.trod_string Tryz.underlying9 t3
  obtain rfl : c3 = .string b3 := by simpa using q3
  obtain ⟨c4, y4, e4, t4⟩ := hf 4 _ rfl
  obtain ⟨b4, q4, -⟩ := DataW.trod_bool Tryz.underlying4 t4
  obtain rfl : c4 = .bool b4 := by simpa using q4
  obtain ⟨c5, y5, e5, t5⟩ := hf 5 _ rfl
  obtain ⟨b5, q5, -, s5⟩ := DataW.trod_string Tryz.underlying9 t5
  obtain rfl : c5 = .string b5 := by simpa using q5
  obtain ⟨c6, y6, e6, t6⟩ := hf 6 _ rfl
  obtain ⟨b6, q6, -⟩ := DataW.trod_bool Tryz.underlying4 t6
  obtain rfl : c6 = .bool b6 := by simpa using q6
  obtain ⟨c7, y7, e7, t7⟩ := hf 7 _ rfl
  obtain ⟨b7, l7, p7, zz, rfl, r7⟩ := row_of_trod Tryz.underlying51 Tryz.underlying9 (by kernel_rfl) t7
  unfold maxLen at s0 s2 s3 s5
  refine ⟨⟨b0, b1, b2, b3, b4, b5, b6, zz⟩, fun i f hi => ?_⟩
  rcases i with _ | _ | _ | _ | _ | _ | _ | _ | i
  · cases hi
    exact ⟨_, (hc 0 (by omega)).trans e0, rfl, show b0.size ≤ _ by omega⟩
  · cases hi
    exact ⟨_, (hc 1 (by omega)).trans e1, rfl⟩
  · cases hi
    exact ⟨_, (hc 2 (by omega)).trans e2, rfl, show b2.size ≤ _ by omega⟩
  · cases hi
    exact ⟨_, (hc 3 (by omega)).trans e3, rfl, show b3.size ≤ _ by omega⟩
  · cases hi
    exact ⟨_, (hc 4 (by omega)).trans e4, rfl⟩
  · cases hi
    exact ⟨_, (hc 5 (by omega)).trans e5, rfl, show b5.size ≤ _ by omega⟩
  · cases hi
    exact ⟨_, (hc 6 (by omega)).trans e6, rfl⟩
  · cases hi
    exact ⟨_, (hc 7 (by omega)).trans e7, b7, l7, p7, rfl, r7⟩
  · first | (cases hi; done) | (simp [vdF] at hi; done)

theorem vdrow_of_trod {n : Nat} {c : Value} {y : DataW H × List MemPlace} (h : DataW.trod enc Tryz.prog w base spare held n 24 [c] = some y) : ∃ a len cap, ∃ xs : List Vd, c = .slice a len cap ∧ RRow w a len cap 8 (xs.map vdF) := by
  rcases open_slice Tryz.underlying24 h with ⟨hcs, _⟩ | ⟨a, len, cap, m, n', D, Pl, hcs, hb, hl, hm, hmm, _, hx⟩
  · exact ⟨none, 0, 0, [], by simpa using hcs, rfl, Nat.le_refl _, by omega, .inl rfl⟩
  have hlm : len ≤ m := by rw [hmm]; split <;> omega
  have hm' : cap ≤ 9223372036854775807 := by unfold maxLen at hm; omega
  have hce : Tryz.prog.cellsOf 110 = 8 := by kernel_rfl
  rw [hce] at hx
  by_cases h0 : len = 0
  · subst h0
    exact ⟨some a, 0, cap, [], by simpa using hcs, rfl, hl, hm', .inl rfl⟩
  obtain ⟨b, o, spot⟩ := a
  obtain ⟨cs0, k1, k2⟩ := hx 0 (by omega)
  have hspot : spot = none := by
    obtain ⟨_, hl0, hc0⟩ := World.cells?_some k1
    have := hc0 0 (by omega)
    rw [List.getElem?_eq_getElem (by omega)] at this
    simpa [Addr.add] using World.cell?_spot this
  subst hspot
  have hblt : b < w.heap.size := by
    obtain ⟨_, hl0, hc0⟩ := World.cells?_some k1
    have := hc0 0 (by omega)
    rw [List.getElem?_eq_getElem (by omega)] at this
    rcases Nat.lt_or_ge b w.heap.size with h1 | h1
    · exact h1
    · simp [Addr.add, World.cell?, Array.getElem?_eq_none h1] at this
  have each : ∀ i, i < len → ∃ v : Vd, RAt w b (o + i * 8) (vdF v) := fun i hi => by
    obtain ⟨cs, k1, k2⟩ := hx i (by omega)
    obtain ⟨_, hl0, hc0⟩ := World.cells?_some k1
    refine vd_of_trod (fun j hj => ?_) k2
    have := hc0 j hj
    rw [add_add, Addr.add_lit] at this
    rw [Nat.add_assoc]
    exact this
  have hin : Inhabited Vd := ⟨⟨⟨#[]⟩, 0, ⟨#[]⟩, ⟨#[]⟩, false, ⟨#[]⟩, false, []⟩⟩
  obtain ⟨f, hf⟩ := choose_lt each
  refine ⟨some ⟨b, o, none⟩, len, cap, (List.range len).map f, by simpa using hcs, by simp, hl, hm', .inr ⟨b, o, rfl, hblt, fun j r hj => ?_⟩⟩
  rw [List.getElem?_map, List.getElem?_map] at hj
  by_cases hjl : j < len
  · rw [List.getElem?_range hjl] at hj
    obtain rfl := Option.some.inj hj
    exact hf j hjl
  · rw [List.getElem?_eq_none (by simp; omega)] at hj
    cases hj

theorem xd_of_trod {b o n : Nat} {cs : List Value} {x : DataW H × List MemPlace} (hc : ∀ i, i < 5 → w.cell? ⟨b, o + i, none⟩ = cs[i]?) (h : DataW.trod enc Tryz.prog w base spare held n 30 cs = some x) : ∃ v : Xd, RAt w b o (xdF v) := by
  obtain ⟨m, hl, hf⟩ := open_aggC Tryz.underlying30 (by kernel_rfl) (by kernel_rfl) h
  obtain ⟨c0, y0, e0, t0⟩ := hf 0 _ rfl
  obtain ⟨b0, q0, -, s0⟩ := DataW.trod_string Tryz.underlying9 t0
  obtain rfl : c0 = .string b0 := by simpa using q0
  obtain ⟨c1, y1, e1, t1⟩ := hf 1 _ rfl
  obtain ⟨b1, q1, -, s1⟩ := DataW.trod_int Tryz.underlying2 t1
  obtain rfl : c1 = .int .i64 b1 := by simpa using q1
  obtain ⟨c2, y2, e2, t2⟩ := hf 2 _ rfl
  obtain ⟨b2, q2, -, s2⟩ := DataW.trod_string Tryz.underlying9 t2
  obtain rfl : c2 = .string b2 := by simpa using q2
  obtain ⟨c3, y3, e3, t3⟩ := hf 3 _ rfl
  obtain ⟨b3, q3, -⟩ := DataW.trod_bool Tryz.underlying4 t3
  obtain rfl : c3 = .bool b3 := by simpa using q3
  obtain ⟨c4, y4, e4, t4⟩ := hf 4 _ rfl
  obtain ⟨b4, q4, -, s4⟩ := DataW.trod_string Tryz.underlying9 t4
  obtain rfl : c4 = .string b4 := by simpa using q4
  unfold maxLen at s0 s2 s4
  refine ⟨⟨b0, b1, b2, b3, b4⟩, fun i f hi => ?_⟩
  rcases i with _ | _ | _ | _ | _ | i
  · cases hi
    exact ⟨_, (hc 0 (by omega)).trans e0, rfl, show b0.size ≤ _ by omega⟩
  · cases hi
    exact ⟨_, (hc 1 (by omega)).trans e1, rfl⟩
  · cases hi
    exact ⟨_, (hc 2 (by omega)).trans e2, rfl, show b2.size ≤ _ by omega⟩
  · cases hi
    exact ⟨_, (hc 3 (by omega)).trans e3, rfl⟩
  · cases hi
    exact ⟨_, (hc 4 (by omega)).trans e4, rfl, show b4.size ≤ _ by omega⟩
  · first | (cases hi; done) | (simp [xdF] at hi; done)

theorem xdrow_of_trod {n : Nat} {c : Value} {y : DataW H × List MemPlace} (h : DataW.trod enc Tryz.prog w base spare held n 25 [c] = some y) : ∃ a len cap, ∃ xs : List Xd, c = .slice a len cap ∧ RRow w a len cap 5 (xs.map xdF) := by
  rcases open_slice Tryz.underlying25 h with ⟨hcs, _⟩ | ⟨a, len, cap, m, n', D, Pl, hcs, hb, hl, hm, hmm, _, hx⟩
  · exact ⟨none, 0, 0, [], by simpa using hcs, rfl, Nat.le_refl _, by omega, .inl rfl⟩
  have hlm : len ≤ m := by rw [hmm]; split <;> omega
  have hm' : cap ≤ 9223372036854775807 := by unfold maxLen at hm; omega
  have hce : Tryz.prog.cellsOf 30 = 5 := by kernel_rfl
  rw [hce] at hx
  by_cases h0 : len = 0
  · subst h0
    exact ⟨some a, 0, cap, [], by simpa using hcs, rfl, hl, hm', .inl rfl⟩
  obtain ⟨b, o, spot⟩ := a
  obtain ⟨cs0, k1, k2⟩ := hx 0 (by omega)
  have hspot : spot = none := by
    obtain ⟨_, hl0, hc0⟩ := World.cells?_some k1
    have := hc0 0 (by omega)
    rw [List.getElem?_eq_getElem (by omega)] at this
    simpa [Addr.add] using World.cell?_spot this
  subst hspot
  have hblt : b < w.heap.size := by
    obtain ⟨_, hl0, hc0⟩ := World.cells?_some k1
    have := hc0 0 (by omega)
    rw [List.getElem?_eq_getElem (by omega)] at this
    rcases Nat.lt_or_ge b w.heap.size with h1 | h1
    · exact h1
    · simp [Addr.add, World.cell?, Array.getElem?_eq_none h1] at this
  have each : ∀ i, i < len → ∃ v : Xd, RAt w b (o + i * 5) (xdF v) := fun i hi => by
    obtain ⟨cs, k1, k2⟩ := hx i (by omega)
    obtain ⟨_, hl0, hc0⟩ := World.cells?_some k1
    refine xd_of_trod (fun j hj => ?_) k2
    have := hc0 j hj
    rw [add_add, Addr.add_lit] at this
    rw [Nat.add_assoc]
    exact this
  have hin : Inhabited Xd := ⟨⟨⟨#[]⟩, 0, ⟨#[]⟩, false, ⟨#[]⟩⟩⟩
  obtain ⟨f, hf⟩ := choose_lt each
  refine ⟨some ⟨b, o, none⟩, len, cap, (List.range len).map f, by simpa using hcs, by simp, hl, hm', .inr ⟨b, o, rfl, hblt, fun j r hj => ?_⟩⟩
  rw [List.getElem?_map, List.getElem?_map] at hj
  by_cases hjl : j < len
  · rw [List.getElem?_range hjl] at hj
    obtain rfl := Option.some.inj hj
    exact hf j hjl
  · rw [List.getElem?_eq_none (by simp; omega)] at hj
    cases hj

theorem pd_of_trod {b o n : Nat} {cs : List Value} {x : DataW H × List MemPlace} (hc : ∀ i, i < 6 → w.cell? ⟨b, o + i, none⟩ = cs[i]?) (h : DataW.trod enc Tryz.prog w base spare held n 113 cs = some x) : ∃ v : Pd, RAt w b o (pdF v) := by
  obtain ⟨m, hl, hf⟩ := open_aggC Tryz.underlying113 (by kernel_rfl) (by kernel_rfl) h
  obtain ⟨c0, y0, e0, t0⟩ := hf 0 _ rfl
  obtain ⟨b0, q0, -, s0⟩ := DataW.trod_string Tryz.underlying9 t0
  obtain rfl : c0 = .string b0 := by simpa using q0
  obtain ⟨c1, y1, e1, t1⟩ := hf 1 _ rfl
  obtain ⟨b1, q1, -, s1⟩ := DataW.trod_int Tryz.underlying2 t1
  obtain rfl : c1 = .int .i64 b1 := by simpa using q1
  obtain ⟨c2, y2, e2, t2⟩ := hf 2 _ rfl
  obtain ⟨b2, q2, -, s2⟩ := DataW.trod_string Tryz.underlying9 t2
  obtain rfl : c2 = .string b2 := by simpa using q2
  obtain ⟨c3, y3, e3, t3⟩ := hf 3 _ rfl
  obtain ⟨b3, l3, p3, zz, rfl, r3⟩ := row_of_trod Tryz.underlying51 Tryz.underlying9 (by kernel_rfl) t3
  obtain ⟨c4, y4, e4, t4⟩ := hf 4 _ rfl
  obtain ⟨b4, q4, -, s4⟩ := DataW.trod_string Tryz.underlying9 t4
  obtain rfl : c4 = .string b4 := by simpa using q4
  obtain ⟨c5, y5, e5, t5⟩ := hf 5 _ rfl
  obtain ⟨b5, q5, -, s5⟩ := DataW.trod_int Tryz.underlying2 t5
  obtain rfl : c5 = .int .i64 b5 := by simpa using q5
  unfold maxLen at s0 s2 s4
  refine ⟨⟨b0, b1, b2, zz, b4, b5⟩, fun i f hi => ?_⟩
  rcases i with _ | _ | _ | _ | _ | _ | i
  · cases hi
    exact ⟨_, (hc 0 (by omega)).trans e0, rfl, show b0.size ≤ _ by omega⟩
  · cases hi
    exact ⟨_, (hc 1 (by omega)).trans e1, rfl⟩
  · cases hi
    exact ⟨_, (hc 2 (by omega)).trans e2, rfl, show b2.size ≤ _ by omega⟩
  · cases hi
    exact ⟨_, (hc 3 (by omega)).trans e3, b3, l3, p3, rfl, r3⟩
  · cases hi
    exact ⟨_, (hc 4 (by omega)).trans e4, rfl, show b4.size ≤ _ by omega⟩
  · cases hi
    exact ⟨_, (hc 5 (by omega)).trans e5, rfl⟩
  · first | (cases hi; done) | (simp [pdF] at hi; done)

theorem pdrow_of_trod {n : Nat} {c : Value} {y : DataW H × List MemPlace} (h : DataW.trod enc Tryz.prog w base spare held n 26 [c] = some y) : ∃ a len cap, ∃ xs : List Pd, c = .slice a len cap ∧ RRow w a len cap 6 (xs.map pdF) := by
  rcases open_slice Tryz.underlying26 h with ⟨hcs, _⟩ | ⟨a, len, cap, m, n', D, Pl, hcs, hb, hl, hm, hmm, _, hx⟩
  · exact ⟨none, 0, 0, [], by simpa using hcs, rfl, Nat.le_refl _, by omega, .inl rfl⟩
  have hlm : len ≤ m := by rw [hmm]; split <;> omega
  have hm' : cap ≤ 9223372036854775807 := by unfold maxLen at hm; omega
  have hce : Tryz.prog.cellsOf 113 = 6 := by kernel_rfl
  rw [hce] at hx
  by_cases h0 : len = 0
  · subst h0
    exact ⟨some a, 0, cap, [], by simpa using hcs, rfl, hl, hm', .inl rfl⟩
  obtain ⟨b, o, spot⟩ := a
  obtain ⟨cs0, k1, k2⟩ := hx 0 (by omega)
  have hspot : spot = none := by
    obtain ⟨_, hl0, hc0⟩ := World.cells?_some k1
    have := hc0 0 (by omega)
    rw [List.getElem?_eq_getElem (by omega)] at this
    simpa [Addr.add] using World.cell?_spot this
  subst hspot
  have hblt : b < w.heap.size := by
    obtain ⟨_, hl0, hc0⟩ := World.cells?_some k1
    have := hc0 0 (by omega)
    rw [List.getElem?_eq_getElem (by omega)] at this
    rcases Nat.lt_or_ge b w.heap.size with h1 | h1
    · exact h1
    · simp [Addr.add, World.cell?, Array.getElem?_eq_none h1] at this
  have each : ∀ i, i < len → ∃ v : Pd, RAt w b (o + i * 6) (pdF v) := fun i hi => by
    obtain ⟨cs, k1, k2⟩ := hx i (by omega)
    obtain ⟨_, hl0, hc0⟩ := World.cells?_some k1
    refine pd_of_trod (fun j hj => ?_) k2
    have := hc0 j hj
    rw [add_add, Addr.add_lit] at this
    rw [Nat.add_assoc]
    exact this
  have hin : Inhabited Pd := ⟨⟨⟨#[]⟩, 0, ⟨#[]⟩, [], ⟨#[]⟩, 0⟩⟩
  obtain ⟨f, hf⟩ := choose_lt each
  refine ⟨some ⟨b, o, none⟩, len, cap, (List.range len).map f, by simpa using hcs, by simp, hl, hm', .inr ⟨b, o, rfl, hblt, fun j r hj => ?_⟩⟩
  rw [List.getElem?_map, List.getElem?_map] at hj
  by_cases hjl : j < len
  · rw [List.getElem?_range hjl] at hj
    obtain rfl := Option.some.inj hj
    exact hf j hjl
  · rw [List.getElem?_eq_none (by simp; omega)] at hj
    cases hj

end

end Rc
end Go.Proofs.YtfapjochclhfpaaGreatDoor
