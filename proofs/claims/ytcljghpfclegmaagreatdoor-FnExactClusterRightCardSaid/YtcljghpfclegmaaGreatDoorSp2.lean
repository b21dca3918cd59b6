/-
  What pods use, how many disks are on a node, and whether two pods may be where they are, as the specification asks it.
-/
import Derived.Test.YtcljghpfclegmaaGreatDoorSp1
namespace Go.Proofs.YtcljghpfclegmaaGreatDoor
open Go.RowKit
namespace Rc
open Mk

theorem sbind_hit (d : Ad) (c : Cl) (t : ByteArray) (w : World) (hr : ClRow w d c.raw) (hx : RisBy Xd.n c.xs) (hv : RisBy Vd.n c.vs) (hne : ∀ (j : Nat) v, c.vs[j]? = some v → ¬ v.n = ⟨#[]⟩) {j : Nat} {v : Vd} (hj : c.vs[j]? = some v) (hb : IsBd c t v) :
    Calls Tryz.prog 128 #[.agg #[.slice d.a1 d.l1 d.c1, .slice d.a2 d.l2 d.c2, .slice d.a3 d.l3 d.c3, .slice d.a4 d.l4 d.c4, .slice d.a5 d.l5 d.c5, .int .i64 c.now], .string t] w fun e w' => e = .returned (.int .i64 j) ∧ Below w.heap.size w w' := by
  refine (sbind_any d c t w hr hx hv hne).mono ?_
  rintro e w' ⟨hw, h⟩
  rcases h with ⟨i, u, h1, h2, rfl⟩ | ⟨h1, rfl⟩
  · obtain rfl := IsBd.inj hx hv h2 hb
    obtain ⟨rfl, _⟩ := hv.inj h1 hj rfl
    exact ⟨rfl, hw⟩
  · exact absurd hb (h1 v)
theorem sbind_miss (d : Ad) (c : Cl) (t : ByteArray) (w : World) (hr : ClRow w d c.raw) (hx : RisBy Xd.n c.xs) (hv : RisBy Vd.n c.vs) (hne : ∀ (j : Nat) v, c.vs[j]? = some v → ¬ v.n = ⟨#[]⟩) (hb : ∀ v, ¬ IsBd c t v) :
    Calls Tryz.prog 128 #[.agg #[.slice d.a1 d.l1 d.c1, .slice d.a2 d.l2 d.c2, .slice d.a3 d.l3 d.c3, .slice d.a4 d.l4 d.c4, .slice d.a5 d.l5 d.c5, .int .i64 c.now], .string t] w fun e w' => e = .returned (.int .i64 (-1)) ∧ Below w.heap.size w w' := by
  refine (sbind_any d c t w hr hx hv hne).mono ?_
  rintro e w' ⟨hw, h⟩
  rcases h with ⟨i, u, h1, h2, rfl⟩ | ⟨h1, rfl⟩
  · exact absurd h2 (hb u)
  · exact ⟨rfl, hw⟩
theorem IsBd.at {c : Cl} {t : ByteArray} {v : Vd} (h : IsBd c t v) : ∃ j : Nat, c.vs[j]? = some v := by
  obtain ⟨_, j, _, _, _, h, _⟩ := h
  exact ⟨j, h⟩

set_option maxRecDepth 100000 in
set_option maxHeartbeats 3200000 in
theorem sused_any (d : Ad) (now : Int) (ps : List Pd) (t : ByteArray) (w : World) (hr : RRow w d.a5 d.l5 d.c5 6 (ps.map pdF)) (hl : ps.length ≤ 8) (hp : ∀ (j : Nat) p, ps[j]? = some p → 0 ≤ p.c ∧ p.c ≤ 1000000) :
    Calls Tryz.prog 141 #[.agg #[.slice d.a1 d.l1 d.c1, .slice d.a2 d.l2 d.c2, .slice d.a3 d.l3 d.c3, .slice d.a4 d.l4 d.c4, .slice d.a5 d.l5 d.c5, .int .i64 now], .string t] w fun e w' => e = .returned (.int .i64 (cpuOf t ps)) ∧ Below w.heap.size w w' := by
  obtain ⟨a1, l1, y1, a2, l2, y2, a3, l3, y3, a4, l4, y4, a5, l5, y5⟩ := d
  dsimp only at hr ⊢
  have HR := hidK hr
  have hxl : ps.length = l5 := by simpa using hr.1
  have HP := hidK hp
  clear hr hp
  go_enter Tryz.func141, Tryz.ntmps141
  go_wp2
  go_loopw [5, 6] (fun q i wr => ∃ (k : Nat) (s : Int), k ≤ l5 ∧ q = .int .i64 s ∧ i = .int .i64 k ∧ Hid (s = cpuOf t (ps.take k)) ∧ 0 ≤ s ∧ s ≤ k * 1000000 ∧ wr = w.alloc (.cells #[.slice a1 l1 y1, .slice a2 l2 y2, .slice a3 l3 y3, .slice a4 l4 y4, .slice a5 l5 y5, .int .i64 now] 37)) (fun _ i _ => l5 - (intOf i).toNat)
  case atStart => exact ⟨0, 0, by omega, rfl, rfl, rfl, by omega, by omega, rfl⟩
  case round =>
    obtain ⟨k, s, hk, rfl, rfl, HS, hs0, hs1, rfl⟩ := hrel
    by_cases hlt : k < l5
    · obtain ⟨b, o, p, rfl, hb, hx, hat⟩ := pd_at HR.out hlt
      obtain ⟨va, vl, vc, hvr, z0, z2, z4, c0, c1, c2, c3, c4, c5⟩ := pd_cells hat
      have HX := hidK hx
      have hpc := HP.out k p hx
      clear hat hx z0 z2 z4 hvr
      by_cases hn : p.d = t
      · have hq := tl_yes hn
        have HN := hidK hn
        clear hn
        go_wp2
        refine ⟨⟨k + 1, s + p.c, by omega, by go_num, by go_num, ?_, by omega, by omega, by first | rfl | trivial⟩, by simp [intOf]; omega⟩
        show _ = _
        rw [cpuOf_step HX.out, if_pos HN.out, ← HS.out]
      · have hq := tl_no hn
        have HN := hidK hn
        clear hn
        go_wp2
        refine ⟨⟨k + 1, s, by omega, rfl, by go_num, ?_, by omega, by omega, by first | rfl | trivial⟩, by simp [intOf]; omega⟩
        show _ = _
        rw [cpuOf_step HX.out, if_neg HN.out, ← HS.out, Int.add_zero]
    · obtain rfl : l5 = k := by omega
      go_wp2
      go_ret
      exact ⟨congrArg (fun z => Ending.returned (.int .i64 z)) (HS.out.trans (by rw [List.take_of_length_le (by omega)])), below1 _ _⟩

set_option maxRecDepth 100000 in
set_option maxHeartbeats 3200000 in
theorem son_any (d : Ad) (now : Int) (vs : List Vd) (t : ByteArray) (w : World) (hr : RRow w d.a3 d.l3 d.c3 8 (vs.map vdF)) (hl : vs.length ≤ 8) :
    Calls Tryz.prog 142 #[.agg #[.slice d.a1 d.l1 d.c1, .slice d.a2 d.l2 d.c2, .slice d.a3 d.l3 d.c3, .slice d.a4 d.l4 d.c4, .slice d.a5 d.l5 d.c5, .int .i64 now], .string t] w fun e w' => e = .returned (.int .i64 (onOf t vs)) ∧ Below w.heap.size w w' := by
  obtain ⟨a1, l1, y1, a2, l2, y2, a3, l3, y3, a4, l4, y4, a5, l5, y5⟩ := d
  dsimp only at hr ⊢
  have HR := hidK hr
  have hxl : vs.length = l3 := by simpa using hr.1
  clear hr
  go_enter Tryz.func142, Tryz.ntmps142
  go_wp2
  go_loopw [5, 6] (fun q i wr => ∃ (k : Nat) (s : Int), k ≤ l3 ∧ q = .int .i64 s ∧ i = .int .i64 k ∧ Hid (s = onOf t (vs.take k)) ∧ 0 ≤ s ∧ s ≤ k ∧ Hid (Below w.heap.size w wr) ∧ Hid (wr.heap[w.heap.size]? = some (.cells #[.slice a1 l1 y1, .slice a2 l2 y2, .slice a3 l3 y3, .slice a4 l4 y4, .slice a5 l5 y5, .int .i64 now] 37 (0, 0)))) (fun _ i _ => l3 - (intOf i).toNat)
  case atStart => exact ⟨0, 0, by omega, rfl, rfl, rfl, by omega, by omega, below1 _ _, Array.getElem?_push_size⟩
  case round =>
    obtain ⟨k, s, hk, rfl, rfl, HS, hs0, hs1, HB, Bk⟩ := hrel
    have kk : wr.cell? ⟨w.heap.size, 2, none⟩ = some (.slice a3 l3 y3) := cellK Bk.out 2
    by_cases hlt : k < l3
    · obtain ⟨b, o, v, rfl, hb, hx, hat⟩ := vd_at (HR.out.below HB.out) hlt
      obtain ⟨va, vl, vc, hvr, z0, z2, z3, z5, c0, c1, c2, c3, c4, c5, c6, c7⟩ := vd_cells hat
      have HX := hidK hx
      have HT := hidK hvr
      clear hat hx z0 z2 z3 z5 hvr
      go_wp2_with fail
      refine (shas_any va vl vc v.zs t _ HT.out).mono ?_
      rintro e w1 ⟨r, rfl, hi, hb2⟩
      have Ck := hidK ((hb2.block (w.heap.size) (by have := lt_of_some Bk.out; omega)).trans (Bk.out))
      have HB1 := hidK (HB.out.trans (hb2.mono HB.out.size))
      clear HB hb2 Bk
      have HB := HB1
      clear HB1
      have Bk := Ck
      clear Ck
      have HI := hidK hi
      clear hi hb kk c0 c1 c2 c3 c4 c5 c6 c7
      cases r
      · go_wp2
        refine ⟨⟨k + 1, s, by omega, rfl, by go_num, ?_, by omega, by omega, HB.out, Bk.out⟩, by simp [intOf]; omega⟩
        show _ = _
        rw [onOf_step HX.out, if_neg (fun h => by have := HI.out.2 h; cases this), ← HS.out, Int.add_zero]
      · go_wp2
        refine ⟨⟨k + 1, s + 1, by omega, by go_num, by go_num, ?_, by omega, by omega, HB.out, Bk.out⟩, by simp [intOf]; omega⟩
        show _ = _
        rw [onOf_step HX.out, if_pos (HI.out.1 (by first | trivial | rfl)), ← HS.out]
    · obtain rfl : l3 = k := by omega
      go_wp2
      go_ret
      exact ⟨congrArg (fun z => Ending.returned (.int .i64 z)) (HS.out.trans (by rw [List.take_of_length_le (by omega)])), HB.out⟩

/-- Two pods may be where they are. -/
def PairS (c : Cl) (p q : Pd) : Prop := p.d = ⟨#[]⟩ ∨ q.d = ⟨#[]⟩ ∨ p.d = q.d ∨ ∀ (j : Nat) t, p.zs[j]? = some t → ∀ v, IsBd c t v → v.x = true → ¬ InL q.zs t

set_option maxRecDepth 100000 in
set_option maxHeartbeats 3200000 in
theorem spair_any (d : Ad) (c : Cl) (p q : Pd) (pa : Option Addr) (pl pc : Nat) (qa : Option Addr) (ql qc : Nat) (w : World) (hr : ClRow w d c.raw) (hx : RisBy Xd.n c.xs) (hv : RisBy Vd.n c.vs) (hne : ∀ (j : Nat) v, c.vs[j]? = some v → ¬ v.n = ⟨#[]⟩) (hp : TxRow w pa pl pc p.zs) (hq : TxRow w qa ql qc q.zs) :
    Calls Tryz.prog 140 #[.agg #[.slice d.a1 d.l1 d.c1, .slice d.a2 d.l2 d.c2, .slice d.a3 d.l3 d.c3, .slice d.a4 d.l4 d.c4, .slice d.a5 d.l5 d.c5, .int .i64 c.now], .agg #[.string p.n, .int .i64 p.c, .string p.z, .slice pa pl pc, .string p.d, .int .i64 p.p], .agg #[.string q.n, .int .i64 q.c, .string q.z, .slice qa ql qc, .string q.d, .int .i64 q.p]] w (BoolB (PairS c p q) w) := by
  obtain ⟨a1, l1, y1, a2, l2, y2, a3, l3, y3, a4, l4, y4, a5, l5, y5⟩ := d
  dsimp only
  have HR := hidK hr
  have hl1 : c.ns.length = l1 := by simpa using (show (c.ns.map ndF).length = l1 from hr.n.1)
  have hm1 : l1 ≤ 9223372036854775807 := Nat.le_trans hr.n.2.1 hr.n.2.2.1
  have hl2 : c.ks.length = l2 := by simpa using (show (c.ks.map kdF).length = l2 from hr.k.1)
  have hm2 : l2 ≤ 9223372036854775807 := Nat.le_trans hr.k.2.1 hr.k.2.2.1
  have hl3 : c.vs.length = l3 := by simpa using (show (c.vs.map vdF).length = l3 from hr.v.1)
  have hm3 : l3 ≤ 9223372036854775807 := Nat.le_trans hr.v.2.1 hr.v.2.2.1
  have hl4 : c.xs.length = l4 := by simpa using (show (c.xs.map xdF).length = l4 from hr.x.1)
  have hm4 : l4 ≤ 9223372036854775807 := Nat.le_trans hr.x.2.1 hr.x.2.2.1
  have hl5 : c.ps.length = l5 := by simpa using (show (c.ps.map pdF).length = l5 from hr.p.1)
  have hm5 : l5 ≤ 9223372036854775807 := Nat.le_trans hr.p.2.1 hr.p.2.2.1
  clear hr
  have HX := hidK hx
  have HV := hidK hv
  have HNE := hidK hne
  have HP := hidK hp
  have HQ0 := hidK hq
  have hlc : pl ≤ 9223372036854775807 := Nat.le_trans hp.2.1 hp.2.2.1
  have hzl : p.zs.length = pl := hp.1
  clear hx hv hne hp hq
  by_cases hp0 : p.d = ⟨#[]⟩
  · have e1 := isE_y hp0
    have HH := hidK hp0
    clear hp0
    go_enter Tryz.func140, Tryz.ntmps140
    go_wp2
    go_ret
    exact BoolB.t (.inl HH.out) (below3 _ _ _ _)
  by_cases hq0 : q.d = ⟨#[]⟩
  · have e1 := isE_no hp0
    have e2 := isE_y hq0
    have HH := hidK hq0
    clear hp0 hq0
    go_enter Tryz.func140, Tryz.ntmps140
    go_wp2
    go_ret
    exact BoolB.t (.inr (.inl HH.out)) (below3 _ _ _ _)
  by_cases hpq : p.d = q.d
  · have e1 := isE_no hp0
    have e2 := isE_no hq0
    have e3 := tl_yes hpq
    have HH := hidK hpq
    clear hp0 hq0 hpq
    go_enter Tryz.func140, Tryz.ntmps140
    go_wp2
    go_ret
    exact BoolB.t (.inr (.inr (.inl HH.out))) (below3 _ _ _ _)
  have e1 := isE_no hp0
  have e2 := isE_no hq0
  have e3 := tl_no hpq
  have HP0 := hidK hp0
  have HQ1 := hidK hq0
  have HPQ := hidK hpq
  clear hp0 hq0 hpq
  go_enter Tryz.func140, Tryz.ntmps140
  go_wp2
  clear e1 e2 e3
  go_loopw [7] (fun i wr => ∃ k : Nat, k ≤ pl ∧ i = .int .i64 k ∧ Hid (∀ (j : Nat) t, j < k → p.zs[j]? = some t → ∀ v, IsBd c t v → v.x = true → ¬ InL q.zs t) ∧ Hid (Below w.heap.size w wr) ∧ Hid (wr.heap[w.heap.size]? = some (.cells #[.slice a1 l1 y1, .slice a2 l2 y2, .slice a3 l3 y3, .slice a4 l4 y4, .slice a5 l5 y5, .int .i64 c.now] 37 (0, 0))) ∧ Hid (wr.heap[w.heap.size + 1]? = some (.cells #[.string p.n, .int .i64 p.c, .string p.z, .slice pa pl pc, .string p.d, .int .i64 p.p] 76 (0, 0))) ∧ Hid (wr.heap[w.heap.size + 1 + 1]? = some (.cells #[.string q.n, .int .i64 q.c, .string q.z, .slice qa ql qc, .string q.d, .int .i64 q.p] 76 (0, 0)))) (fun i _ => pl - (intOf i).toNat)
  case atStart => exact ⟨0, by omega, rfl, fun _ _ h => absurd h (by omega), below3 _ _ _ _, heap3_0 _ _ _ _, heap3_1 _ _ _ _, heap3_2 _ _ _ _⟩
  case round =>
    obtain ⟨k, hk, rfl, HQ, HB, Bk, Bx, By⟩ := hrel
    have px3 : wr.cell? ⟨w.heap.size + 1, 3, none⟩ = some (.slice pa pl pc) := cellK Bx.out 3
    by_cases hlt : k < pl
    · obtain ⟨b, o, t, rfl, hb, hxt, hc, hsz⟩ := HP.out.at hlt
      have HXt := hidK hxt
      have hcw := (cell_below HB.out hb).trans hc
      have hbw : b < wr.heap.size := Nat.lt_of_lt_of_le hb HB.out.size
      clear hxt hsz
      have hcase : (∃ v, IsBd c t v) ∨ (∀ v, ¬ IsBd c t v) := by
        by_cases h : ∃ v, IsBd c t v
        · exact .inl h
        · exact .inr (fun v hv => h ⟨v, hv⟩)
      rcases hcase with ⟨v, hbd⟩ | hbd
      · obtain ⟨j3, hj3⟩ := hbd.at
        have hl3' : j3 < l3 := by have h1 := (List.getElem?_eq_some_iff.1 hj3).1; omega
        obtain ⟨b3, o3, v', rfl, hb3, hv', hat⟩ := vd_at HR.out.v hl3'
        rw [hj3] at hv'
        obtain rfl := Option.some.inj hv'
        obtain ⟨va, vl, vc, hvr, z0, z2, z3, z5, c0, c1, c2, c3, c4, c5, c6, c7⟩ := vd_cells hat
        have HJ := hidK hj3
        have HD := hidK hbd
        have hcv := (cell_below HB.out hb3).trans c4
        have hbv : b3 < wr.heap.size := Nat.lt_of_lt_of_le hb3 HB.out.size
        have hj0 : (0 : Int) ≤ j3 := by omega
        clear hv' hat hvr z0 z2 z3 z5 c0 c1 c2 c3 c4 c5 c6 c7 hj3 hbd
        have Gk : Hid (wr.heap[w.heap.size]? = some (.cells #[.slice a1 l1 y1, .slice a2 l2 y2, .slice (some ⟨b3, o3, none⟩) l3 y3, .slice a4 l4 y4, .slice a5 l5 y5, .int .i64 c.now] 37 (0, 0))) := Bk.out
        have Gx : Hid (wr.heap[w.heap.size + 1]? = some (.cells #[.string p.n, .int .i64 p.c, .string p.z, .slice (some ⟨b, o, none⟩) pl pc, .string p.d, .int .i64 p.p] 76 (0, 0))) := Bx.out
        have Gy : Hid (wr.heap[w.heap.size + 1 + 1]? = some (.cells #[.string q.n, .int .i64 q.c, .string q.z, .slice qa ql qc, .string q.d, .int .i64 q.p] 76 (0, 0))) := By.out
        have HW := hidK HB.out
        have k0 : ∀ q : Wd wr, q.w.cell? ⟨w.heap.size, 0, none⟩ = some (.slice a1 l1 y1) := fun q => q.slot Gk.out rfl
        have k1 : ∀ q : Wd wr, q.w.cell? ⟨w.heap.size, 1, none⟩ = some (.slice a2 l2 y2) := fun q => q.slot Gk.out rfl
        have k2 : ∀ q : Wd wr, q.w.cell? ⟨w.heap.size, 2, none⟩ = some (.slice (some ⟨b3, o3, none⟩) l3 y3) := fun q => q.slot Gk.out rfl
        have k3 : ∀ q : Wd wr, q.w.cell? ⟨w.heap.size, 3, none⟩ = some (.slice a4 l4 y4) := fun q => q.slot Gk.out rfl
        have k4 : ∀ q : Wd wr, q.w.cell? ⟨w.heap.size, 4, none⟩ = some (.slice a5 l5 y5) := fun q => q.slot Gk.out rfl
        have k5 : ∀ q : Wd wr, q.w.cell? ⟨w.heap.size, 5, none⟩ = some (.int .i64 c.now) := fun q => q.slot Gk.out rfl
        have x3 : ∀ q : Wd wr, q.w.cell? ⟨w.heap.size + 1, 3, none⟩ = some (.slice (some ⟨b, o, none⟩) pl pc) := fun q => q.slot Gx.out rfl
        have tw : ∀ q : Wd wr, q.w.cell? ⟨b, o + k, none⟩ = some (.string t) := fun q => (q.cell (hbw)).trans (hcw)
        have hne0 := Wd.ne wr
        have HC0 := hidK (fun q : Wd wr => sbind_hit ⟨a1, l1, y1, a2, l2, y2, (some ⟨b3, o3, none⟩), l3, y3, a4, l4, y4, a5, l5, y5⟩ c t q.w (HR.out.below (HW.out.trans (q.b.mono HW.out.size))) HX.out HV.out HNE.out HJ.out HD.out)
        go_wp2_with fail
        refine wp_region_wide (by kernel_rfl) (by kernel_rfl) ?_
        repeat (go_big_quiet_step (first | (go_at_call 128; exact Calls.wide (HC0.out _)) | fail))
        refine wpQuiet_nil ?_
        rintro _ ⟨q1, rfl⟩
        have HB1 := hidK (HW.out.trans (q1.b.mono HW.out.size))
        have Ck := hidK ((q1.b.block _ (lt_of_some Gk.out)).trans Gk.out)
        have Cx := hidK ((q1.b.block _ (lt_of_some Gx.out)).trans Gx.out)
        have Cy := hidK ((q1.b.block _ (lt_of_some Gy.out)).trans Gy.out)
        clear hne0 HW HB HC0 k0 k1 k2 k3 k4 k5 x3 tw Gk Gx Gy Bk Bx By px3
        have HB := HB1
        clear HB1
        have Bk := Ck
        clear Ck
        have Bx := Cx
        clear Cx
        have By := Cy
        clear Cy
        have hcw1 := (q1.cell hbw).trans hcw
        have hbw1 : b < q1.w.heap.size := Nat.lt_of_lt_of_le hbw q1.b.size
        have hcv1 := (q1.cell hbv).trans hcv
        have hbv1 : b3 < q1.w.heap.size := Nat.lt_of_lt_of_le hbv q1.b.size
        clear hcw hbw hcv hbv
        rcases Bool.eq_false_or_eq_true v.x with hs | hs
        rotate_left
        · have HSi := hidK hs
          rw [hs] at hcv1
          clear hs
          have Gk : Hid (q1.w.heap[w.heap.size]? = some (.cells #[.slice a1 l1 y1, .slice a2 l2 y2, .slice (some ⟨b3, o3, none⟩) l3 y3, .slice a4 l4 y4, .slice a5 l5 y5, .int .i64 c.now] 37 (0, 0))) := Bk.out
          have Gx : Hid (q1.w.heap[w.heap.size + 1]? = some (.cells #[.string p.n, .int .i64 p.c, .string p.z, .slice (some ⟨b, o, none⟩) pl pc, .string p.d, .int .i64 p.p] 76 (0, 0))) := Bx.out
          have Gy : Hid (q1.w.heap[w.heap.size + 1 + 1]? = some (.cells #[.string q.n, .int .i64 q.c, .string q.z, .slice qa ql qc, .string q.d, .int .i64 q.p] 76 (0, 0))) := By.out
          have HW := hidK HB.out
          have k2 : ∀ q : Wd q1.w, q.w.cell? ⟨w.heap.size, 2, none⟩ = some (.slice (some ⟨b3, o3, none⟩) l3 y3) := fun q => q.slot Gk.out rfl
          have x3 : ∀ q : Wd q1.w, q.w.cell? ⟨w.heap.size + 1, 3, none⟩ = some (.slice (some ⟨b, o, none⟩) pl pc) := fun q => q.slot Gx.out rfl
          have y3 : ∀ q : Wd q1.w, q.w.cell? ⟨w.heap.size + 1 + 1, 3, none⟩ = some (.slice qa ql qc) := fun q => q.slot Gy.out rfl
          have tw : ∀ q : Wd q1.w, q.w.cell? ⟨b, o + k, none⟩ = some (.string t) := fun q => (q.cell (hbw1)).trans (hcw1)
          have vw : ∀ q : Wd q1.w, q.w.cell? ⟨b3, o3 + j3 * 8 + 4, none⟩ = some (.bool false) := fun q => (q.cell (hbv1)).trans (hcv1)
          have hne0 := Wd.ne q1.w
          go_wp2_with fail
          refine wp_region_wide (by kernel_rfl) (by kernel_rfl) ?_
          repeat (go_big_quiet_step (first | fail))
          refine wpQuiet_nil ?_
          rintro _ ⟨q2, rfl⟩
          have HB2 := hidK (HW.out.trans (q2.b.mono HW.out.size))
          have Ck := hidK ((q2.b.block _ (lt_of_some Gk.out)).trans Gk.out)
          have Cx := hidK ((q2.b.block _ (lt_of_some Gx.out)).trans Gx.out)
          have Cy := hidK ((q2.b.block _ (lt_of_some Gy.out)).trans Gy.out)
          clear hne0 HW HB k2 x3 y3 tw vw Gk Gx Gy Bk Bx By
          have HB := HB2
          clear HB2
          have Bk := Ck
          clear Ck
          have Bx := Cx
          clear Cx
          have By := Cy
          clear Cy
          go_wp2_with fail
          refine ⟨⟨k + 1, by omega, by go_num, fun j s hj hs => ?_, HB.out, Bk.out, Bx.out, By.out⟩, by simp [intOf]; omega⟩
          by_cases e : j = k
          · subst e
            rw [HXt.out] at hs
            obtain rfl := Option.some.inj hs
            intro v2 h1 h2; obtain rfl := IsBd.inj HX.out HV.out HD.out h1; rw [HSi.out] at h2; cases h2
          · exact HQ.out j s (by omega) hs
        have HSi := hidK hs
        rw [hs] at hcv1
        clear hs
        by_cases hin : InL q.zs t
        · have HIn := hidK hin
          clear hin
          have Gk : Hid (q1.w.heap[w.heap.size]? = some (.cells #[.slice a1 l1 y1, .slice a2 l2 y2, .slice (some ⟨b3, o3, none⟩) l3 y3, .slice a4 l4 y4, .slice a5 l5 y5, .int .i64 c.now] 37 (0, 0))) := Bk.out
          have Gx : Hid (q1.w.heap[w.heap.size + 1]? = some (.cells #[.string p.n, .int .i64 p.c, .string p.z, .slice (some ⟨b, o, none⟩) pl pc, .string p.d, .int .i64 p.p] 76 (0, 0))) := Bx.out
          have Gy : Hid (q1.w.heap[w.heap.size + 1 + 1]? = some (.cells #[.string q.n, .int .i64 q.c, .string q.z, .slice qa ql qc, .string q.d, .int .i64 q.p] 76 (0, 0))) := By.out
          have HW := hidK HB.out
          have k2 : ∀ q : Wd q1.w, q.w.cell? ⟨w.heap.size, 2, none⟩ = some (.slice (some ⟨b3, o3, none⟩) l3 y3) := fun q => q.slot Gk.out rfl
          have x3 : ∀ q : Wd q1.w, q.w.cell? ⟨w.heap.size + 1, 3, none⟩ = some (.slice (some ⟨b, o, none⟩) pl pc) := fun q => q.slot Gx.out rfl
          have y3 : ∀ q : Wd q1.w, q.w.cell? ⟨w.heap.size + 1 + 1, 3, none⟩ = some (.slice qa ql qc) := fun q => q.slot Gy.out rfl
          have tw : ∀ q : Wd q1.w, q.w.cell? ⟨b, o + k, none⟩ = some (.string t) := fun q => (q.cell (hbw1)).trans (hcw1)
          have vw : ∀ q : Wd q1.w, q.w.cell? ⟨b3, o3 + j3 * 8 + 4, none⟩ = some (.bool true) := fun q => (q.cell (hbv1)).trans (hcv1)
          have hne0 := Wd.ne q1.w
          have HC0 := hidK (fun qq : Wd q1.w => (shas_any qa ql qc q.zs t qq.w (HQ0.out.below (HW.out.trans (qq.b.mono HW.out.size)))).mono (fun _ _ h => BoolB.yes h HIn.out))
          go_wp2_with fail
          refine wp_region_wide (by kernel_rfl) (by kernel_rfl) ?_
          repeat (go_big_quiet_step (first | (go_at_call 130; exact Calls.wide (HC0.out _)) | fail))
          refine wpQuiet_nil ?_
          rintro _ ⟨q2, rfl⟩
          have HB2 := hidK (HW.out.trans (q2.b.mono HW.out.size))
          have Ck := hidK ((q2.b.block _ (lt_of_some Gk.out)).trans Gk.out)
          have Cx := hidK ((q2.b.block _ (lt_of_some Gx.out)).trans Gx.out)
          have Cy := hidK ((q2.b.block _ (lt_of_some Gy.out)).trans Gy.out)
          clear hne0 HW HB HC0 k2 x3 y3 tw vw Gk Gx Gy Bk Bx By
          have HB := HB2
          clear HB2
          have Bk := Ck
          clear Ck
          have Bx := Cx
          clear Cx
          have By := Cy
          clear Cy
          go_wp2
          go_ret
          refine BoolB.f (fun h => ?_) HB.out
          rcases h with h | h | h | h
          · exact HP0.out h
          · exact HQ1.out h
          · exact HPQ.out h
          · exact h k t HXt.out v HD.out HSi.out HIn.out
        · have HIn := hidK hin
          clear hin
          have Gk : Hid (q1.w.heap[w.heap.size]? = some (.cells #[.slice a1 l1 y1, .slice a2 l2 y2, .slice (some ⟨b3, o3, none⟩) l3 y3, .slice a4 l4 y4, .slice a5 l5 y5, .int .i64 c.now] 37 (0, 0))) := Bk.out
          have Gx : Hid (q1.w.heap[w.heap.size + 1]? = some (.cells #[.string p.n, .int .i64 p.c, .string p.z, .slice (some ⟨b, o, none⟩) pl pc, .string p.d, .int .i64 p.p] 76 (0, 0))) := Bx.out
          have Gy : Hid (q1.w.heap[w.heap.size + 1 + 1]? = some (.cells #[.string q.n, .int .i64 q.c, .string q.z, .slice qa ql qc, .string q.d, .int .i64 q.p] 76 (0, 0))) := By.out
          have HW := hidK HB.out
          have k2 : ∀ q : Wd q1.w, q.w.cell? ⟨w.heap.size, 2, none⟩ = some (.slice (some ⟨b3, o3, none⟩) l3 y3) := fun q => q.slot Gk.out rfl
          have x3 : ∀ q : Wd q1.w, q.w.cell? ⟨w.heap.size + 1, 3, none⟩ = some (.slice (some ⟨b, o, none⟩) pl pc) := fun q => q.slot Gx.out rfl
          have y3 : ∀ q : Wd q1.w, q.w.cell? ⟨w.heap.size + 1 + 1, 3, none⟩ = some (.slice qa ql qc) := fun q => q.slot Gy.out rfl
          have tw : ∀ q : Wd q1.w, q.w.cell? ⟨b, o + k, none⟩ = some (.string t) := fun q => (q.cell (hbw1)).trans (hcw1)
          have vw : ∀ q : Wd q1.w, q.w.cell? ⟨b3, o3 + j3 * 8 + 4, none⟩ = some (.bool true) := fun q => (q.cell (hbv1)).trans (hcv1)
          have hne0 := Wd.ne q1.w
          have HC0 := hidK (fun qq : Wd q1.w => (shas_any qa ql qc q.zs t qq.w (HQ0.out.below (HW.out.trans (qq.b.mono HW.out.size)))).mono (fun _ _ h => BoolB.no h HIn.out))
          go_wp2_with fail
          refine wp_region_wide (by kernel_rfl) (by kernel_rfl) ?_
          repeat (go_big_quiet_step (first | (go_at_call 130; exact Calls.wide (HC0.out _)) | fail))
          refine wpQuiet_nil ?_
          rintro _ ⟨q2, rfl⟩
          have HB2 := hidK (HW.out.trans (q2.b.mono HW.out.size))
          have Ck := hidK ((q2.b.block _ (lt_of_some Gk.out)).trans Gk.out)
          have Cx := hidK ((q2.b.block _ (lt_of_some Gx.out)).trans Gx.out)
          have Cy := hidK ((q2.b.block _ (lt_of_some Gy.out)).trans Gy.out)
          clear hne0 HW HB HC0 k2 x3 y3 tw vw Gk Gx Gy Bk Bx By
          have HB := HB2
          clear HB2
          have Bk := Ck
          clear Ck
          have Bx := Cx
          clear Cx
          have By := Cy
          clear Cy
          go_wp2_with fail
          refine ⟨⟨k + 1, by omega, by go_num, fun j s hj hs => ?_, HB.out, Bk.out, Bx.out, By.out⟩, by simp [intOf]; omega⟩
          by_cases e : j = k
          · subst e
            rw [HXt.out] at hs
            obtain rfl := Option.some.inj hs
            intro v2 h1 h2; exact HIn.out
          · exact HQ.out j s (by omega) hs
      · have HD := hidK hbd
        clear hbd
        have Gk : Hid (wr.heap[w.heap.size]? = some (.cells #[.slice a1 l1 y1, .slice a2 l2 y2, .slice a3 l3 y3, .slice a4 l4 y4, .slice a5 l5 y5, .int .i64 c.now] 37 (0, 0))) := Bk.out
        have Gx : Hid (wr.heap[w.heap.size + 1]? = some (.cells #[.string p.n, .int .i64 p.c, .string p.z, .slice (some ⟨b, o, none⟩) pl pc, .string p.d, .int .i64 p.p] 76 (0, 0))) := Bx.out
        have Gy : Hid (wr.heap[w.heap.size + 1 + 1]? = some (.cells #[.string q.n, .int .i64 q.c, .string q.z, .slice qa ql qc, .string q.d, .int .i64 q.p] 76 (0, 0))) := By.out
        have HW := hidK HB.out
        have k0 : ∀ q : Wd wr, q.w.cell? ⟨w.heap.size, 0, none⟩ = some (.slice a1 l1 y1) := fun q => q.slot Gk.out rfl
        have k1 : ∀ q : Wd wr, q.w.cell? ⟨w.heap.size, 1, none⟩ = some (.slice a2 l2 y2) := fun q => q.slot Gk.out rfl
        have k2 : ∀ q : Wd wr, q.w.cell? ⟨w.heap.size, 2, none⟩ = some (.slice a3 l3 y3) := fun q => q.slot Gk.out rfl
        have k3 : ∀ q : Wd wr, q.w.cell? ⟨w.heap.size, 3, none⟩ = some (.slice a4 l4 y4) := fun q => q.slot Gk.out rfl
        have k4 : ∀ q : Wd wr, q.w.cell? ⟨w.heap.size, 4, none⟩ = some (.slice a5 l5 y5) := fun q => q.slot Gk.out rfl
        have k5 : ∀ q : Wd wr, q.w.cell? ⟨w.heap.size, 5, none⟩ = some (.int .i64 c.now) := fun q => q.slot Gk.out rfl
        have x3 : ∀ q : Wd wr, q.w.cell? ⟨w.heap.size + 1, 3, none⟩ = some (.slice (some ⟨b, o, none⟩) pl pc) := fun q => q.slot Gx.out rfl
        have tw : ∀ q : Wd wr, q.w.cell? ⟨b, o + k, none⟩ = some (.string t) := fun q => (q.cell (hbw)).trans (hcw)
        have hne0 := Wd.ne wr
        have HC0 := hidK (fun q : Wd wr => sbind_miss ⟨a1, l1, y1, a2, l2, y2, a3, l3, y3, a4, l4, y4, a5, l5, y5⟩ c t q.w (HR.out.below (HW.out.trans (q.b.mono HW.out.size))) HX.out HV.out HNE.out HD.out)
        go_wp2_with fail
        refine wp_region_wide (by kernel_rfl) (by kernel_rfl) ?_
        repeat (go_big_quiet_step (first | (go_at_call 128; exact Calls.wide (HC0.out _)) | fail))
        refine wpQuiet_nil ?_
        rintro _ ⟨q1, rfl⟩
        have HB1 := hidK (HW.out.trans (q1.b.mono HW.out.size))
        have Ck := hidK ((q1.b.block _ (lt_of_some Gk.out)).trans Gk.out)
        have Cx := hidK ((q1.b.block _ (lt_of_some Gx.out)).trans Gx.out)
        have Cy := hidK ((q1.b.block _ (lt_of_some Gy.out)).trans Gy.out)
        clear hne0 HW HB HC0 k0 k1 k2 k3 k4 k5 x3 tw Gk Gx Gy Bk Bx By px3
        have HB := HB1
        clear HB1
        have Bk := Ck
        clear Ck
        have Bx := Cx
        clear Cx
        have By := Cy
        clear Cy
        have Gk : Hid (q1.w.heap[w.heap.size]? = some (.cells #[.slice a1 l1 y1, .slice a2 l2 y2, .slice a3 l3 y3, .slice a4 l4 y4, .slice a5 l5 y5, .int .i64 c.now] 37 (0, 0))) := Bk.out
        have Gx : Hid (q1.w.heap[w.heap.size + 1]? = some (.cells #[.string p.n, .int .i64 p.c, .string p.z, .slice (some ⟨b, o, none⟩) pl pc, .string p.d, .int .i64 p.p] 76 (0, 0))) := Bx.out
        have Gy : Hid (q1.w.heap[w.heap.size + 1 + 1]? = some (.cells #[.string q.n, .int .i64 q.c, .string q.z, .slice qa ql qc, .string q.d, .int .i64 q.p] 76 (0, 0))) := By.out
        have HW := hidK HB.out
        have k2 : ∀ q : Wd q1.w, q.w.cell? ⟨w.heap.size, 2, none⟩ = some (.slice a3 l3 y3) := fun q => q.slot Gk.out rfl
        have x3 : ∀ q : Wd q1.w, q.w.cell? ⟨w.heap.size + 1, 3, none⟩ = some (.slice (some ⟨b, o, none⟩) pl pc) := fun q => q.slot Gx.out rfl
        have y3 : ∀ q : Wd q1.w, q.w.cell? ⟨w.heap.size + 1 + 1, 3, none⟩ = some (.slice qa ql qc) := fun q => q.slot Gy.out rfl
        have hne0 := Wd.ne q1.w
        go_wp2_with fail
        refine wp_region_wide (by kernel_rfl) (by kernel_rfl) ?_
        repeat (go_big_quiet_step (first | fail))
        refine wpQuiet_nil ?_
        rintro _ ⟨q2, rfl⟩
        have HB2 := hidK (HW.out.trans (q2.b.mono HW.out.size))
        have Ck := hidK ((q2.b.block _ (lt_of_some Gk.out)).trans Gk.out)
        have Cx := hidK ((q2.b.block _ (lt_of_some Gx.out)).trans Gx.out)
        have Cy := hidK ((q2.b.block _ (lt_of_some Gy.out)).trans Gy.out)
        clear hne0 HW HB k2 x3 y3 Gk Gx Gy Bk Bx By
        have HB := HB2
        clear HB2
        have Bk := Ck
        clear Ck
        have Bx := Cx
        clear Cx
        have By := Cy
        clear Cy
        go_wp2_with fail
        refine ⟨⟨k + 1, by omega, by go_num, fun j s hj hs => ?_, HB.out, Bk.out, Bx.out, By.out⟩, by simp [intOf]; omega⟩
        by_cases e : j = k
        · subst e
          rw [HXt.out] at hs
          obtain rfl := Option.some.inj hs
          intro v2 h1; exact absurd h1 (HD.out v2)
        · exact HQ.out j s (by omega) hs
    · obtain rfl : pl = k := by omega
      go_wp2
      go_ret
      exact BoolB.t (.inr (.inr (.inr (fun j t ht => HQ.out j t (by have := (List.getElem?_eq_some_iff.1 ht).1; omega) ht)))) HB.out

end Rc
end Go.Proofs.YtcljghpfclegmaaGreatDoor
