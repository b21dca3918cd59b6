import Derived.Test.YtclhdmpfponjdaaGreatDoorD3
import Derived.WalkKit
import Derived.LaidEql
import Derived.Stop.Asserts
import Derived.RowKitTokens
import Derived.RegionTactic
/-
  Whether pods are where they may be, as the specification asks it.
-/
namespace Go.Proofs.YtclhdmpfponjdaaGreatDoor
open Go.RowKit
namespace Rc
open Mk

def PSa (c : Cl) (p : Pd) : Prop := p.d = ⟨#[]⟩ ∨ ∃ (i : Nat) (n : Nd), c.ns[i]? = some n ∧ n.n = p.d ∧ (p.z = ⟨#[]⟩ ∨ n.z = p.z)
def PSb1 (c : Cl) (p : Pd) (t : ByteArray) : Prop := (∃ (i : Nat) (x : Xd), c.xs[i]? = some x ∧ x.n = t) ∧ (p.d = ⟨#[]⟩ ∨ ∃ (v : Vd) (i : Nat) (n : Nd), IsBd c t v ∧ c.ns[i]? = some n ∧ n.n = p.d ∧ v.z = n.z)
def PSb (c : Cl) (p : Pd) : Prop := ∀ (j : Nat) t, p.zs[j]? = some t → PSb1 c p t
def PSc (c : Cl) (k : Nat) (p : Pd) : Prop := ∀ (j : Nat) q, j < k → c.ps[j]? = some q → PairS c q p
def PS (c : Cl) (k : Nat) (p : Pd) : Prop := PSa c p ∧ PSb c p ∧ PSc c k p
def PlacedS (c : Cl) : Prop := (∀ (k : Nat) p, c.ps[k]? = some p → PS c k p) ∧ ∀ (j : Nat) n, c.ns[j]? = some n → cpuOf n.n c.ps ≤ n.c

set_option maxRecDepth 100000 in
set_option maxHeartbeats 12800000 in
theorem splaced_any (d : Ad) (c : Cl) (w : World) (hr : ClRow w d c.raw) (hn : RisBy Nd.n c.ns) (hx : RisBy Xd.n c.xs) (hv : RisBy Vd.n c.vs) (hne : ∀ (j : Nat) v, c.vs[j]? = some v → ¬ v.n = ⟨#[]⟩) (hps8 : c.ps.length ≤ 8) (hpc : ∀ (j : Nat) p, c.ps[j]? = some p → 0 ≤ p.c ∧ p.c ≤ 1000000) :
    Calls Tryz.prog 47 #[.agg #[.slice d.a1 d.l1 d.c1, .slice d.a2 d.l2 d.c2, .slice d.a3 d.l3 d.c3, .slice d.a4 d.l4 d.c4, .slice d.a5 d.l5 d.c5, .int .i64 c.now]] w (BoolB (PlacedS c) w) := by
  obtain ⟨a1, l1, y1, a2, l2, y2, a3, l3, y3, a4, l4, y4, a5, l5, y5⟩ := d
  dsimp only
  have HR := hidK hr
  have hl1 : c.ns.length = l1 := by simpa using (show (c.ns.map ndF).length = l1 from hr.n.1)
  have hm1 : l1 ≤ 9223372036854775807 := Nat.le_trans hr.n.2.1 hr.n.2.2.1
  have hl2 : c.ks.length = l2 := by simpa using (show (c.ks.map kdF).length = l2 from hr.k.1)
  have hm2 : l2 ≤ 9223372036854775807 := Nat.le_trans hr.k.2.1 hr.k.2.2.1
  have hl3 : c.vs.length = l3 := by simpa using (show (c.vs.map vdF).length = l3 from hr.v.1)
  have hm3 : l3 ≤ 9223372036854775807 := Nat.le_trans hr.v.2.1 hr.v.2.2.1
  have hl4 : c.xs.length = l4 := by simpa using (show (c.xs.map xdF).length = l4 from hr.x.1)
  have hm4 : l4 ≤ 9223372036854775807 := Nat.le_trans hr.x.2.1 hr.x.2.2.1
  have hl5 : c.ps.length = l5 := by simpa using (show (c.ps.map pdF).length = l5 from hr.p.1)
  have hm5 : l5 ≤ 9223372036854775807 := Nat.le_trans hr.p.2.1 hr.p.2.2.1
  clear hr
  have HNR := hidK hn
  have HX := hidK hx
  have HV := hidK hv
  have HNE := hidK hne
  have HL5 := hidK hps8
  have HPC := hidK hpc
  clear hn hx hv hne hps8 hpc
  go_enter Tryz.func47, Tryz.ntmps47
  go_wp2
  go_loopw [3] (fun i wr => ∃ k : Nat, k ≤ l5 ∧ i = .int .i64 k ∧ Hid (∀ (j : Nat) z, j < k → c.ps[j]? = some z → PS c j z) ∧ Hid (Below w.heap.size w wr) ∧ Hid (wr.heap[w.heap.size]? = some (.cells #[.slice a1 l1 y1, .slice a2 l2 y2, .slice a3 l3 y3, .slice a4 l4 y4, .slice a5 l5 y5, .int .i64 c.now] 38 (0, 0)))) (fun i _ => l5 - (intOf i).toNat)
  case atStart => exact ⟨0, by omega, rfl, fun _ _ h => absurd h (by omega), below1 _ _, Array.getElem?_push_size⟩
  case round =>
    obtain ⟨k, hk, rfl, HQ, HB, Bk⟩ := hrel
    have pk : wr.cell? ⟨w.heap.size, 4, none⟩ = some (.slice a5 l5 y5) := cellK Bk.out 4
    by_cases hlt : k < l5
    · obtain ⟨b, o, p, rfl, hb, hx, hat⟩ := pd_at (HR.out.p.below HB.out) hlt
      obtain ⟨va, vl, vc, hvr, z0, z2, z4, c0, c1, c2, c3, c4, c5⟩ := pd_cells hat
      have HXp := hidK hx
      have HTp := hidK hvr
      have HZp0 := hidK z0
      have HZp2 := hidK z2
      have HZp4 := hidK z4
      clear hat hx z0 z2 z4 hvr
      have hvl : p.zs.length = vl := HTp.out.1
      have hvc : vl ≤ 9223372036854775807 := Nat.le_trans HTp.out.2.1 HTp.out.2.2.1
      have HVL := hidK hvl
      clear hvl
      obtain ⟨k0, k1, k2, k3, k4, k5⟩ := cs6 Bk.out
      have ltk_0 := lt_of_some Bk.out
      go_wp2_with fail
      refine (sxnd_any ⟨a1, l1, y1, a2, l2, y2, a3, l3, y3, a4, l4, y4, (some ⟨b, o, none⟩), l5, y5⟩ c.now c.ns p.d _ (HR.out.n.below (HB.out.trans ((below1 _ _).mono HB.out.size)))).mono ?_
      rintro e w1 ⟨hb2, hf⟩
      clear k0 k1 k2 k3 k4 k5 ltk_0
      obtain ⟨HA0, hbx⟩ := slots1 hb2
      replace Bk := upK Bk hbx
      have Br := hidK HA0
      replace HTp := hidK (HTp.out.below hbx)
      replace HB := upB HB hbx
      clear hb2 hbx HA0
      clear pk hb c0 c1 c2 c3 c4 c5
      by_cases he : p.d = ⟨#[]⟩
      · have hq := isE_y he
        have HEm := hidK he
        clear he
        obtain ⟨r5, hre⟩ : ∃ r : Int, e = .returned (.int .i64 r) := by rcases hf with ⟨j, y, _, _, h⟩ | ⟨_, h⟩ <;> exact ⟨_, h⟩
        subst hre
        clear hf
        have Gk : Hid (w1.heap[w.heap.size]? = some (.cells #[.slice a1 l1 y1, .slice a2 l2 y2, .slice a3 l3 y3, .slice a4 l4 y4, .slice (some ⟨b, o, none⟩) l5 y5, .int .i64 c.now] 38 (0, 0))) := Bk.out
        have Gr : Hid (w1.heap[wr.heap.size]? = some (.cells #[.string p.n, .int .i64 p.c, .string p.z, .slice va vl vc, .string p.d, .int .i64 p.p] 89 (0, 0))) := Br.out
        have HW : Hid (Below w.heap.size w w1) := HB.out
        have k0 := fun q : Wd w1 => q.slot (o := 0) Gk.out rfl
        have r0 := fun q : Wd w1 => q.slot (o := 0) Gr.out rfl
        have r1 := fun q : Wd w1 => q.slot (o := 1) Gr.out rfl
        have r2 := fun q : Wd w1 => q.slot (o := 2) Gr.out rfl
        have r3 := fun q : Wd w1 => q.slot (o := 3) Gr.out rfl
        have r4 := fun q : Wd w1 => q.slot (o := 4) Gr.out rfl
        have r5 := fun q : Wd w1 => q.slot (o := 5) Gr.out rfl
        have hne0 := Wd.ne w1
        go_wp2_with fail
        refine wp_region_wide (by kernel_rfl) (by kernel_rfl) ?_
        repeat (go_big_quiet_step (first | fail))
        refine wpQuiet_nil ?_
        rintro _ ⟨q0, rfl⟩
        have HB2 := upB HW q0.b
        have Ck := upK Gk q0.b
        have Cr := upK Gr q0.b
        have CHTp := hidK ((HTp.out).below q0.b)
        clear hne0 HW HB k0 r0 r1 r2 r3 r4 r5 Gk Gr Bk Br HTp
        have HB := HB2
        clear HB2
        have HTp := CHTp
        clear CHTp
        have Bk := Ck
        clear Ck
        have Br := Cr
        clear Cr
        have HPa : Hid (PSa c p) := .inl HEm.out
        obtain ⟨gb, hgb⟩ : ∃ gb, gb = wr.heap.size := ⟨_, rfl⟩
        rw [← hgb] at Br
        have pr3 : q0.w.cell? ⟨gb, 3, none⟩ = some (.slice va vl vc) := cellK Br.out 3
        rw [hgb] at pr3
        go_wp2
        rw [← hgb]
        clear pr3 hgb
        have KV := Bk
        have GV := Br
        have BV := HB
        have TV := HTp
        clear Bk Br HB HTp
        obtain ⟨W, hW⟩ : ∃ W, W = q0.w := ⟨_, rfl⟩
        rw [← hW] at KV GV BV TV ⊢
        clear hW
        go_loopw [6] (fun i wr => ∃ kq : Nat, kq ≤ vl ∧ i = .int .i64 kq ∧ Hid (∀ (j : Nat) t, j < kq → p.zs[j]? = some t → PSb1 c p t) ∧ Hid (Below W.heap.size W wr)) (fun i _ => vl - (intOf i).toNat)
        case atStart => exact ⟨0, by omega, rfl, fun _ _ h => absurd h (by omega), Below.refl _ _⟩
        case round =>
          obtain ⟨kq, hkq, rfl, HQ2, HBW⟩ := hrel
          have HB := hidK (BV.out.trans (HBW.out.mono BV.out.size))
          have Bk := upK KV HBW.out
          have Br := upK GV HBW.out
          have pr3 : wr.cell? ⟨gb, 3, none⟩ = some (.slice va vl vc) := cellK Br.out 3
          by_cases hlt2 : kq < vl
          · obtain ⟨b2, o2, t, rfl, hb, hxt, hc, hsz⟩ := (TV.out.below HBW.out).at hlt2
            have HXt := hidK hxt
            clear hxt hsz
            have hcase : (∃ v, IsBd c t v) ∨ (∀ v, ¬ IsBd c t v) := by
              by_cases h : ∃ v, IsBd c t v
              · exact .inl h
              · exact .inr (fun v hv => h ⟨v, hv⟩)
            rcases hcase with ⟨v, hbd⟩ | hbd
            · obtain ⟨j3, hj3⟩ := hbd.at
              have hl3' : j3 < l3 := by have h1 := (List.getElem?_eq_some_iff.1 hj3).1; omega
              obtain ⟨b3, o3, v', rfl, hb3, hv', hat⟩ := vd_at HR.out.v hl3'
              rw [hj3] at hv'
              obtain rfl := Option.some.inj hv'
              obtain ⟨xa, xl, xc, hvr, z0, z2, z3, z5, d0, d1, d2, d3, d4, d5, d6, d7⟩ := vd_cells hat
              have HJ := hidK hj3
              have HD := hidK hbd
              have HC2 := hidK d2
              have HB3 := hidK hb3
              have hj31 : decide ((j3 : Int) < 0) = false := by simp
              clear hv' hat hvr z0 z2 z3 z5 d0 d1 d2 d3 d4 d5 d6 d7 hj3 hbd hb3
              have Gk : Hid (wr.heap[w.heap.size]? = some (.cells #[.slice a1 l1 y1, .slice a2 l2 y2, .slice (some ⟨b3, o3, none⟩) l3 y3, .slice a4 l4 y4, .slice (some ⟨b, o, none⟩) l5 y5, .int .i64 c.now] 38 (0, 0))) := Bk.out
              have Gr : Hid (wr.heap[gb]? = some (.cells #[.string p.n, .int .i64 p.c, .string p.z, .slice (some ⟨b2, o2, none⟩) vl vc, .string p.d, .int .i64 p.p] 89 (0, 0))) := Br.out
              have HW : Hid (Below w.heap.size w wr) := HB.out
              have k0 := fun q : Wd wr => q.slot (o := 0) Gk.out rfl
              have k1 := fun q : Wd wr => q.slot (o := 1) Gk.out rfl
              have k2 := fun q : Wd wr => q.slot (o := 2) Gk.out rfl
              have k3 := fun q : Wd wr => q.slot (o := 3) Gk.out rfl
              have k4 := fun q : Wd wr => q.slot (o := 4) Gk.out rfl
              have k5 := fun q : Wd wr => q.slot (o := 5) Gk.out rfl
              have r3 := fun q : Wd wr => q.slot (o := 3) Gr.out rfl
              have tw : ∀ q : Wd wr, q.w.cell? ⟨b2, o2 + kq, none⟩ = some (.string t) := fun q => (q.cell (hb)).trans (hc)
              have hne0 := Wd.ne wr
              have HC0 := hidK (fun q : Wd wr => sbind_hit ⟨a1, l1, y1, a2, l2, y2, (some ⟨b3, o3, none⟩), l3, y3, a4, l4, y4, (some ⟨b, o, none⟩), l5, y5⟩ c t q.w (HR.out.below (HW.out.trans (q.b.mono HW.out.size))) HX.out HV.out HNE.out HJ.out HD.out)
              go_wp2_with fail
              refine wp_region_wide (by kernel_rfl) (by kernel_rfl) ?_
              repeat (go_big_quiet_step (first | (go_at_call 78; exact Calls.wide (HC0.out _)) | fail))
              refine wpQuiet_nil ?_
              rintro _ ⟨q1, rfl⟩
              have HB1 := upB HW q1.b
              have Ck := upK Gk q1.b
              have Cr := upK Gr q1.b
              clear hne0 HW HB HC0 k0 k1 k2 k3 k4 k5 r3 tw Gk Gr Bk Br pr3
              have HB := HB1
              clear HB1
              have Bk := Ck
              clear Ck
              have Br := Cr
              clear Cr
              have hc1 := (q1.cell hb).trans hc
              have hb1 : b2 < q1.w.heap.size := Nat.lt_of_lt_of_le hb q1.b.size
              have HBW1 := upB HBW q1.b
              clear hc hb HBW
              by_cases hg : ∃ (i : Nat) (x : Xd), c.xs[i]? = some x ∧ x.n = t
              rotate_left
              · have HG := hidK hg
                clear hg
                have Gk : Hid (q1.w.heap[w.heap.size]? = some (.cells #[.slice a1 l1 y1, .slice a2 l2 y2, .slice (some ⟨b3, o3, none⟩) l3 y3, .slice a4 l4 y4, .slice (some ⟨b, o, none⟩) l5 y5, .int .i64 c.now] 38 (0, 0))) := Bk.out
                have Gr : Hid (q1.w.heap[gb]? = some (.cells #[.string p.n, .int .i64 p.c, .string p.z, .slice (some ⟨b2, o2, none⟩) vl vc, .string p.d, .int .i64 p.p] 89 (0, 0))) := Br.out
                have HW : Hid (Below w.heap.size w q1.w) := HB.out
                have k0 := fun q : Wd q1.w => q.slot (o := 0) Gk.out rfl
                have k1 := fun q : Wd q1.w => q.slot (o := 1) Gk.out rfl
                have k2 := fun q : Wd q1.w => q.slot (o := 2) Gk.out rfl
                have k3 := fun q : Wd q1.w => q.slot (o := 3) Gk.out rfl
                have k4 := fun q : Wd q1.w => q.slot (o := 4) Gk.out rfl
                have k5 := fun q : Wd q1.w => q.slot (o := 5) Gk.out rfl
                have r0 := fun q : Wd q1.w => q.slot (o := 0) Gr.out rfl
                have r1 := fun q : Wd q1.w => q.slot (o := 1) Gr.out rfl
                have r2 := fun q : Wd q1.w => q.slot (o := 2) Gr.out rfl
                have r3 := fun q : Wd q1.w => q.slot (o := 3) Gr.out rfl
                have r4 := fun q : Wd q1.w => q.slot (o := 4) Gr.out rfl
                have r5 := fun q : Wd q1.w => q.slot (o := 5) Gr.out rfl
                have tw : ∀ q : Wd q1.w, q.w.cell? ⟨b2, o2 + kq, none⟩ = some (.string t) := fun q => (q.cell (hb1)).trans (hc1)
                have hne0 := Wd.ne q1.w
                have HC0 := hidK (fun q : Wd q1.w => sxxd_miss ⟨a1, l1, y1, a2, l2, y2, (some ⟨b3, o3, none⟩), l3, y3, a4, l4, y4, (some ⟨b, o, none⟩), l5, y5⟩ c.now c.xs t q.w (HR.out.x.below (HW.out.trans (q.b.mono HW.out.size))) (fun i x h1 h2 => HG.out ⟨i, x, h1, h2⟩))
                go_wp2_with fail
                refine wp_region_wide (by kernel_rfl) (by kernel_rfl) ?_
                repeat (go_big_quiet_step (first | (go_at_call 75; exact Calls.wide (HC0.out _)) | fail))
                refine wpQuiet_nil ?_
                rintro _ ⟨q2, rfl⟩
                have HB2 := upB HW q2.b
                have Ck := upK Gk q2.b
                have Cr := upK Gr q2.b
                clear hne0 HW HB HC0 k0 k1 k2 k3 k4 k5 r0 r1 r2 r3 r4 r5 tw Gk Gr Bk Br hc1 hb1
                have HB := HB2
                clear HB2
                have Bk := Ck
                clear Ck
                have Br := Cr
                clear Cr
                go_wp2
                go_ret
                refine BoolB.f (fun h => ?_) HB.out
                have h9 := (h.1 k p HXp.out).2.1 kq t HXt.out
                exact HG.out h9.1
              obtain ⟨i4, x4, g1, g2⟩ := hg
              have HG1 := hidK g1
              have HG2 := hidK g2
              have hi41 : decide ((i4 : Int) < 0) = false := by simp
              clear g1 g2
              have Gk : Hid (q1.w.heap[w.heap.size]? = some (.cells #[.slice a1 l1 y1, .slice a2 l2 y2, .slice (some ⟨b3, o3, none⟩) l3 y3, .slice a4 l4 y4, .slice (some ⟨b, o, none⟩) l5 y5, .int .i64 c.now] 38 (0, 0))) := Bk.out
              have Gr : Hid (q1.w.heap[gb]? = some (.cells #[.string p.n, .int .i64 p.c, .string p.z, .slice (some ⟨b2, o2, none⟩) vl vc, .string p.d, .int .i64 p.p] 89 (0, 0))) := Br.out
              have HW : Hid (Below w.heap.size w q1.w) := HB.out
              have k0 := fun q : Wd q1.w => q.slot (o := 0) Gk.out rfl
              have k1 := fun q : Wd q1.w => q.slot (o := 1) Gk.out rfl
              have k2 := fun q : Wd q1.w => q.slot (o := 2) Gk.out rfl
              have k3 := fun q : Wd q1.w => q.slot (o := 3) Gk.out rfl
              have k4 := fun q : Wd q1.w => q.slot (o := 4) Gk.out rfl
              have k5 := fun q : Wd q1.w => q.slot (o := 5) Gk.out rfl
              have r0 := fun q : Wd q1.w => q.slot (o := 0) Gr.out rfl
              have r1 := fun q : Wd q1.w => q.slot (o := 1) Gr.out rfl
              have r2 := fun q : Wd q1.w => q.slot (o := 2) Gr.out rfl
              have r3 := fun q : Wd q1.w => q.slot (o := 3) Gr.out rfl
              have r4 := fun q : Wd q1.w => q.slot (o := 4) Gr.out rfl
              have r5 := fun q : Wd q1.w => q.slot (o := 5) Gr.out rfl
              have tw : ∀ q : Wd q1.w, q.w.cell? ⟨b2, o2 + kq, none⟩ = some (.string t) := fun q => (q.cell (hb1)).trans (hc1)
              have hne0 := Wd.ne q1.w
              have HC0 := hidK (fun q : Wd q1.w => sxxd_hit ⟨a1, l1, y1, a2, l2, y2, (some ⟨b3, o3, none⟩), l3, y3, a4, l4, y4, (some ⟨b, o, none⟩), l5, y5⟩ c.now c.xs t q.w (HR.out.x.below (HW.out.trans (q.b.mono HW.out.size))) HX.out HG1.out HG2.out)
              go_wp2_with fail
              refine wp_region_wide (by kernel_rfl) (by kernel_rfl) ?_
              repeat (go_big_quiet_step (first | (go_at_call 75; exact Calls.wide (HC0.out _)) | fail))
              refine wpQuiet_nil ?_
              rintro _ ⟨q2, rfl⟩
              have HB2 := upB HW q2.b
              have Ck := upK Gk q2.b
              have Cr := upK Gr q2.b
              clear hne0 HW HB HC0 k0 k1 k2 k3 k4 k5 r0 r1 r2 r3 r4 r5 tw Gk Gr Bk Br hc1 hb1
              have HB := HB2
              clear HB2
              have Bk := Ck
              clear Ck
              have Br := Cr
              clear Cr
              go_wp2_with fail
              refine ⟨⟨kq + 1, by omega, by go_num, fun j s hj hs => ?_, HBW1.out.trans (q2.b.mono HBW1.out.size)⟩, by simp [intOf]; omega⟩
              by_cases e : j = kq
              · subst e
                rw [HXt.out] at hs
                obtain rfl := Option.some.inj hs
                exact ⟨⟨i4, x4, HG1.out, HG2.out⟩, .inl HEm.out⟩
              · exact HQ2.out j s (by omega) hs
            · have HD := hidK hbd
              clear hbd
              have Gk : Hid (wr.heap[w.heap.size]? = some (.cells #[.slice a1 l1 y1, .slice a2 l2 y2, .slice a3 l3 y3, .slice a4 l4 y4, .slice (some ⟨b, o, none⟩) l5 y5, .int .i64 c.now] 38 (0, 0))) := Bk.out
              have Gr : Hid (wr.heap[gb]? = some (.cells #[.string p.n, .int .i64 p.c, .string p.z, .slice (some ⟨b2, o2, none⟩) vl vc, .string p.d, .int .i64 p.p] 89 (0, 0))) := Br.out
              have HW : Hid (Below w.heap.size w wr) := HB.out
              have k0 := fun q : Wd wr => q.slot (o := 0) Gk.out rfl
              have k1 := fun q : Wd wr => q.slot (o := 1) Gk.out rfl
              have k2 := fun q : Wd wr => q.slot (o := 2) Gk.out rfl
              have k3 := fun q : Wd wr => q.slot (o := 3) Gk.out rfl
              have k4 := fun q : Wd wr => q.slot (o := 4) Gk.out rfl
              have k5 := fun q : Wd wr => q.slot (o := 5) Gk.out rfl
              have r3 := fun q : Wd wr => q.slot (o := 3) Gr.out rfl
              have tw : ∀ q : Wd wr, q.w.cell? ⟨b2, o2 + kq, none⟩ = some (.string t) := fun q => (q.cell (hb)).trans (hc)
              have hne0 := Wd.ne wr
              have HC0 := hidK (fun q : Wd wr => sbind_miss ⟨a1, l1, y1, a2, l2, y2, a3, l3, y3, a4, l4, y4, (some ⟨b, o, none⟩), l5, y5⟩ c t q.w (HR.out.below (HW.out.trans (q.b.mono HW.out.size))) HX.out HV.out HNE.out HD.out)
              go_wp2_with fail
              refine wp_region_wide (by kernel_rfl) (by kernel_rfl) ?_
              repeat (go_big_quiet_step (first | (go_at_call 78; exact Calls.wide (HC0.out _)) | fail))
              refine wpQuiet_nil ?_
              rintro _ ⟨q1, rfl⟩
              have HB1 := upB HW q1.b
              have Ck := upK Gk q1.b
              have Cr := upK Gr q1.b
              clear hne0 HW HB HC0 k0 k1 k2 k3 k4 k5 r3 tw Gk Gr Bk Br pr3
              have HB := HB1
              clear HB1
              have Bk := Ck
              clear Ck
              have Br := Cr
              clear Cr
              have hc1 := (q1.cell hb).trans hc
              have hb1 : b2 < q1.w.heap.size := Nat.lt_of_lt_of_le hb q1.b.size
              have HBW1 := upB HBW q1.b
              clear hc hb HBW
              by_cases hg : ∃ (i : Nat) (x : Xd), c.xs[i]? = some x ∧ x.n = t
              rotate_left
              · have HG := hidK hg
                clear hg
                have Gk : Hid (q1.w.heap[w.heap.size]? = some (.cells #[.slice a1 l1 y1, .slice a2 l2 y2, .slice a3 l3 y3, .slice a4 l4 y4, .slice (some ⟨b, o, none⟩) l5 y5, .int .i64 c.now] 38 (0, 0))) := Bk.out
                have Gr : Hid (q1.w.heap[gb]? = some (.cells #[.string p.n, .int .i64 p.c, .string p.z, .slice (some ⟨b2, o2, none⟩) vl vc, .string p.d, .int .i64 p.p] 89 (0, 0))) := Br.out
                have HW : Hid (Below w.heap.size w q1.w) := HB.out
                have k0 := fun q : Wd q1.w => q.slot (o := 0) Gk.out rfl
                have k1 := fun q : Wd q1.w => q.slot (o := 1) Gk.out rfl
                have k2 := fun q : Wd q1.w => q.slot (o := 2) Gk.out rfl
                have k3 := fun q : Wd q1.w => q.slot (o := 3) Gk.out rfl
                have k4 := fun q : Wd q1.w => q.slot (o := 4) Gk.out rfl
                have k5 := fun q : Wd q1.w => q.slot (o := 5) Gk.out rfl
                have r0 := fun q : Wd q1.w => q.slot (o := 0) Gr.out rfl
                have r1 := fun q : Wd q1.w => q.slot (o := 1) Gr.out rfl
                have r2 := fun q : Wd q1.w => q.slot (o := 2) Gr.out rfl
                have r3 := fun q : Wd q1.w => q.slot (o := 3) Gr.out rfl
                have r4 := fun q : Wd q1.w => q.slot (o := 4) Gr.out rfl
                have r5 := fun q : Wd q1.w => q.slot (o := 5) Gr.out rfl
                have tw : ∀ q : Wd q1.w, q.w.cell? ⟨b2, o2 + kq, none⟩ = some (.string t) := fun q => (q.cell (hb1)).trans (hc1)
                have hne0 := Wd.ne q1.w
                have HC0 := hidK (fun q : Wd q1.w => sxxd_miss ⟨a1, l1, y1, a2, l2, y2, a3, l3, y3, a4, l4, y4, (some ⟨b, o, none⟩), l5, y5⟩ c.now c.xs t q.w (HR.out.x.below (HW.out.trans (q.b.mono HW.out.size))) (fun i x h1 h2 => HG.out ⟨i, x, h1, h2⟩))
                go_wp2_with fail
                refine wp_region_wide (by kernel_rfl) (by kernel_rfl) ?_
                repeat (go_big_quiet_step (first | (go_at_call 75; exact Calls.wide (HC0.out _)) | fail))
                refine wpQuiet_nil ?_
                rintro _ ⟨q2, rfl⟩
                have HB2 := upB HW q2.b
                have Ck := upK Gk q2.b
                have Cr := upK Gr q2.b
                clear hne0 HW HB HC0 k0 k1 k2 k3 k4 k5 r0 r1 r2 r3 r4 r5 tw Gk Gr Bk Br hc1 hb1
                have HB := HB2
                clear HB2
                have Bk := Ck
                clear Ck
                have Br := Cr
                clear Cr
                go_wp2
                go_ret
                refine BoolB.f (fun h => ?_) HB.out
                have h9 := (h.1 k p HXp.out).2.1 kq t HXt.out
                exact HG.out h9.1
              obtain ⟨i4, x4, g1, g2⟩ := hg
              have HG1 := hidK g1
              have HG2 := hidK g2
              have hi41 : decide ((i4 : Int) < 0) = false := by simp
              clear g1 g2
              have Gk : Hid (q1.w.heap[w.heap.size]? = some (.cells #[.slice a1 l1 y1, .slice a2 l2 y2, .slice a3 l3 y3, .slice a4 l4 y4, .slice (some ⟨b, o, none⟩) l5 y5, .int .i64 c.now] 38 (0, 0))) := Bk.out
              have Gr : Hid (q1.w.heap[gb]? = some (.cells #[.string p.n, .int .i64 p.c, .string p.z, .slice (some ⟨b2, o2, none⟩) vl vc, .string p.d, .int .i64 p.p] 89 (0, 0))) := Br.out
              have HW : Hid (Below w.heap.size w q1.w) := HB.out
              have k0 := fun q : Wd q1.w => q.slot (o := 0) Gk.out rfl
              have k1 := fun q : Wd q1.w => q.slot (o := 1) Gk.out rfl
              have k2 := fun q : Wd q1.w => q.slot (o := 2) Gk.out rfl
              have k3 := fun q : Wd q1.w => q.slot (o := 3) Gk.out rfl
              have k4 := fun q : Wd q1.w => q.slot (o := 4) Gk.out rfl
              have k5 := fun q : Wd q1.w => q.slot (o := 5) Gk.out rfl
              have r0 := fun q : Wd q1.w => q.slot (o := 0) Gr.out rfl
              have r1 := fun q : Wd q1.w => q.slot (o := 1) Gr.out rfl
              have r2 := fun q : Wd q1.w => q.slot (o := 2) Gr.out rfl
              have r3 := fun q : Wd q1.w => q.slot (o := 3) Gr.out rfl
              have r4 := fun q : Wd q1.w => q.slot (o := 4) Gr.out rfl
              have r5 := fun q : Wd q1.w => q.slot (o := 5) Gr.out rfl
              have tw : ∀ q : Wd q1.w, q.w.cell? ⟨b2, o2 + kq, none⟩ = some (.string t) := fun q => (q.cell (hb1)).trans (hc1)
              have hne0 := Wd.ne q1.w
              have HC0 := hidK (fun q : Wd q1.w => sxxd_hit ⟨a1, l1, y1, a2, l2, y2, a3, l3, y3, a4, l4, y4, (some ⟨b, o, none⟩), l5, y5⟩ c.now c.xs t q.w (HR.out.x.below (HW.out.trans (q.b.mono HW.out.size))) HX.out HG1.out HG2.out)
              go_wp2_with fail
              refine wp_region_wide (by kernel_rfl) (by kernel_rfl) ?_
              repeat (go_big_quiet_step (first | (go_at_call 75; exact Calls.wide (HC0.out _)) | fail))
              refine wpQuiet_nil ?_
              rintro _ ⟨q2, rfl⟩
              have HB2 := upB HW q2.b
              have Ck := upK Gk q2.b
              have Cr := upK Gr q2.b
              clear hne0 HW HB HC0 k0 k1 k2 k3 k4 k5 r0 r1 r2 r3 r4 r5 tw Gk Gr Bk Br hc1 hb1
              have HB := HB2
              clear HB2
              have Bk := Ck
              clear Ck
              have Br := Cr
              clear Cr
              go_wp2_with fail
              refine ⟨⟨kq + 1, by omega, by go_num, fun j s hj hs => ?_, HBW1.out.trans (q2.b.mono HBW1.out.size)⟩, by simp [intOf]; omega⟩
              by_cases e : j = kq
              · subst e
                rw [HXt.out] at hs
                obtain rfl := Option.some.inj hs
                exact ⟨⟨i4, x4, HG1.out, HG2.out⟩, .inl HEm.out⟩
              · exact HQ2.out j s (by omega) hs
          · obtain rfl : vl = kq := by omega
            have HQb : Hid (PSb c p) := fun j t ht => HQ2.out j t (by have h1 := (List.getElem?_eq_some_iff.1 ht).1; have h2 := HVL.out; omega) ht
            clear HQ2
            have TV2 := hidK (TV.out.below HBW.out)
            have KV2 := Bk
            have GV2 := Br
            have BV2 := HB
            clear KV GV BV TV Bk Br HB HBW
            obtain ⟨W2, hW⟩ : ∃ W2, W2 = wr := ⟨_, rfl⟩
            rw [← hW] at KV2 GV2 BV2 TV2
            go_wp2
            clear pr3
            rw [← hW]
            clear hW
            go_loopw [8] (fun i wr => ∃ kz : Nat, kz ≤ k ∧ i = .int .i64 kz ∧ Hid (∀ (j : Nat) q, j < kz → c.ps[j]? = some q → PairS c q p) ∧ Hid (Below W2.heap.size W2 wr)) (fun i _ => k - (intOf i).toNat)
            case atStart => exact ⟨0, by omega, rfl, fun _ _ h => absurd h (by omega), Below.refl _ _⟩
            case round =>
              obtain ⟨kz, hkz, rfl, HQ3, HBW⟩ := hrel
              have HB := hidK (BV2.out.trans (HBW.out.mono BV2.out.size))
              have Bk := upK KV2 HBW.out
              have Br := upK GV2 HBW.out
              have HTp := hidK (TV2.out.below HBW.out)
              by_cases hlt3 : kz < k
              · obtain ⟨b', o', pq, e', hb', hqq, hatq⟩ := pd_at (HR.out.p.below HB.out) (show kz < l5 by omega)
                cases e'
                obtain ⟨qa, ql, qc, hqr, z0, z2, z4, d0, d1, d2, d3, d4, d5⟩ := pd_cells hatq
                have HXq := hidK hqq
                have HTq := hidK hqr
                clear hatq hqq hqr z0 z2 z4
                by_cases hpr : PairS c pq p
                · have HPr := hidK hpr
                  clear hpr
                  have Gk : Hid (wr.heap[w.heap.size]? = some (.cells #[.slice a1 l1 y1, .slice a2 l2 y2, .slice a3 l3 y3, .slice a4 l4 y4, .slice (some ⟨b, o, none⟩) l5 y5, .int .i64 c.now] 38 (0, 0))) := Bk.out
                  have Gr : Hid (wr.heap[gb]? = some (.cells #[.string p.n, .int .i64 p.c, .string p.z, .slice va vl vc, .string p.d, .int .i64 p.p] 89 (0, 0))) := Br.out
                  have HW : Hid (Below w.heap.size w wr) := HB.out
                  have k0 := fun q : Wd wr => q.slot (o := 0) Gk.out rfl
                  have k1 := fun q : Wd wr => q.slot (o := 1) Gk.out rfl
                  have k2 := fun q : Wd wr => q.slot (o := 2) Gk.out rfl
                  have k3 := fun q : Wd wr => q.slot (o := 3) Gk.out rfl
                  have k4 := fun q : Wd wr => q.slot (o := 4) Gk.out rfl
                  have k5 := fun q : Wd wr => q.slot (o := 5) Gk.out rfl
                  have r0 := fun q : Wd wr => q.slot (o := 0) Gr.out rfl
                  have r1 := fun q : Wd wr => q.slot (o := 1) Gr.out rfl
                  have r2 := fun q : Wd wr => q.slot (o := 2) Gr.out rfl
                  have r3 := fun q : Wd wr => q.slot (o := 3) Gr.out rfl
                  have r4 := fun q : Wd wr => q.slot (o := 4) Gr.out rfl
                  have r5 := fun q : Wd wr => q.slot (o := 5) Gr.out rfl
                  have q0 : ∀ q : Wd wr, q.w.cell? ⟨b, o + kz * 6, none⟩ = some (.string pq.n) := fun q => (q.cell (hb')).trans (d0)
                  have q1 : ∀ q : Wd wr, q.w.cell? ⟨b, o + kz * 6 + 1, none⟩ = some (.int .i64 pq.c) := fun q => (q.cell (hb')).trans (d1)
                  have q2 : ∀ q : Wd wr, q.w.cell? ⟨b, o + kz * 6 + 2, none⟩ = some (.string pq.z) := fun q => (q.cell (hb')).trans (d2)
                  have q3 : ∀ q : Wd wr, q.w.cell? ⟨b, o + kz * 6 + 3, none⟩ = some (.slice qa ql qc) := fun q => (q.cell (hb')).trans (d3)
                  have q4 : ∀ q : Wd wr, q.w.cell? ⟨b, o + kz * 6 + 4, none⟩ = some (.string pq.d) := fun q => (q.cell (hb')).trans (d4)
                  have q5 : ∀ q : Wd wr, q.w.cell? ⟨b, o + kz * 6 + 5, none⟩ = some (.int .i64 pq.p) := fun q => (q.cell (hb')).trans (d5)
                  have hne0 := Wd.ne wr
                  have HC0 := hidK (fun qw : Wd wr => (spair_any ⟨a1, l1, y1, a2, l2, y2, a3, l3, y3, a4, l4, y4, (some ⟨b, o, none⟩), l5, y5⟩ c pq p qa ql qc va vl vc qw.w (HR.out.below (HW.out.trans (qw.b.mono HW.out.size))) HX.out HV.out HNE.out (HTq.out.below qw.b) (HTp.out.below qw.b)).mono (fun _ _ h => BoolB.yes h HPr.out))
                  go_wp2_with fail
                  refine wp_region_wide (by kernel_rfl) (by kernel_rfl) ?_
                  repeat (go_big_quiet_step (first | (go_at_call 79; exact Calls.wide (HC0.out _)) | fail))
                  refine wpQuiet_nil ?_
                  rintro _ ⟨q9, rfl⟩
                  have HB1 := upB HW q9.b
                  have Ck := upK Gk q9.b
                  have Cr := upK Gr q9.b
                  clear hne0 HW HB HC0 k0 k1 k2 k3 k4 k5 r0 r1 r2 r3 r4 r5 q0 q1 q2 q3 q4 q5 Gk Gr Bk Br d0 d1 d2 d3 d4 d5
                  have HB := HB1
                  clear HB1
                  have Bk := Ck
                  clear Ck
                  have Br := Cr
                  clear Cr
                  go_wp2_with fail
                  refine ⟨⟨kz + 1, by omega, by go_num, fun j s hj hs => ?_, HBW.out.trans (q9.b.mono HBW.out.size)⟩, by simp [intOf]; omega⟩
                  by_cases e : j = kz
                  · subst e
                    rw [HXq.out] at hs
                    obtain rfl := Option.some.inj hs
                    exact HPr.out
                  · exact HQ3.out j s (by omega) hs
                · have HPr := hidK hpr
                  clear hpr
                  have Gk : Hid (wr.heap[w.heap.size]? = some (.cells #[.slice a1 l1 y1, .slice a2 l2 y2, .slice a3 l3 y3, .slice a4 l4 y4, .slice (some ⟨b, o, none⟩) l5 y5, .int .i64 c.now] 38 (0, 0))) := Bk.out
                  have Gr : Hid (wr.heap[gb]? = some (.cells #[.string p.n, .int .i64 p.c, .string p.z, .slice va vl vc, .string p.d, .int .i64 p.p] 89 (0, 0))) := Br.out
                  have HW : Hid (Below w.heap.size w wr) := HB.out
                  have k0 := fun q : Wd wr => q.slot (o := 0) Gk.out rfl
                  have k1 := fun q : Wd wr => q.slot (o := 1) Gk.out rfl
                  have k2 := fun q : Wd wr => q.slot (o := 2) Gk.out rfl
                  have k3 := fun q : Wd wr => q.slot (o := 3) Gk.out rfl
                  have k4 := fun q : Wd wr => q.slot (o := 4) Gk.out rfl
                  have k5 := fun q : Wd wr => q.slot (o := 5) Gk.out rfl
                  have r0 := fun q : Wd wr => q.slot (o := 0) Gr.out rfl
                  have r1 := fun q : Wd wr => q.slot (o := 1) Gr.out rfl
                  have r2 := fun q : Wd wr => q.slot (o := 2) Gr.out rfl
                  have r3 := fun q : Wd wr => q.slot (o := 3) Gr.out rfl
                  have r4 := fun q : Wd wr => q.slot (o := 4) Gr.out rfl
                  have r5 := fun q : Wd wr => q.slot (o := 5) Gr.out rfl
                  have q0 : ∀ q : Wd wr, q.w.cell? ⟨b, o + kz * 6, none⟩ = some (.string pq.n) := fun q => (q.cell (hb')).trans (d0)
                  have q1 : ∀ q : Wd wr, q.w.cell? ⟨b, o + kz * 6 + 1, none⟩ = some (.int .i64 pq.c) := fun q => (q.cell (hb')).trans (d1)
                  have q2 : ∀ q : Wd wr, q.w.cell? ⟨b, o + kz * 6 + 2, none⟩ = some (.string pq.z) := fun q => (q.cell (hb')).trans (d2)
                  have q3 : ∀ q : Wd wr, q.w.cell? ⟨b, o + kz * 6 + 3, none⟩ = some (.slice qa ql qc) := fun q => (q.cell (hb')).trans (d3)
                  have q4 : ∀ q : Wd wr, q.w.cell? ⟨b, o + kz * 6 + 4, none⟩ = some (.string pq.d) := fun q => (q.cell (hb')).trans (d4)
                  have q5 : ∀ q : Wd wr, q.w.cell? ⟨b, o + kz * 6 + 5, none⟩ = some (.int .i64 pq.p) := fun q => (q.cell (hb')).trans (d5)
                  have hne0 := Wd.ne wr
                  have HC0 := hidK (fun qw : Wd wr => (spair_any ⟨a1, l1, y1, a2, l2, y2, a3, l3, y3, a4, l4, y4, (some ⟨b, o, none⟩), l5, y5⟩ c pq p qa ql qc va vl vc qw.w (HR.out.below (HW.out.trans (qw.b.mono HW.out.size))) HX.out HV.out HNE.out (HTq.out.below qw.b) (HTp.out.below qw.b)).mono (fun _ _ h => BoolB.no h HPr.out))
                  go_wp2_with fail
                  refine wp_region_wide (by kernel_rfl) (by kernel_rfl) ?_
                  repeat (go_big_quiet_step (first | (go_at_call 79; exact Calls.wide (HC0.out _)) | fail))
                  refine wpQuiet_nil ?_
                  rintro _ ⟨q9, rfl⟩
                  have HB1 := upB HW q9.b
                  have Ck := upK Gk q9.b
                  have Cr := upK Gr q9.b
                  clear hne0 HW HB HC0 k0 k1 k2 k3 k4 k5 r0 r1 r2 r3 r4 r5 q0 q1 q2 q3 q4 q5 Gk Gr Bk Br d0 d1 d2 d3 d4 d5
                  have HB := HB1
                  clear HB1
                  have Bk := Ck
                  clear Ck
                  have Br := Cr
                  clear Cr
                  go_wp2
                  go_ret
                  exact BoolB.f (fun h => HPr.out ((h.1 k p HXp.out).2.2 kz pq hlt3 HXq.out)) HB.out
              · obtain rfl : k = kz := by omega
                go_wp2_with fail
                refine ⟨⟨k + 1, by omega, by go_num, fun j z hj hz => ?_, HB.out, Bk.out⟩, by simp [intOf]; omega⟩
                by_cases e : j = k
                · subst e
                  rw [HXp.out] at hz
                  obtain rfl := Option.some.inj hz
                  exact ⟨HPa.out, HQb.out, fun j2 q2 hj2 hq2 => HQ3.out j2 q2 hj2 hq2⟩
                · exact HQ.out j z (by omega) hz
      have hq := isE_no he
      have HEm := hidK he
      clear he
      rcases hf with ⟨j1, n, h1, h2, rfl⟩ | ⟨hh, rfl⟩
      rotate_left
      · have HH := hidK hh
        clear hh
        have Gk : Hid (w1.heap[w.heap.size]? = some (.cells #[.slice a1 l1 y1, .slice a2 l2 y2, .slice a3 l3 y3, .slice a4 l4 y4, .slice (some ⟨b, o, none⟩) l5 y5, .int .i64 c.now] 38 (0, 0))) := Bk.out
        have Gr : Hid (w1.heap[wr.heap.size]? = some (.cells #[.string p.n, .int .i64 p.c, .string p.z, .slice va vl vc, .string p.d, .int .i64 p.p] 89 (0, 0))) := Br.out
        have HW : Hid (Below w.heap.size w w1) := HB.out
        have k0 := fun q : Wd w1 => q.slot (o := 0) Gk.out rfl
        have r0 := fun q : Wd w1 => q.slot (o := 0) Gr.out rfl
        have r1 := fun q : Wd w1 => q.slot (o := 1) Gr.out rfl
        have r2 := fun q : Wd w1 => q.slot (o := 2) Gr.out rfl
        have r3 := fun q : Wd w1 => q.slot (o := 3) Gr.out rfl
        have r4 := fun q : Wd w1 => q.slot (o := 4) Gr.out rfl
        have r5 := fun q : Wd w1 => q.slot (o := 5) Gr.out rfl
        have hne0 := Wd.ne w1
        go_wp2_with fail
        refine wp_region_wide (by kernel_rfl) (by kernel_rfl) ?_
        repeat (go_big_quiet_step (first | fail))
        refine wpQuiet_nil ?_
        rintro _ ⟨q0, rfl⟩
        have HB2 := upB HW q0.b
        have Ck := upK Gk q0.b
        have Cr := upK Gr q0.b
        have CHTp := hidK ((HTp.out).below q0.b)
        clear hne0 HW HB k0 r0 r1 r2 r3 r4 r5 Gk Gr Bk Br HTp
        have HB := HB2
        clear HB2
        have HTp := CHTp
        clear CHTp
        have Bk := Ck
        clear Ck
        have Br := Cr
        clear Cr
        go_wp2
        go_ret
        refine BoolB.f (fun h => ?_) HB.out
        rcases (h.1 k p HXp.out).1 with h2 | ⟨i, n, h2, h3, _⟩
        · exact HEm.out h2
        · exact HH.out i n h2 h3
      have hl1' : j1 < l1 := by have h3 := (List.getElem?_eq_some_iff.1 h1).1; omega
      obtain ⟨b1, o1, n', rfl, hb1n, hn', hat⟩ := nd_at HR.out.n hl1'
      rw [h1] at hn'
      obtain rfl := Option.some.inj hn'
      obtain ⟨na, nl, nc, hnr, z0, z1, d0, d1, d2, d3, d4, d5, d6⟩ := nd_cells hat
      have HJn := hidK h1
      have HNn := hidK h2
      have HCn := hidK d1
      have HBn := hidK hb1n
      have hj11 : decide ((j1 : Int) < 0) = false := by simp
      have hbn : b1 < w1.heap.size := Nat.lt_of_lt_of_le hb1n HB.out.size
      have n1 := (cell_below HB.out hb1n).trans d1
      clear hn' hat hnr z0 z1 d0 d1 d2 d3 d4 d5 d6 h1 h2 hb1n
      by_cases hz0 : p.z = ⟨#[]⟩
      · have hq2 := isE_y hz0
        have HPa : Hid (PSa c p) := .inr ⟨j1, n, HJn.out, HNn.out, .inl hz0⟩
        clear hz0
        have Gk : Hid (w1.heap[w.heap.size]? = some (.cells #[.slice (some ⟨b1, o1, none⟩) l1 y1, .slice a2 l2 y2, .slice a3 l3 y3, .slice a4 l4 y4, .slice (some ⟨b, o, none⟩) l5 y5, .int .i64 c.now] 38 (0, 0))) := Bk.out
        have Gr : Hid (w1.heap[wr.heap.size]? = some (.cells #[.string p.n, .int .i64 p.c, .string p.z, .slice va vl vc, .string p.d, .int .i64 p.p] 89 (0, 0))) := Br.out
        have HW : Hid (Below w.heap.size w w1) := HB.out
        have k0 := fun q : Wd w1 => q.slot (o := 0) Gk.out rfl
        have r0 := fun q : Wd w1 => q.slot (o := 0) Gr.out rfl
        have r1 := fun q : Wd w1 => q.slot (o := 1) Gr.out rfl
        have r2 := fun q : Wd w1 => q.slot (o := 2) Gr.out rfl
        have r3 := fun q : Wd w1 => q.slot (o := 3) Gr.out rfl
        have r4 := fun q : Wd w1 => q.slot (o := 4) Gr.out rfl
        have r5 := fun q : Wd w1 => q.slot (o := 5) Gr.out rfl
        have nw : ∀ q : Wd w1, q.w.cell? ⟨b1, o1 + j1 * 7 + 1, none⟩ = some (.string n.z) := fun q => (q.cell (hbn)).trans (n1)
        have hne0 := Wd.ne w1
        go_wp2_with fail
        refine wp_region_wide (by kernel_rfl) (by kernel_rfl) ?_
        repeat (go_big_quiet_step (first | fail))
        refine wpQuiet_nil ?_
        rintro _ ⟨q0, rfl⟩
        have HB2 := upB HW q0.b
        have Ck := upK Gk q0.b
        have Cr := upK Gr q0.b
        have CHTp := hidK ((HTp.out).below q0.b)
        clear hne0 HW HB k0 r0 r1 r2 r3 r4 r5 nw Gk Gr Bk Br HTp hbn n1
        have HB := HB2
        clear HB2
        have HTp := CHTp
        clear CHTp
        have Bk := Ck
        clear Ck
        have Br := Cr
        clear Cr
        clear hq2
        obtain ⟨gb, hgb⟩ : ∃ gb, gb = wr.heap.size := ⟨_, rfl⟩
        rw [← hgb] at Br
        have pr3 : q0.w.cell? ⟨gb, 3, none⟩ = some (.slice va vl vc) := cellK Br.out 3
        rw [hgb] at pr3
        go_wp2
        rw [← hgb]
        clear pr3 hgb
        have KV := Bk
        have GV := Br
        have BV := HB
        have TV := HTp
        clear Bk Br HB HTp
        obtain ⟨W, hW⟩ : ∃ W, W = q0.w := ⟨_, rfl⟩
        rw [← hW] at KV GV BV TV ⊢
        clear hW
        go_loopw [6] (fun i wr => ∃ kq : Nat, kq ≤ vl ∧ i = .int .i64 kq ∧ Hid (∀ (j : Nat) t, j < kq → p.zs[j]? = some t → PSb1 c p t) ∧ Hid (Below W.heap.size W wr)) (fun i _ => vl - (intOf i).toNat)
        case atStart => exact ⟨0, by omega, rfl, fun _ _ h => absurd h (by omega), Below.refl _ _⟩
        case round =>
          obtain ⟨kq, hkq, rfl, HQ2, HBW⟩ := hrel
          have HB := hidK (BV.out.trans (HBW.out.mono BV.out.size))
          have Bk := upK KV HBW.out
          have Br := upK GV HBW.out
          have pr3 : wr.cell? ⟨gb, 3, none⟩ = some (.slice va vl vc) := cellK Br.out 3
          by_cases hlt2 : kq < vl
          · obtain ⟨b2, o2, t, rfl, hb, hxt, hc, hsz⟩ := (TV.out.below HBW.out).at hlt2
            have HXt := hidK hxt
            clear hxt hsz
            have hcase : (∃ v, IsBd c t v) ∨ (∀ v, ¬ IsBd c t v) := by
              by_cases h : ∃ v, IsBd c t v
              · exact .inl h
              · exact .inr (fun v hv => h ⟨v, hv⟩)
            rcases hcase with ⟨v, hbd⟩ | hbd
            · obtain ⟨j3, hj3⟩ := hbd.at
              have hl3' : j3 < l3 := by have h1 := (List.getElem?_eq_some_iff.1 hj3).1; omega
              obtain ⟨b3, o3, v', rfl, hb3, hv', hat⟩ := vd_at HR.out.v hl3'
              rw [hj3] at hv'
              obtain rfl := Option.some.inj hv'
              obtain ⟨xa, xl, xc, hvr, z0, z2, z3, z5, d0, d1, d2, d3, d4, d5, d6, d7⟩ := vd_cells hat
              have HJ := hidK hj3
              have HD := hidK hbd
              have HC2 := hidK d2
              have HB3 := hidK hb3
              have hj31 : decide ((j3 : Int) < 0) = false := by simp
              clear hv' hat hvr z0 z2 z3 z5 d0 d1 d2 d3 d4 d5 d6 d7 hj3 hbd hb3
              have Gk : Hid (wr.heap[w.heap.size]? = some (.cells #[.slice (some ⟨b1, o1, none⟩) l1 y1, .slice a2 l2 y2, .slice (some ⟨b3, o3, none⟩) l3 y3, .slice a4 l4 y4, .slice (some ⟨b, o, none⟩) l5 y5, .int .i64 c.now] 38 (0, 0))) := Bk.out
              have Gr : Hid (wr.heap[gb]? = some (.cells #[.string p.n, .int .i64 p.c, .string p.z, .slice (some ⟨b2, o2, none⟩) vl vc, .string p.d, .int .i64 p.p] 89 (0, 0))) := Br.out
              have HW : Hid (Below w.heap.size w wr) := HB.out
              have k0 := fun q : Wd wr => q.slot (o := 0) Gk.out rfl
              have k1 := fun q : Wd wr => q.slot (o := 1) Gk.out rfl
              have k2 := fun q : Wd wr => q.slot (o := 2) Gk.out rfl
              have k3 := fun q : Wd wr => q.slot (o := 3) Gk.out rfl
              have k4 := fun q : Wd wr => q.slot (o := 4) Gk.out rfl
              have k5 := fun q : Wd wr => q.slot (o := 5) Gk.out rfl
              have r3 := fun q : Wd wr => q.slot (o := 3) Gr.out rfl
              have tw : ∀ q : Wd wr, q.w.cell? ⟨b2, o2 + kq, none⟩ = some (.string t) := fun q => (q.cell (hb)).trans (hc)
              have hne0 := Wd.ne wr
              have HC0 := hidK (fun q : Wd wr => sbind_hit ⟨(some ⟨b1, o1, none⟩), l1, y1, a2, l2, y2, (some ⟨b3, o3, none⟩), l3, y3, a4, l4, y4, (some ⟨b, o, none⟩), l5, y5⟩ c t q.w (HR.out.below (HW.out.trans (q.b.mono HW.out.size))) HX.out HV.out HNE.out HJ.out HD.out)
              go_wp2_with fail
              refine wp_region_wide (by kernel_rfl) (by kernel_rfl) ?_
              repeat (go_big_quiet_step (first | (go_at_call 78; exact Calls.wide (HC0.out _)) | fail))
              refine wpQuiet_nil ?_
              rintro _ ⟨q1, rfl⟩
              have HB1 := upB HW q1.b
              have Ck := upK Gk q1.b
              have Cr := upK Gr q1.b
              clear hne0 HW HB HC0 k0 k1 k2 k3 k4 k5 r3 tw Gk Gr Bk Br pr3
              have HB := HB1
              clear HB1
              have Bk := Ck
              clear Ck
              have Br := Cr
              clear Cr
              have hc1 := (q1.cell hb).trans hc
              have hb1 : b2 < q1.w.heap.size := Nat.lt_of_lt_of_le hb q1.b.size
              have HBW1 := upB HBW q1.b
              clear hc hb HBW
              by_cases hg : ∃ (i : Nat) (x : Xd), c.xs[i]? = some x ∧ x.n = t
              rotate_left
              · have HG := hidK hg
                clear hg
                have Gk : Hid (q1.w.heap[w.heap.size]? = some (.cells #[.slice (some ⟨b1, o1, none⟩) l1 y1, .slice a2 l2 y2, .slice (some ⟨b3, o3, none⟩) l3 y3, .slice a4 l4 y4, .slice (some ⟨b, o, none⟩) l5 y5, .int .i64 c.now] 38 (0, 0))) := Bk.out
                have Gr : Hid (q1.w.heap[gb]? = some (.cells #[.string p.n, .int .i64 p.c, .string p.z, .slice (some ⟨b2, o2, none⟩) vl vc, .string p.d, .int .i64 p.p] 89 (0, 0))) := Br.out
                have HW : Hid (Below w.heap.size w q1.w) := HB.out
                have k0 := fun q : Wd q1.w => q.slot (o := 0) Gk.out rfl
                have k1 := fun q : Wd q1.w => q.slot (o := 1) Gk.out rfl
                have k2 := fun q : Wd q1.w => q.slot (o := 2) Gk.out rfl
                have k3 := fun q : Wd q1.w => q.slot (o := 3) Gk.out rfl
                have k4 := fun q : Wd q1.w => q.slot (o := 4) Gk.out rfl
                have k5 := fun q : Wd q1.w => q.slot (o := 5) Gk.out rfl
                have r0 := fun q : Wd q1.w => q.slot (o := 0) Gr.out rfl
                have r1 := fun q : Wd q1.w => q.slot (o := 1) Gr.out rfl
                have r2 := fun q : Wd q1.w => q.slot (o := 2) Gr.out rfl
                have r3 := fun q : Wd q1.w => q.slot (o := 3) Gr.out rfl
                have r4 := fun q : Wd q1.w => q.slot (o := 4) Gr.out rfl
                have r5 := fun q : Wd q1.w => q.slot (o := 5) Gr.out rfl
                have tw : ∀ q : Wd q1.w, q.w.cell? ⟨b2, o2 + kq, none⟩ = some (.string t) := fun q => (q.cell (hb1)).trans (hc1)
                have hne0 := Wd.ne q1.w
                have HC0 := hidK (fun q : Wd q1.w => sxxd_miss ⟨(some ⟨b1, o1, none⟩), l1, y1, a2, l2, y2, (some ⟨b3, o3, none⟩), l3, y3, a4, l4, y4, (some ⟨b, o, none⟩), l5, y5⟩ c.now c.xs t q.w (HR.out.x.below (HW.out.trans (q.b.mono HW.out.size))) (fun i x h1 h2 => HG.out ⟨i, x, h1, h2⟩))
                go_wp2_with fail
                refine wp_region_wide (by kernel_rfl) (by kernel_rfl) ?_
                repeat (go_big_quiet_step (first | (go_at_call 75; exact Calls.wide (HC0.out _)) | fail))
                refine wpQuiet_nil ?_
                rintro _ ⟨q2, rfl⟩
                have HB2 := upB HW q2.b
                have Ck := upK Gk q2.b
                have Cr := upK Gr q2.b
                clear hne0 HW HB HC0 k0 k1 k2 k3 k4 k5 r0 r1 r2 r3 r4 r5 tw Gk Gr Bk Br hc1 hb1
                have HB := HB2
                clear HB2
                have Bk := Ck
                clear Ck
                have Br := Cr
                clear Cr
                go_wp2
                go_ret
                refine BoolB.f (fun h => ?_) HB.out
                have h9 := (h.1 k p HXp.out).2.1 kq t HXt.out
                exact HG.out h9.1
              obtain ⟨i4, x4, g1, g2⟩ := hg
              have HG1 := hidK g1
              have HG2 := hidK g2
              have hi41 : decide ((i4 : Int) < 0) = false := by simp
              clear g1 g2
              have hbv : b3 < q1.w.heap.size := Nat.lt_of_lt_of_le HB3.out HB.out.size
              have v2 := (cell_below HB.out HB3.out).trans HC2.out
              have hbn : b1 < q1.w.heap.size := Nat.lt_of_lt_of_le HBn.out HB.out.size
              have n1 := (cell_below HB.out HBn.out).trans HCn.out
              by_cases hz : v.z = n.z
              · have hzq := tl_yes hz
                have HZ := hidK hz
                clear hz
                have Gk : Hid (q1.w.heap[w.heap.size]? = some (.cells #[.slice (some ⟨b1, o1, none⟩) l1 y1, .slice a2 l2 y2, .slice (some ⟨b3, o3, none⟩) l3 y3, .slice a4 l4 y4, .slice (some ⟨b, o, none⟩) l5 y5, .int .i64 c.now] 38 (0, 0))) := Bk.out
                have Gr : Hid (q1.w.heap[gb]? = some (.cells #[.string p.n, .int .i64 p.c, .string p.z, .slice (some ⟨b2, o2, none⟩) vl vc, .string p.d, .int .i64 p.p] 89 (0, 0))) := Br.out
                have HW : Hid (Below w.heap.size w q1.w) := HB.out
                have k0 := fun q : Wd q1.w => q.slot (o := 0) Gk.out rfl
                have k1 := fun q : Wd q1.w => q.slot (o := 1) Gk.out rfl
                have k2 := fun q : Wd q1.w => q.slot (o := 2) Gk.out rfl
                have k3 := fun q : Wd q1.w => q.slot (o := 3) Gk.out rfl
                have k4 := fun q : Wd q1.w => q.slot (o := 4) Gk.out rfl
                have k5 := fun q : Wd q1.w => q.slot (o := 5) Gk.out rfl
                have r0 := fun q : Wd q1.w => q.slot (o := 0) Gr.out rfl
                have r1 := fun q : Wd q1.w => q.slot (o := 1) Gr.out rfl
                have r2 := fun q : Wd q1.w => q.slot (o := 2) Gr.out rfl
                have r3 := fun q : Wd q1.w => q.slot (o := 3) Gr.out rfl
                have r4 := fun q : Wd q1.w => q.slot (o := 4) Gr.out rfl
                have r5 := fun q : Wd q1.w => q.slot (o := 5) Gr.out rfl
                have tw : ∀ q : Wd q1.w, q.w.cell? ⟨b2, o2 + kq, none⟩ = some (.string t) := fun q => (q.cell (hb1)).trans (hc1)
                have vw : ∀ q : Wd q1.w, q.w.cell? ⟨b3, o3 + j3 * 8 + 2, none⟩ = some (.string v.z) := fun q => (q.cell (hbv)).trans (v2)
                have nw : ∀ q : Wd q1.w, q.w.cell? ⟨b1, o1 + j1 * 7 + 1, none⟩ = some (.string n.z) := fun q => (q.cell (hbn)).trans (n1)
                have hne0 := Wd.ne q1.w
                have HC0 := hidK (fun q : Wd q1.w => sxxd_hit ⟨(some ⟨b1, o1, none⟩), l1, y1, a2, l2, y2, (some ⟨b3, o3, none⟩), l3, y3, a4, l4, y4, (some ⟨b, o, none⟩), l5, y5⟩ c.now c.xs t q.w (HR.out.x.below (HW.out.trans (q.b.mono HW.out.size))) HX.out HG1.out HG2.out)
                go_wp2_with fail
                refine wp_region_wide (by kernel_rfl) (by kernel_rfl) ?_
                repeat (go_big_quiet_step (first | (go_at_call 75; exact Calls.wide (HC0.out _)) | fail))
                refine wpQuiet_nil ?_
                rintro _ ⟨q2, rfl⟩
                have HB2 := upB HW q2.b
                have Ck := upK Gk q2.b
                have Cr := upK Gr q2.b
                clear hne0 HW HB HC0 k0 k1 k2 k3 k4 k5 r0 r1 r2 r3 r4 r5 tw vw nw Gk Gr Bk Br hc1 hb1 hbv v2 hbn n1
                have HB := HB2
                clear HB2
                have Bk := Ck
                clear Ck
                have Br := Cr
                clear Cr
                clear hzq
                go_wp2_with fail
                refine ⟨⟨kq + 1, by omega, by go_num, fun j s hj hs => ?_, HBW1.out.trans (q2.b.mono HBW1.out.size)⟩, by simp [intOf]; omega⟩
                by_cases e : j = kq
                · subst e
                  rw [HXt.out] at hs
                  obtain rfl := Option.some.inj hs
                  exact ⟨⟨i4, x4, HG1.out, HG2.out⟩, .inr ⟨v, j1, n, HD.out, HJn.out, HNn.out, HZ.out⟩⟩
                · exact HQ2.out j s (by omega) hs
              · have hzq := tl_no hz
                have HZ := hidK hz
                clear hz
                have Gk : Hid (q1.w.heap[w.heap.size]? = some (.cells #[.slice (some ⟨b1, o1, none⟩) l1 y1, .slice a2 l2 y2, .slice (some ⟨b3, o3, none⟩) l3 y3, .slice a4 l4 y4, .slice (some ⟨b, o, none⟩) l5 y5, .int .i64 c.now] 38 (0, 0))) := Bk.out
                have Gr : Hid (q1.w.heap[gb]? = some (.cells #[.string p.n, .int .i64 p.c, .string p.z, .slice (some ⟨b2, o2, none⟩) vl vc, .string p.d, .int .i64 p.p] 89 (0, 0))) := Br.out
                have HW : Hid (Below w.heap.size w q1.w) := HB.out
                have k0 := fun q : Wd q1.w => q.slot (o := 0) Gk.out rfl
                have k1 := fun q : Wd q1.w => q.slot (o := 1) Gk.out rfl
                have k2 := fun q : Wd q1.w => q.slot (o := 2) Gk.out rfl
                have k3 := fun q : Wd q1.w => q.slot (o := 3) Gk.out rfl
                have k4 := fun q : Wd q1.w => q.slot (o := 4) Gk.out rfl
                have k5 := fun q : Wd q1.w => q.slot (o := 5) Gk.out rfl
                have r0 := fun q : Wd q1.w => q.slot (o := 0) Gr.out rfl
                have r1 := fun q : Wd q1.w => q.slot (o := 1) Gr.out rfl
                have r2 := fun q : Wd q1.w => q.slot (o := 2) Gr.out rfl
                have r3 := fun q : Wd q1.w => q.slot (o := 3) Gr.out rfl
                have r4 := fun q : Wd q1.w => q.slot (o := 4) Gr.out rfl
                have r5 := fun q : Wd q1.w => q.slot (o := 5) Gr.out rfl
                have tw : ∀ q : Wd q1.w, q.w.cell? ⟨b2, o2 + kq, none⟩ = some (.string t) := fun q => (q.cell (hb1)).trans (hc1)
                have vw : ∀ q : Wd q1.w, q.w.cell? ⟨b3, o3 + j3 * 8 + 2, none⟩ = some (.string v.z) := fun q => (q.cell (hbv)).trans (v2)
                have nw : ∀ q : Wd q1.w, q.w.cell? ⟨b1, o1 + j1 * 7 + 1, none⟩ = some (.string n.z) := fun q => (q.cell (hbn)).trans (n1)
                have hne0 := Wd.ne q1.w
                have HC0 := hidK (fun q : Wd q1.w => sxxd_hit ⟨(some ⟨b1, o1, none⟩), l1, y1, a2, l2, y2, (some ⟨b3, o3, none⟩), l3, y3, a4, l4, y4, (some ⟨b, o, none⟩), l5, y5⟩ c.now c.xs t q.w (HR.out.x.below (HW.out.trans (q.b.mono HW.out.size))) HX.out HG1.out HG2.out)
                go_wp2_with fail
                refine wp_region_wide (by kernel_rfl) (by kernel_rfl) ?_
                repeat (go_big_quiet_step (first | (go_at_call 75; exact Calls.wide (HC0.out _)) | fail))
                refine wpQuiet_nil ?_
                rintro _ ⟨q2, rfl⟩
                have HB2 := upB HW q2.b
                have Ck := upK Gk q2.b
                have Cr := upK Gr q2.b
                clear hne0 HW HB HC0 k0 k1 k2 k3 k4 k5 r0 r1 r2 r3 r4 r5 tw vw nw Gk Gr Bk Br hc1 hb1 hbv v2 hbn n1
                have HB := HB2
                clear HB2
                have Bk := Ck
                clear Ck
                have Br := Cr
                clear Cr
                go_wp2
                go_ret
                refine BoolB.f (fun h => ?_) HB.out
                have h9 := (h.1 k p HXp.out).2.1 kq t HXt.out
                rcases h9.2 with h2 | ⟨v', i, n', h2, h3, h4, h5⟩
                · exact HEm.out h2
                · obtain rfl := IsBd.inj HX.out HV.out HD.out h2
                  obtain ⟨_, rfl⟩ := HNR.out.inj h3 HJn.out (h4.trans HNn.out.symm)
                  exact HZ.out h5
            · have HD := hidK hbd
              clear hbd
              have Gk : Hid (wr.heap[w.heap.size]? = some (.cells #[.slice (some ⟨b1, o1, none⟩) l1 y1, .slice a2 l2 y2, .slice a3 l3 y3, .slice a4 l4 y4, .slice (some ⟨b, o, none⟩) l5 y5, .int .i64 c.now] 38 (0, 0))) := Bk.out
              have Gr : Hid (wr.heap[gb]? = some (.cells #[.string p.n, .int .i64 p.c, .string p.z, .slice (some ⟨b2, o2, none⟩) vl vc, .string p.d, .int .i64 p.p] 89 (0, 0))) := Br.out
              have HW : Hid (Below w.heap.size w wr) := HB.out
              have k0 := fun q : Wd wr => q.slot (o := 0) Gk.out rfl
              have k1 := fun q : Wd wr => q.slot (o := 1) Gk.out rfl
              have k2 := fun q : Wd wr => q.slot (o := 2) Gk.out rfl
              have k3 := fun q : Wd wr => q.slot (o := 3) Gk.out rfl
              have k4 := fun q : Wd wr => q.slot (o := 4) Gk.out rfl
              have k5 := fun q : Wd wr => q.slot (o := 5) Gk.out rfl
              have r3 := fun q : Wd wr => q.slot (o := 3) Gr.out rfl
              have tw : ∀ q : Wd wr, q.w.cell? ⟨b2, o2 + kq, none⟩ = some (.string t) := fun q => (q.cell (hb)).trans (hc)
              have hne0 := Wd.ne wr
              have HC0 := hidK (fun q : Wd wr => sbind_miss ⟨(some ⟨b1, o1, none⟩), l1, y1, a2, l2, y2, a3, l3, y3, a4, l4, y4, (some ⟨b, o, none⟩), l5, y5⟩ c t q.w (HR.out.below (HW.out.trans (q.b.mono HW.out.size))) HX.out HV.out HNE.out HD.out)
              go_wp2_with fail
              refine wp_region_wide (by kernel_rfl) (by kernel_rfl) ?_
              repeat (go_big_quiet_step (first | (go_at_call 78; exact Calls.wide (HC0.out _)) | fail))
              refine wpQuiet_nil ?_
              rintro _ ⟨q1, rfl⟩
              have HB1 := upB HW q1.b
              have Ck := upK Gk q1.b
              have Cr := upK Gr q1.b
              clear hne0 HW HB HC0 k0 k1 k2 k3 k4 k5 r3 tw Gk Gr Bk Br pr3
              have HB := HB1
              clear HB1
              have Bk := Ck
              clear Ck
              have Br := Cr
              clear Cr
              have hc1 := (q1.cell hb).trans hc
              have hb1 : b2 < q1.w.heap.size := Nat.lt_of_lt_of_le hb q1.b.size
              have HBW1 := upB HBW q1.b
              clear hc hb HBW
              by_cases hg : ∃ (i : Nat) (x : Xd), c.xs[i]? = some x ∧ x.n = t
              rotate_left
              · have HG := hidK hg
                clear hg
                have Gk : Hid (q1.w.heap[w.heap.size]? = some (.cells #[.slice (some ⟨b1, o1, none⟩) l1 y1, .slice a2 l2 y2, .slice a3 l3 y3, .slice a4 l4 y4, .slice (some ⟨b, o, none⟩) l5 y5, .int .i64 c.now] 38 (0, 0))) := Bk.out
                have Gr : Hid (q1.w.heap[gb]? = some (.cells #[.string p.n, .int .i64 p.c, .string p.z, .slice (some ⟨b2, o2, none⟩) vl vc, .string p.d, .int .i64 p.p] 89 (0, 0))) := Br.out
                have HW : Hid (Below w.heap.size w q1.w) := HB.out
                have k0 := fun q : Wd q1.w => q.slot (o := 0) Gk.out rfl
                have k1 := fun q : Wd q1.w => q.slot (o := 1) Gk.out rfl
                have k2 := fun q : Wd q1.w => q.slot (o := 2) Gk.out rfl
                have k3 := fun q : Wd q1.w => q.slot (o := 3) Gk.out rfl
                have k4 := fun q : Wd q1.w => q.slot (o := 4) Gk.out rfl
                have k5 := fun q : Wd q1.w => q.slot (o := 5) Gk.out rfl
                have r0 := fun q : Wd q1.w => q.slot (o := 0) Gr.out rfl
                have r1 := fun q : Wd q1.w => q.slot (o := 1) Gr.out rfl
                have r2 := fun q : Wd q1.w => q.slot (o := 2) Gr.out rfl
                have r3 := fun q : Wd q1.w => q.slot (o := 3) Gr.out rfl
                have r4 := fun q : Wd q1.w => q.slot (o := 4) Gr.out rfl
                have r5 := fun q : Wd q1.w => q.slot (o := 5) Gr.out rfl
                have tw : ∀ q : Wd q1.w, q.w.cell? ⟨b2, o2 + kq, none⟩ = some (.string t) := fun q => (q.cell (hb1)).trans (hc1)
                have hne0 := Wd.ne q1.w
                have HC0 := hidK (fun q : Wd q1.w => sxxd_miss ⟨(some ⟨b1, o1, none⟩), l1, y1, a2, l2, y2, a3, l3, y3, a4, l4, y4, (some ⟨b, o, none⟩), l5, y5⟩ c.now c.xs t q.w (HR.out.x.below (HW.out.trans (q.b.mono HW.out.size))) (fun i x h1 h2 => HG.out ⟨i, x, h1, h2⟩))
                go_wp2_with fail
                refine wp_region_wide (by kernel_rfl) (by kernel_rfl) ?_
                repeat (go_big_quiet_step (first | (go_at_call 75; exact Calls.wide (HC0.out _)) | fail))
                refine wpQuiet_nil ?_
                rintro _ ⟨q2, rfl⟩
                have HB2 := upB HW q2.b
                have Ck := upK Gk q2.b
                have Cr := upK Gr q2.b
                clear hne0 HW HB HC0 k0 k1 k2 k3 k4 k5 r0 r1 r2 r3 r4 r5 tw Gk Gr Bk Br hc1 hb1
                have HB := HB2
                clear HB2
                have Bk := Ck
                clear Ck
                have Br := Cr
                clear Cr
                go_wp2
                go_ret
                refine BoolB.f (fun h => ?_) HB.out
                have h9 := (h.1 k p HXp.out).2.1 kq t HXt.out
                exact HG.out h9.1
              obtain ⟨i4, x4, g1, g2⟩ := hg
              have HG1 := hidK g1
              have HG2 := hidK g2
              have hi41 : decide ((i4 : Int) < 0) = false := by simp
              clear g1 g2
              have Gk : Hid (q1.w.heap[w.heap.size]? = some (.cells #[.slice (some ⟨b1, o1, none⟩) l1 y1, .slice a2 l2 y2, .slice a3 l3 y3, .slice a4 l4 y4, .slice (some ⟨b, o, none⟩) l5 y5, .int .i64 c.now] 38 (0, 0))) := Bk.out
              have Gr : Hid (q1.w.heap[gb]? = some (.cells #[.string p.n, .int .i64 p.c, .string p.z, .slice (some ⟨b2, o2, none⟩) vl vc, .string p.d, .int .i64 p.p] 89 (0, 0))) := Br.out
              have HW : Hid (Below w.heap.size w q1.w) := HB.out
              have k0 := fun q : Wd q1.w => q.slot (o := 0) Gk.out rfl
              have k1 := fun q : Wd q1.w => q.slot (o := 1) Gk.out rfl
              have k2 := fun q : Wd q1.w => q.slot (o := 2) Gk.out rfl
              have k3 := fun q : Wd q1.w => q.slot (o := 3) Gk.out rfl
              have k4 := fun q : Wd q1.w => q.slot (o := 4) Gk.out rfl
              have k5 := fun q : Wd q1.w => q.slot (o := 5) Gk.out rfl
              have r0 := fun q : Wd q1.w => q.slot (o := 0) Gr.out rfl
              have r1 := fun q : Wd q1.w => q.slot (o := 1) Gr.out rfl
              have r2 := fun q : Wd q1.w => q.slot (o := 2) Gr.out rfl
              have r3 := fun q : Wd q1.w => q.slot (o := 3) Gr.out rfl
              have r4 := fun q : Wd q1.w => q.slot (o := 4) Gr.out rfl
              have r5 := fun q : Wd q1.w => q.slot (o := 5) Gr.out rfl
              have tw : ∀ q : Wd q1.w, q.w.cell? ⟨b2, o2 + kq, none⟩ = some (.string t) := fun q => (q.cell (hb1)).trans (hc1)
              have hne0 := Wd.ne q1.w
              have HC0 := hidK (fun q : Wd q1.w => sxxd_hit ⟨(some ⟨b1, o1, none⟩), l1, y1, a2, l2, y2, a3, l3, y3, a4, l4, y4, (some ⟨b, o, none⟩), l5, y5⟩ c.now c.xs t q.w (HR.out.x.below (HW.out.trans (q.b.mono HW.out.size))) HX.out HG1.out HG2.out)
              go_wp2_with fail
              refine wp_region_wide (by kernel_rfl) (by kernel_rfl) ?_
              repeat (go_big_quiet_step (first | (go_at_call 75; exact Calls.wide (HC0.out _)) | fail))
              refine wpQuiet_nil ?_
              rintro _ ⟨q2, rfl⟩
              have HB2 := upB HW q2.b
              have Ck := upK Gk q2.b
              have Cr := upK Gr q2.b
              clear hne0 HW HB HC0 k0 k1 k2 k3 k4 k5 r0 r1 r2 r3 r4 r5 tw Gk Gr Bk Br hc1 hb1
              have HB := HB2
              clear HB2
              have Bk := Ck
              clear Ck
              have Br := Cr
              clear Cr
              go_wp2
              go_ret
              refine BoolB.f (fun h => ?_) HB.out
              have h9 := (h.1 k p HXp.out).2.1 kq t HXt.out
              rcases h9.2 with h2 | ⟨v', i, n', h2, _⟩
              · exact HEm.out h2
              · exact HD.out v' h2
          · obtain rfl : vl = kq := by omega
            have HQb : Hid (PSb c p) := fun j t ht => HQ2.out j t (by have h1 := (List.getElem?_eq_some_iff.1 ht).1; have h2 := HVL.out; omega) ht
            clear HQ2
            have TV2 := hidK (TV.out.below HBW.out)
            have KV2 := Bk
            have GV2 := Br
            have BV2 := HB
            clear KV GV BV TV Bk Br HB HBW
            obtain ⟨W2, hW⟩ : ∃ W2, W2 = wr := ⟨_, rfl⟩
            rw [← hW] at KV2 GV2 BV2 TV2
            go_wp2
            clear pr3
            rw [← hW]
            clear hW
            go_loopw [8] (fun i wr => ∃ kz : Nat, kz ≤ k ∧ i = .int .i64 kz ∧ Hid (∀ (j : Nat) q, j < kz → c.ps[j]? = some q → PairS c q p) ∧ Hid (Below W2.heap.size W2 wr)) (fun i _ => k - (intOf i).toNat)
            case atStart => exact ⟨0, by omega, rfl, fun _ _ h => absurd h (by omega), Below.refl _ _⟩
            case round =>
              obtain ⟨kz, hkz, rfl, HQ3, HBW⟩ := hrel
              have HB := hidK (BV2.out.trans (HBW.out.mono BV2.out.size))
              have Bk := upK KV2 HBW.out
              have Br := upK GV2 HBW.out
              have HTp := hidK (TV2.out.below HBW.out)
              by_cases hlt3 : kz < k
              · obtain ⟨b', o', pq, e', hb', hqq, hatq⟩ := pd_at (HR.out.p.below HB.out) (show kz < l5 by omega)
                cases e'
                obtain ⟨qa, ql, qc, hqr, z0, z2, z4, d0, d1, d2, d3, d4, d5⟩ := pd_cells hatq
                have HXq := hidK hqq
                have HTq := hidK hqr
                clear hatq hqq hqr z0 z2 z4
                by_cases hpr : PairS c pq p
                · have HPr := hidK hpr
                  clear hpr
                  have Gk : Hid (wr.heap[w.heap.size]? = some (.cells #[.slice (some ⟨b1, o1, none⟩) l1 y1, .slice a2 l2 y2, .slice a3 l3 y3, .slice a4 l4 y4, .slice (some ⟨b, o, none⟩) l5 y5, .int .i64 c.now] 38 (0, 0))) := Bk.out
                  have Gr : Hid (wr.heap[gb]? = some (.cells #[.string p.n, .int .i64 p.c, .string p.z, .slice va vl vc, .string p.d, .int .i64 p.p] 89 (0, 0))) := Br.out
                  have HW : Hid (Below w.heap.size w wr) := HB.out
                  have k0 := fun q : Wd wr => q.slot (o := 0) Gk.out rfl
                  have k1 := fun q : Wd wr => q.slot (o := 1) Gk.out rfl
                  have k2 := fun q : Wd wr => q.slot (o := 2) Gk.out rfl
                  have k3 := fun q : Wd wr => q.slot (o := 3) Gk.out rfl
                  have k4 := fun q : Wd wr => q.slot (o := 4) Gk.out rfl
                  have k5 := fun q : Wd wr => q.slot (o := 5) Gk.out rfl
                  have r0 := fun q : Wd wr => q.slot (o := 0) Gr.out rfl
                  have r1 := fun q : Wd wr => q.slot (o := 1) Gr.out rfl
                  have r2 := fun q : Wd wr => q.slot (o := 2) Gr.out rfl
                  have r3 := fun q : Wd wr => q.slot (o := 3) Gr.out rfl
                  have r4 := fun q : Wd wr => q.slot (o := 4) Gr.out rfl
                  have r5 := fun q : Wd wr => q.slot (o := 5) Gr.out rfl
                  have q0 : ∀ q : Wd wr, q.w.cell? ⟨b, o + kz * 6, none⟩ = some (.string pq.n) := fun q => (q.cell (hb')).trans (d0)
                  have q1 : ∀ q : Wd wr, q.w.cell? ⟨b, o + kz * 6 + 1, none⟩ = some (.int .i64 pq.c) := fun q => (q.cell (hb')).trans (d1)
                  have q2 : ∀ q : Wd wr, q.w.cell? ⟨b, o + kz * 6 + 2, none⟩ = some (.string pq.z) := fun q => (q.cell (hb')).trans (d2)
                  have q3 : ∀ q : Wd wr, q.w.cell? ⟨b, o + kz * 6 + 3, none⟩ = some (.slice qa ql qc) := fun q => (q.cell (hb')).trans (d3)
                  have q4 : ∀ q : Wd wr, q.w.cell? ⟨b, o + kz * 6 + 4, none⟩ = some (.string pq.d) := fun q => (q.cell (hb')).trans (d4)
                  have q5 : ∀ q : Wd wr, q.w.cell? ⟨b, o + kz * 6 + 5, none⟩ = some (.int .i64 pq.p) := fun q => (q.cell (hb')).trans (d5)
                  have hne0 := Wd.ne wr
                  have HC0 := hidK (fun qw : Wd wr => (spair_any ⟨(some ⟨b1, o1, none⟩), l1, y1, a2, l2, y2, a3, l3, y3, a4, l4, y4, (some ⟨b, o, none⟩), l5, y5⟩ c pq p qa ql qc va vl vc qw.w (HR.out.below (HW.out.trans (qw.b.mono HW.out.size))) HX.out HV.out HNE.out (HTq.out.below qw.b) (HTp.out.below qw.b)).mono (fun _ _ h => BoolB.yes h HPr.out))
                  go_wp2_with fail
                  refine wp_region_wide (by kernel_rfl) (by kernel_rfl) ?_
                  repeat (go_big_quiet_step (first | (go_at_call 79; exact Calls.wide (HC0.out _)) | fail))
                  refine wpQuiet_nil ?_
                  rintro _ ⟨q9, rfl⟩
                  have HB1 := upB HW q9.b
                  have Ck := upK Gk q9.b
                  have Cr := upK Gr q9.b
                  clear hne0 HW HB HC0 k0 k1 k2 k3 k4 k5 r0 r1 r2 r3 r4 r5 q0 q1 q2 q3 q4 q5 Gk Gr Bk Br d0 d1 d2 d3 d4 d5
                  have HB := HB1
                  clear HB1
                  have Bk := Ck
                  clear Ck
                  have Br := Cr
                  clear Cr
                  go_wp2_with fail
                  refine ⟨⟨kz + 1, by omega, by go_num, fun j s hj hs => ?_, HBW.out.trans (q9.b.mono HBW.out.size)⟩, by simp [intOf]; omega⟩
                  by_cases e : j = kz
                  · subst e
                    rw [HXq.out] at hs
                    obtain rfl := Option.some.inj hs
                    exact HPr.out
                  · exact HQ3.out j s (by omega) hs
                · have HPr := hidK hpr
                  clear hpr
                  have Gk : Hid (wr.heap[w.heap.size]? = some (.cells #[.slice (some ⟨b1, o1, none⟩) l1 y1, .slice a2 l2 y2, .slice a3 l3 y3, .slice a4 l4 y4, .slice (some ⟨b, o, none⟩) l5 y5, .int .i64 c.now] 38 (0, 0))) := Bk.out
                  have Gr : Hid (wr.heap[gb]? = some (.cells #[.string p.n, .int .i64 p.c, .string p.z, .slice va vl vc, .string p.d, .int .i64 p.p] 89 (0, 0))) := Br.out
                  have HW : Hid (Below w.heap.size w wr) := HB.out
                  have k0 := fun q : Wd wr => q.slot (o := 0) Gk.out rfl
                  have k1 := fun q : Wd wr => q.slot (o := 1) Gk.out rfl
                  have k2 := fun q : Wd wr => q.slot (o := 2) Gk.out rfl
                  have k3 := fun q : Wd wr => q.slot (o := 3) Gk.out rfl
                  have k4 := fun q : Wd wr => q.slot (o := 4) Gk.out rfl
                  have k5 := fun q : Wd wr => q.slot (o := 5) Gk.out rfl
                  have r0 := fun q : Wd wr => q.slot (o := 0) Gr.out rfl
                  have r1 := fun q : Wd wr => q.slot (o := 1) Gr.out rfl
                  have r2 := fun q : Wd wr => q.slot (o := 2) Gr.out rfl
                  have r3 := fun q : Wd wr => q.slot (o := 3) Gr.out rfl
                  have r4 := fun q : Wd wr => q.slot (o := 4) Gr.out rfl
                  have r5 := fun q : Wd wr => q.slot (o := 5) Gr.out rfl
                  have q0 : ∀ q : Wd wr, q.w.cell? ⟨b, o + kz * 6, none⟩ = some (.string pq.n) := fun q => (q.cell (hb')).trans (d0)
                  have q1 : ∀ q : Wd wr, q.w.cell? ⟨b, o + kz * 6 + 1, none⟩ = some (.int .i64 pq.c) := fun q => (q.cell (hb')).trans (d1)
                  have q2 : ∀ q : Wd wr, q.w.cell? ⟨b, o + kz * 6 + 2, none⟩ = some (.string pq.z) := fun q => (q.cell (hb')).trans (d2)
                  have q3 : ∀ q : Wd wr, q.w.cell? ⟨b, o + kz * 6 + 3, none⟩ = some (.slice qa ql qc) := fun q => (q.cell (hb')).trans (d3)
                  have q4 : ∀ q : Wd wr, q.w.cell? ⟨b, o + kz * 6 + 4, none⟩ = some (.string pq.d) := fun q => (q.cell (hb')).trans (d4)
                  have q5 : ∀ q : Wd wr, q.w.cell? ⟨b, o + kz * 6 + 5, none⟩ = some (.int .i64 pq.p) := fun q => (q.cell (hb')).trans (d5)
                  have hne0 := Wd.ne wr
                  have HC0 := hidK (fun qw : Wd wr => (spair_any ⟨(some ⟨b1, o1, none⟩), l1, y1, a2, l2, y2, a3, l3, y3, a4, l4, y4, (some ⟨b, o, none⟩), l5, y5⟩ c pq p qa ql qc va vl vc qw.w (HR.out.below (HW.out.trans (qw.b.mono HW.out.size))) HX.out HV.out HNE.out (HTq.out.below qw.b) (HTp.out.below qw.b)).mono (fun _ _ h => BoolB.no h HPr.out))
                  go_wp2_with fail
                  refine wp_region_wide (by kernel_rfl) (by kernel_rfl) ?_
                  repeat (go_big_quiet_step (first | (go_at_call 79; exact Calls.wide (HC0.out _)) | fail))
                  refine wpQuiet_nil ?_
                  rintro _ ⟨q9, rfl⟩
                  have HB1 := upB HW q9.b
                  have Ck := upK Gk q9.b
                  have Cr := upK Gr q9.b
                  clear hne0 HW HB HC0 k0 k1 k2 k3 k4 k5 r0 r1 r2 r3 r4 r5 q0 q1 q2 q3 q4 q5 Gk Gr Bk Br d0 d1 d2 d3 d4 d5
                  have HB := HB1
                  clear HB1
                  have Bk := Ck
                  clear Ck
                  have Br := Cr
                  clear Cr
                  go_wp2
                  go_ret
                  exact BoolB.f (fun h => HPr.out ((h.1 k p HXp.out).2.2 kz pq hlt3 HXq.out)) HB.out
              · obtain rfl : k = kz := by omega
                go_wp2_with fail
                refine ⟨⟨k + 1, by omega, by go_num, fun j z hj hz => ?_, HB.out, Bk.out⟩, by simp [intOf]; omega⟩
                by_cases e : j = k
                · subst e
                  rw [HXp.out] at hz
                  obtain rfl := Option.some.inj hz
                  exact ⟨HPa.out, HQb.out, fun j2 q2 hj2 hq2 => HQ3.out j2 q2 hj2 hq2⟩
                · exact HQ.out j z (by omega) hz
      have hq2 := isE_no hz0
      by_cases hz1 : n.z = p.z
      · have hq3 := tl_yes hz1
        have HPa : Hid (PSa c p) := .inr ⟨j1, n, HJn.out, HNn.out, .inr hz1⟩
        clear hz0 hz1
        have Gk : Hid (w1.heap[w.heap.size]? = some (.cells #[.slice (some ⟨b1, o1, none⟩) l1 y1, .slice a2 l2 y2, .slice a3 l3 y3, .slice a4 l4 y4, .slice (some ⟨b, o, none⟩) l5 y5, .int .i64 c.now] 38 (0, 0))) := Bk.out
        have Gr : Hid (w1.heap[wr.heap.size]? = some (.cells #[.string p.n, .int .i64 p.c, .string p.z, .slice va vl vc, .string p.d, .int .i64 p.p] 89 (0, 0))) := Br.out
        have HW : Hid (Below w.heap.size w w1) := HB.out
        have k0 := fun q : Wd w1 => q.slot (o := 0) Gk.out rfl
        have r0 := fun q : Wd w1 => q.slot (o := 0) Gr.out rfl
        have r1 := fun q : Wd w1 => q.slot (o := 1) Gr.out rfl
        have r2 := fun q : Wd w1 => q.slot (o := 2) Gr.out rfl
        have r3 := fun q : Wd w1 => q.slot (o := 3) Gr.out rfl
        have r4 := fun q : Wd w1 => q.slot (o := 4) Gr.out rfl
        have r5 := fun q : Wd w1 => q.slot (o := 5) Gr.out rfl
        have nw : ∀ q : Wd w1, q.w.cell? ⟨b1, o1 + j1 * 7 + 1, none⟩ = some (.string n.z) := fun q => (q.cell (hbn)).trans (n1)
        have hne0 := Wd.ne w1
        go_wp2_with fail
        refine wp_region_wide (by kernel_rfl) (by kernel_rfl) ?_
        repeat (go_big_quiet_step (first | fail))
        refine wpQuiet_nil ?_
        rintro _ ⟨q0, rfl⟩
        have HB2 := upB HW q0.b
        have Ck := upK Gk q0.b
        have Cr := upK Gr q0.b
        have CHTp := hidK ((HTp.out).below q0.b)
        clear hne0 HW HB k0 r0 r1 r2 r3 r4 r5 nw Gk Gr Bk Br HTp hbn n1
        have HB := HB2
        clear HB2
        have HTp := CHTp
        clear CHTp
        have Bk := Ck
        clear Ck
        have Br := Cr
        clear Cr
        clear hq2 hq3
        obtain ⟨gb, hgb⟩ : ∃ gb, gb = wr.heap.size := ⟨_, rfl⟩
        rw [← hgb] at Br
        have pr3 : q0.w.cell? ⟨gb, 3, none⟩ = some (.slice va vl vc) := cellK Br.out 3
        rw [hgb] at pr3
        go_wp2
        rw [← hgb]
        clear pr3 hgb
        have KV := Bk
        have GV := Br
        have BV := HB
        have TV := HTp
        clear Bk Br HB HTp
        obtain ⟨W, hW⟩ : ∃ W, W = q0.w := ⟨_, rfl⟩
        rw [← hW] at KV GV BV TV ⊢
        clear hW
        go_loopw [6] (fun i wr => ∃ kq : Nat, kq ≤ vl ∧ i = .int .i64 kq ∧ Hid (∀ (j : Nat) t, j < kq → p.zs[j]? = some t → PSb1 c p t) ∧ Hid (Below W.heap.size W wr)) (fun i _ => vl - (intOf i).toNat)
        case atStart => exact ⟨0, by omega, rfl, fun _ _ h => absurd h (by omega), Below.refl _ _⟩
        case round =>
          obtain ⟨kq, hkq, rfl, HQ2, HBW⟩ := hrel
          have HB := hidK (BV.out.trans (HBW.out.mono BV.out.size))
          have Bk := upK KV HBW.out
          have Br := upK GV HBW.out
          have pr3 : wr.cell? ⟨gb, 3, none⟩ = some (.slice va vl vc) := cellK Br.out 3
          by_cases hlt2 : kq < vl
          · obtain ⟨b2, o2, t, rfl, hb, hxt, hc, hsz⟩ := (TV.out.below HBW.out).at hlt2
            have HXt := hidK hxt
            clear hxt hsz
            have hcase : (∃ v, IsBd c t v) ∨ (∀ v, ¬ IsBd c t v) := by
              by_cases h : ∃ v, IsBd c t v
              · exact .inl h
              · exact .inr (fun v hv => h ⟨v, hv⟩)
            rcases hcase with ⟨v, hbd⟩ | hbd
            · obtain ⟨j3, hj3⟩ := hbd.at
              have hl3' : j3 < l3 := by have h1 := (List.getElem?_eq_some_iff.1 hj3).1; omega
              obtain ⟨b3, o3, v', rfl, hb3, hv', hat⟩ := vd_at HR.out.v hl3'
              rw [hj3] at hv'
              obtain rfl := Option.some.inj hv'
              obtain ⟨xa, xl, xc, hvr, z0, z2, z3, z5, d0, d1, d2, d3, d4, d5, d6, d7⟩ := vd_cells hat
              have HJ := hidK hj3
              have HD := hidK hbd
              have HC2 := hidK d2
              have HB3 := hidK hb3
              have hj31 : decide ((j3 : Int) < 0) = false := by simp
              clear hv' hat hvr z0 z2 z3 z5 d0 d1 d2 d3 d4 d5 d6 d7 hj3 hbd hb3
              have Gk : Hid (wr.heap[w.heap.size]? = some (.cells #[.slice (some ⟨b1, o1, none⟩) l1 y1, .slice a2 l2 y2, .slice (some ⟨b3, o3, none⟩) l3 y3, .slice a4 l4 y4, .slice (some ⟨b, o, none⟩) l5 y5, .int .i64 c.now] 38 (0, 0))) := Bk.out
              have Gr : Hid (wr.heap[gb]? = some (.cells #[.string p.n, .int .i64 p.c, .string p.z, .slice (some ⟨b2, o2, none⟩) vl vc, .string p.d, .int .i64 p.p] 89 (0, 0))) := Br.out
              have HW : Hid (Below w.heap.size w wr) := HB.out
              have k0 := fun q : Wd wr => q.slot (o := 0) Gk.out rfl
              have k1 := fun q : Wd wr => q.slot (o := 1) Gk.out rfl
              have k2 := fun q : Wd wr => q.slot (o := 2) Gk.out rfl
              have k3 := fun q : Wd wr => q.slot (o := 3) Gk.out rfl
              have k4 := fun q : Wd wr => q.slot (o := 4) Gk.out rfl
              have k5 := fun q : Wd wr => q.slot (o := 5) Gk.out rfl
              have r3 := fun q : Wd wr => q.slot (o := 3) Gr.out rfl
              have tw : ∀ q : Wd wr, q.w.cell? ⟨b2, o2 + kq, none⟩ = some (.string t) := fun q => (q.cell (hb)).trans (hc)
              have hne0 := Wd.ne wr
              have HC0 := hidK (fun q : Wd wr => sbind_hit ⟨(some ⟨b1, o1, none⟩), l1, y1, a2, l2, y2, (some ⟨b3, o3, none⟩), l3, y3, a4, l4, y4, (some ⟨b, o, none⟩), l5, y5⟩ c t q.w (HR.out.below (HW.out.trans (q.b.mono HW.out.size))) HX.out HV.out HNE.out HJ.out HD.out)
              go_wp2_with fail
              refine wp_region_wide (by kernel_rfl) (by kernel_rfl) ?_
              repeat (go_big_quiet_step (first | (go_at_call 78; exact Calls.wide (HC0.out _)) | fail))
              refine wpQuiet_nil ?_
              rintro _ ⟨q1, rfl⟩
              have HB1 := upB HW q1.b
              have Ck := upK Gk q1.b
              have Cr := upK Gr q1.b
              clear hne0 HW HB HC0 k0 k1 k2 k3 k4 k5 r3 tw Gk Gr Bk Br pr3
              have HB := HB1
              clear HB1
              have Bk := Ck
              clear Ck
              have Br := Cr
              clear Cr
              have hc1 := (q1.cell hb).trans hc
              have hb1 : b2 < q1.w.heap.size := Nat.lt_of_lt_of_le hb q1.b.size
              have HBW1 := upB HBW q1.b
              clear hc hb HBW
              by_cases hg : ∃ (i : Nat) (x : Xd), c.xs[i]? = some x ∧ x.n = t
              rotate_left
              · have HG := hidK hg
                clear hg
                have Gk : Hid (q1.w.heap[w.heap.size]? = some (.cells #[.slice (some ⟨b1, o1, none⟩) l1 y1, .slice a2 l2 y2, .slice (some ⟨b3, o3, none⟩) l3 y3, .slice a4 l4 y4, .slice (some ⟨b, o, none⟩) l5 y5, .int .i64 c.now] 38 (0, 0))) := Bk.out
                have Gr : Hid (q1.w.heap[gb]? = some (.cells #[.string p.n, .int .i64 p.c, .string p.z, .slice (some ⟨b2, o2, none⟩) vl vc, .string p.d, .int .i64 p.p] 89 (0, 0))) := Br.out
                have HW : Hid (Below w.heap.size w q1.w) := HB.out
                have k0 := fun q : Wd q1.w => q.slot (o := 0) Gk.out rfl
                have k1 := fun q : Wd q1.w => q.slot (o := 1) Gk.out rfl
                have k2 := fun q : Wd q1.w => q.slot (o := 2) Gk.out rfl
                have k3 := fun q : Wd q1.w => q.slot (o := 3) Gk.out rfl
                have k4 := fun q : Wd q1.w => q.slot (o := 4) Gk.out rfl
                have k5 := fun q : Wd q1.w => q.slot (o := 5) Gk.out rfl
                have r0 := fun q : Wd q1.w => q.slot (o := 0) Gr.out rfl
                have r1 := fun q : Wd q1.w => q.slot (o := 1) Gr.out rfl
                have r2 := fun q : Wd q1.w => q.slot (o := 2) Gr.out rfl
                have r3 := fun q : Wd q1.w => q.slot (o := 3) Gr.out rfl
                have r4 := fun q : Wd q1.w => q.slot (o := 4) Gr.out rfl
                have r5 := fun q : Wd q1.w => q.slot (o := 5) Gr.out rfl
                have tw : ∀ q : Wd q1.w, q.w.cell? ⟨b2, o2 + kq, none⟩ = some (.string t) := fun q => (q.cell (hb1)).trans (hc1)
                have hne0 := Wd.ne q1.w
                have HC0 := hidK (fun q : Wd q1.w => sxxd_miss ⟨(some ⟨b1, o1, none⟩), l1, y1, a2, l2, y2, (some ⟨b3, o3, none⟩), l3, y3, a4, l4, y4, (some ⟨b, o, none⟩), l5, y5⟩ c.now c.xs t q.w (HR.out.x.below (HW.out.trans (q.b.mono HW.out.size))) (fun i x h1 h2 => HG.out ⟨i, x, h1, h2⟩))
                go_wp2_with fail
                refine wp_region_wide (by kernel_rfl) (by kernel_rfl) ?_
                repeat (go_big_quiet_step (first | (go_at_call 75; exact Calls.wide (HC0.out _)) | fail))
                refine wpQuiet_nil ?_
                rintro _ ⟨q2, rfl⟩
                have HB2 := upB HW q2.b
                have Ck := upK Gk q2.b
                have Cr := upK Gr q2.b
                clear hne0 HW HB HC0 k0 k1 k2 k3 k4 k5 r0 r1 r2 r3 r4 r5 tw Gk Gr Bk Br hc1 hb1
                have HB := HB2
                clear HB2
                have Bk := Ck
                clear Ck
                have Br := Cr
                clear Cr
                go_wp2
                go_ret
                refine BoolB.f (fun h => ?_) HB.out
                have h9 := (h.1 k p HXp.out).2.1 kq t HXt.out
                exact HG.out h9.1
              obtain ⟨i4, x4, g1, g2⟩ := hg
              have HG1 := hidK g1
              have HG2 := hidK g2
              have hi41 : decide ((i4 : Int) < 0) = false := by simp
              clear g1 g2
              have hbv : b3 < q1.w.heap.size := Nat.lt_of_lt_of_le HB3.out HB.out.size
              have v2 := (cell_below HB.out HB3.out).trans HC2.out
              have hbn : b1 < q1.w.heap.size := Nat.lt_of_lt_of_le HBn.out HB.out.size
              have n1 := (cell_below HB.out HBn.out).trans HCn.out
              by_cases hz : v.z = n.z
              · have hzq := tl_yes hz
                have HZ := hidK hz
                clear hz
                have Gk : Hid (q1.w.heap[w.heap.size]? = some (.cells #[.slice (some ⟨b1, o1, none⟩) l1 y1, .slice a2 l2 y2, .slice (some ⟨b3, o3, none⟩) l3 y3, .slice a4 l4 y4, .slice (some ⟨b, o, none⟩) l5 y5, .int .i64 c.now] 38 (0, 0))) := Bk.out
                have Gr : Hid (q1.w.heap[gb]? = some (.cells #[.string p.n, .int .i64 p.c, .string p.z, .slice (some ⟨b2, o2, none⟩) vl vc, .string p.d, .int .i64 p.p] 89 (0, 0))) := Br.out
                have HW : Hid (Below w.heap.size w q1.w) := HB.out
                have k0 := fun q : Wd q1.w => q.slot (o := 0) Gk.out rfl
                have k1 := fun q : Wd q1.w => q.slot (o := 1) Gk.out rfl
                have k2 := fun q : Wd q1.w => q.slot (o := 2) Gk.out rfl
                have k3 := fun q : Wd q1.w => q.slot (o := 3) Gk.out rfl
                have k4 := fun q : Wd q1.w => q.slot (o := 4) Gk.out rfl
                have k5 := fun q : Wd q1.w => q.slot (o := 5) Gk.out rfl
                have r0 := fun q : Wd q1.w => q.slot (o := 0) Gr.out rfl
                have r1 := fun q : Wd q1.w => q.slot (o := 1) Gr.out rfl
                have r2 := fun q : Wd q1.w => q.slot (o := 2) Gr.out rfl
                have r3 := fun q : Wd q1.w => q.slot (o := 3) Gr.out rfl
                have r4 := fun q : Wd q1.w => q.slot (o := 4) Gr.out rfl
                have r5 := fun q : Wd q1.w => q.slot (o := 5) Gr.out rfl
                have tw : ∀ q : Wd q1.w, q.w.cell? ⟨b2, o2 + kq, none⟩ = some (.string t) := fun q => (q.cell (hb1)).trans (hc1)
                have vw : ∀ q : Wd q1.w, q.w.cell? ⟨b3, o3 + j3 * 8 + 2, none⟩ = some (.string v.z) := fun q => (q.cell (hbv)).trans (v2)
                have nw : ∀ q : Wd q1.w, q.w.cell? ⟨b1, o1 + j1 * 7 + 1, none⟩ = some (.string n.z) := fun q => (q.cell (hbn)).trans (n1)
                have hne0 := Wd.ne q1.w
                have HC0 := hidK (fun q : Wd q1.w => sxxd_hit ⟨(some ⟨b1, o1, none⟩), l1, y1, a2, l2, y2, (some ⟨b3, o3, none⟩), l3, y3, a4, l4, y4, (some ⟨b, o, none⟩), l5, y5⟩ c.now c.xs t q.w (HR.out.x.below (HW.out.trans (q.b.mono HW.out.size))) HX.out HG1.out HG2.out)
                go_wp2_with fail
                refine wp_region_wide (by kernel_rfl) (by kernel_rfl) ?_
                repeat (go_big_quiet_step (first | (go_at_call 75; exact Calls.wide (HC0.out _)) | fail))
                refine wpQuiet_nil ?_
                rintro _ ⟨q2, rfl⟩
                have HB2 := upB HW q2.b
                have Ck := upK Gk q2.b
                have Cr := upK Gr q2.b
                clear hne0 HW HB HC0 k0 k1 k2 k3 k4 k5 r0 r1 r2 r3 r4 r5 tw vw nw Gk Gr Bk Br hc1 hb1 hbv v2 hbn n1
                have HB := HB2
                clear HB2
                have Bk := Ck
                clear Ck
                have Br := Cr
                clear Cr
                clear hzq
                go_wp2_with fail
                refine ⟨⟨kq + 1, by omega, by go_num, fun j s hj hs => ?_, HBW1.out.trans (q2.b.mono HBW1.out.size)⟩, by simp [intOf]; omega⟩
                by_cases e : j = kq
                · subst e
                  rw [HXt.out] at hs
                  obtain rfl := Option.some.inj hs
                  exact ⟨⟨i4, x4, HG1.out, HG2.out⟩, .inr ⟨v, j1, n, HD.out, HJn.out, HNn.out, HZ.out⟩⟩
                · exact HQ2.out j s (by omega) hs
              · have hzq := tl_no hz
                have HZ := hidK hz
                clear hz
                have Gk : Hid (q1.w.heap[w.heap.size]? = some (.cells #[.slice (some ⟨b1, o1, none⟩) l1 y1, .slice a2 l2 y2, .slice (some ⟨b3, o3, none⟩) l3 y3, .slice a4 l4 y4, .slice (some ⟨b, o, none⟩) l5 y5, .int .i64 c.now] 38 (0, 0))) := Bk.out
                have Gr : Hid (q1.w.heap[gb]? = some (.cells #[.string p.n, .int .i64 p.c, .string p.z, .slice (some ⟨b2, o2, none⟩) vl vc, .string p.d, .int .i64 p.p] 89 (0, 0))) := Br.out
                have HW : Hid (Below w.heap.size w q1.w) := HB.out
                have k0 := fun q : Wd q1.w => q.slot (o := 0) Gk.out rfl
                have k1 := fun q : Wd q1.w => q.slot (o := 1) Gk.out rfl
                have k2 := fun q : Wd q1.w => q.slot (o := 2) Gk.out rfl
                have k3 := fun q : Wd q1.w => q.slot (o := 3) Gk.out rfl
                have k4 := fun q : Wd q1.w => q.slot (o := 4) Gk.out rfl
                have k5 := fun q : Wd q1.w => q.slot (o := 5) Gk.out rfl
                have r0 := fun q : Wd q1.w => q.slot (o := 0) Gr.out rfl
                have r1 := fun q : Wd q1.w => q.slot (o := 1) Gr.out rfl
                have r2 := fun q : Wd q1.w => q.slot (o := 2) Gr.out rfl
                have r3 := fun q : Wd q1.w => q.slot (o := 3) Gr.out rfl
                have r4 := fun q : Wd q1.w => q.slot (o := 4) Gr.out rfl
                have r5 := fun q : Wd q1.w => q.slot (o := 5) Gr.out rfl
                have tw : ∀ q : Wd q1.w, q.w.cell? ⟨b2, o2 + kq, none⟩ = some (.string t) := fun q => (q.cell (hb1)).trans (hc1)
                have vw : ∀ q : Wd q1.w, q.w.cell? ⟨b3, o3 + j3 * 8 + 2, none⟩ = some (.string v.z) := fun q => (q.cell (hbv)).trans (v2)
                have nw : ∀ q : Wd q1.w, q.w.cell? ⟨b1, o1 + j1 * 7 + 1, none⟩ = some (.string n.z) := fun q => (q.cell (hbn)).trans (n1)
                have hne0 := Wd.ne q1.w
                have HC0 := hidK (fun q : Wd q1.w => sxxd_hit ⟨(some ⟨b1, o1, none⟩), l1, y1, a2, l2, y2, (some ⟨b3, o3, none⟩), l3, y3, a4, l4, y4, (some ⟨b, o, none⟩), l5, y5⟩ c.now c.xs t q.w (HR.out.x.below (HW.out.trans (q.b.mono HW.out.size))) HX.out HG1.out HG2.out)
                go_wp2_with fail
                refine wp_region_wide (by kernel_rfl) (by kernel_rfl) ?_
                repeat (go_big_quiet_step (first | (go_at_call 75; exact Calls.wide (HC0.out _)) | fail))
                refine wpQuiet_nil ?_
                rintro _ ⟨q2, rfl⟩
                have HB2 := upB HW q2.b
                have Ck := upK Gk q2.b
                have Cr := upK Gr q2.b
                clear hne0 HW HB HC0 k0 k1 k2 k3 k4 k5 r0 r1 r2 r3 r4 r5 tw vw nw Gk Gr Bk Br hc1 hb1 hbv v2 hbn n1
                have HB := HB2
                clear HB2
                have Bk := Ck
                clear Ck
                have Br := Cr
                clear Cr
                go_wp2
                go_ret
                refine BoolB.f (fun h => ?_) HB.out
                have h9 := (h.1 k p HXp.out).2.1 kq t HXt.out
                rcases h9.2 with h2 | ⟨v', i, n', h2, h3, h4, h5⟩
                · exact HEm.out h2
                · obtain rfl := IsBd.inj HX.out HV.out HD.out h2
                  obtain ⟨_, rfl⟩ := HNR.out.inj h3 HJn.out (h4.trans HNn.out.symm)
                  exact HZ.out h5
            · have HD := hidK hbd
              clear hbd
              have Gk : Hid (wr.heap[w.heap.size]? = some (.cells #[.slice (some ⟨b1, o1, none⟩) l1 y1, .slice a2 l2 y2, .slice a3 l3 y3, .slice a4 l4 y4, .slice (some ⟨b, o, none⟩) l5 y5, .int .i64 c.now] 38 (0, 0))) := Bk.out
              have Gr : Hid (wr.heap[gb]? = some (.cells #[.string p.n, .int .i64 p.c, .string p.z, .slice (some ⟨b2, o2, none⟩) vl vc, .string p.d, .int .i64 p.p] 89 (0, 0))) := Br.out
              have HW : Hid (Below w.heap.size w wr) := HB.out
              have k0 := fun q : Wd wr => q.slot (o := 0) Gk.out rfl
              have k1 := fun q : Wd wr => q.slot (o := 1) Gk.out rfl
              have k2 := fun q : Wd wr => q.slot (o := 2) Gk.out rfl
              have k3 := fun q : Wd wr => q.slot (o := 3) Gk.out rfl
              have k4 := fun q : Wd wr => q.slot (o := 4) Gk.out rfl
              have k5 := fun q : Wd wr => q.slot (o := 5) Gk.out rfl
              have r3 := fun q : Wd wr => q.slot (o := 3) Gr.out rfl
              have tw : ∀ q : Wd wr, q.w.cell? ⟨b2, o2 + kq, none⟩ = some (.string t) := fun q => (q.cell (hb)).trans (hc)
              have hne0 := Wd.ne wr
              have HC0 := hidK (fun q : Wd wr => sbind_miss ⟨(some ⟨b1, o1, none⟩), l1, y1, a2, l2, y2, a3, l3, y3, a4, l4, y4, (some ⟨b, o, none⟩), l5, y5⟩ c t q.w (HR.out.below (HW.out.trans (q.b.mono HW.out.size))) HX.out HV.out HNE.out HD.out)
              go_wp2_with fail
              refine wp_region_wide (by kernel_rfl) (by kernel_rfl) ?_
              repeat (go_big_quiet_step (first | (go_at_call 78; exact Calls.wide (HC0.out _)) | fail))
              refine wpQuiet_nil ?_
              rintro _ ⟨q1, rfl⟩
              have HB1 := upB HW q1.b
              have Ck := upK Gk q1.b
              have Cr := upK Gr q1.b
              clear hne0 HW HB HC0 k0 k1 k2 k3 k4 k5 r3 tw Gk Gr Bk Br pr3
              have HB := HB1
              clear HB1
              have Bk := Ck
              clear Ck
              have Br := Cr
              clear Cr
              have hc1 := (q1.cell hb).trans hc
              have hb1 : b2 < q1.w.heap.size := Nat.lt_of_lt_of_le hb q1.b.size
              have HBW1 := upB HBW q1.b
              clear hc hb HBW
              by_cases hg : ∃ (i : Nat) (x : Xd), c.xs[i]? = some x ∧ x.n = t
              rotate_left
              · have HG := hidK hg
                clear hg
                have Gk : Hid (q1.w.heap[w.heap.size]? = some (.cells #[.slice (some ⟨b1, o1, none⟩) l1 y1, .slice a2 l2 y2, .slice a3 l3 y3, .slice a4 l4 y4, .slice (some ⟨b, o, none⟩) l5 y5, .int .i64 c.now] 38 (0, 0))) := Bk.out
                have Gr : Hid (q1.w.heap[gb]? = some (.cells #[.string p.n, .int .i64 p.c, .string p.z, .slice (some ⟨b2, o2, none⟩) vl vc, .string p.d, .int .i64 p.p] 89 (0, 0))) := Br.out
                have HW : Hid (Below w.heap.size w q1.w) := HB.out
                have k0 := fun q : Wd q1.w => q.slot (o := 0) Gk.out rfl
                have k1 := fun q : Wd q1.w => q.slot (o := 1) Gk.out rfl
                have k2 := fun q : Wd q1.w => q.slot (o := 2) Gk.out rfl
                have k3 := fun q : Wd q1.w => q.slot (o := 3) Gk.out rfl
                have k4 := fun q : Wd q1.w => q.slot (o := 4) Gk.out rfl
                have k5 := fun q : Wd q1.w => q.slot (o := 5) Gk.out rfl
                have r0 := fun q : Wd q1.w => q.slot (o := 0) Gr.out rfl
                have r1 := fun q : Wd q1.w => q.slot (o := 1) Gr.out rfl
                have r2 := fun q : Wd q1.w => q.slot (o := 2) Gr.out rfl
                have r3 := fun q : Wd q1.w => q.slot (o := 3) Gr.out rfl
                have r4 := fun q : Wd q1.w => q.slot (o := 4) Gr.out rfl
                have r5 := fun q : Wd q1.w => q.slot (o := 5) Gr.out rfl
                have tw : ∀ q : Wd q1.w, q.w.cell? ⟨b2, o2 + kq, none⟩ = some (.string t) := fun q => (q.cell (hb1)).trans (hc1)
                have hne0 := Wd.ne q1.w
                have HC0 := hidK (fun q : Wd q1.w => sxxd_miss ⟨(some ⟨b1, o1, none⟩), l1, y1, a2, l2, y2, a3, l3, y3, a4, l4, y4, (some ⟨b, o, none⟩), l5, y5⟩ c.now c.xs t q.w (HR.out.x.below (HW.out.trans (q.b.mono HW.out.size))) (fun i x h1 h2 => HG.out ⟨i, x, h1, h2⟩))
                go_wp2_with fail
                refine wp_region_wide (by kernel_rfl) (by kernel_rfl) ?_
                repeat (go_big_quiet_step (first | (go_at_call 75; exact Calls.wide (HC0.out _)) | fail))
                refine wpQuiet_nil ?_
                rintro _ ⟨q2, rfl⟩
                have HB2 := upB HW q2.b
                have Ck := upK Gk q2.b
                have Cr := upK Gr q2.b
                clear hne0 HW HB HC0 k0 k1 k2 k3 k4 k5 r0 r1 r2 r3 r4 r5 tw Gk Gr Bk Br hc1 hb1
                have HB := HB2
                clear HB2
                have Bk := Ck
                clear Ck
                have Br := Cr
                clear Cr
                go_wp2
                go_ret
                refine BoolB.f (fun h => ?_) HB.out
                have h9 := (h.1 k p HXp.out).2.1 kq t HXt.out
                exact HG.out h9.1
              obtain ⟨i4, x4, g1, g2⟩ := hg
              have HG1 := hidK g1
              have HG2 := hidK g2
              have hi41 : decide ((i4 : Int) < 0) = false := by simp
              clear g1 g2
              have Gk : Hid (q1.w.heap[w.heap.size]? = some (.cells #[.slice (some ⟨b1, o1, none⟩) l1 y1, .slice a2 l2 y2, .slice a3 l3 y3, .slice a4 l4 y4, .slice (some ⟨b, o, none⟩) l5 y5, .int .i64 c.now] 38 (0, 0))) := Bk.out
              have Gr : Hid (q1.w.heap[gb]? = some (.cells #[.string p.n, .int .i64 p.c, .string p.z, .slice (some ⟨b2, o2, none⟩) vl vc, .string p.d, .int .i64 p.p] 89 (0, 0))) := Br.out
              have HW : Hid (Below w.heap.size w q1.w) := HB.out
              have k0 := fun q : Wd q1.w => q.slot (o := 0) Gk.out rfl
              have k1 := fun q : Wd q1.w => q.slot (o := 1) Gk.out rfl
              have k2 := fun q : Wd q1.w => q.slot (o := 2) Gk.out rfl
              have k3 := fun q : Wd q1.w => q.slot (o := 3) Gk.out rfl
              have k4 := fun q : Wd q1.w => q.slot (o := 4) Gk.out rfl
              have k5 := fun q : Wd q1.w => q.slot (o := 5) Gk.out rfl
              have r0 := fun q : Wd q1.w => q.slot (o := 0) Gr.out rfl
              have r1 := fun q : Wd q1.w => q.slot (o := 1) Gr.out rfl
              have r2 := fun q : Wd q1.w => q.slot (o := 2) Gr.out rfl
              have r3 := fun q : Wd q1.w => q.slot (o := 3) Gr.out rfl
              have r4 := fun q : Wd q1.w => q.slot (o := 4) Gr.out rfl
              have r5 := fun q : Wd q1.w => q.slot (o := 5) Gr.out rfl
              have tw : ∀ q : Wd q1.w, q.w.cell? ⟨b2, o2 + kq, none⟩ = some (.string t) := fun q => (q.cell (hb1)).trans (hc1)
              have hne0 := Wd.ne q1.w
              have HC0 := hidK (fun q : Wd q1.w => sxxd_hit ⟨(some ⟨b1, o1, none⟩), l1, y1, a2, l2, y2, a3, l3, y3, a4, l4, y4, (some ⟨b, o, none⟩), l5, y5⟩ c.now c.xs t q.w (HR.out.x.below (HW.out.trans (q.b.mono HW.out.size))) HX.out HG1.out HG2.out)
              go_wp2_with fail
              refine wp_region_wide (by kernel_rfl) (by kernel_rfl) ?_
              repeat (go_big_quiet_step (first | (go_at_call 75; exact Calls.wide (HC0.out _)) | fail))
              refine wpQuiet_nil ?_
              rintro _ ⟨q2, rfl⟩
              have HB2 := upB HW q2.b
              have Ck := upK Gk q2.b
              have Cr := upK Gr q2.b
              clear hne0 HW HB HC0 k0 k1 k2 k3 k4 k5 r0 r1 r2 r3 r4 r5 tw Gk Gr Bk Br hc1 hb1
              have HB := HB2
              clear HB2
              have Bk := Ck
              clear Ck
              have Br := Cr
              clear Cr
              go_wp2
              go_ret
              refine BoolB.f (fun h => ?_) HB.out
              have h9 := (h.1 k p HXp.out).2.1 kq t HXt.out
              rcases h9.2 with h2 | ⟨v', i, n', h2, _⟩
              · exact HEm.out h2
              · exact HD.out v' h2
          · obtain rfl : vl = kq := by omega
            have HQb : Hid (PSb c p) := fun j t ht => HQ2.out j t (by have h1 := (List.getElem?_eq_some_iff.1 ht).1; have h2 := HVL.out; omega) ht
            clear HQ2
            have TV2 := hidK (TV.out.below HBW.out)
            have KV2 := Bk
            have GV2 := Br
            have BV2 := HB
            clear KV GV BV TV Bk Br HB HBW
            obtain ⟨W2, hW⟩ : ∃ W2, W2 = wr := ⟨_, rfl⟩
            rw [← hW] at KV2 GV2 BV2 TV2
            go_wp2
            clear pr3
            rw [← hW]
            clear hW
            go_loopw [8] (fun i wr => ∃ kz : Nat, kz ≤ k ∧ i = .int .i64 kz ∧ Hid (∀ (j : Nat) q, j < kz → c.ps[j]? = some q → PairS c q p) ∧ Hid (Below W2.heap.size W2 wr)) (fun i _ => k - (intOf i).toNat)
            case atStart => exact ⟨0, by omega, rfl, fun _ _ h => absurd h (by omega), Below.refl _ _⟩
            case round =>
              obtain ⟨kz, hkz, rfl, HQ3, HBW⟩ := hrel
              have HB := hidK (BV2.out.trans (HBW.out.mono BV2.out.size))
              have Bk := upK KV2 HBW.out
              have Br := upK GV2 HBW.out
              have HTp := hidK (TV2.out.below HBW.out)
              by_cases hlt3 : kz < k
              · obtain ⟨b', o', pq, e', hb', hqq, hatq⟩ := pd_at (HR.out.p.below HB.out) (show kz < l5 by omega)
                cases e'
                obtain ⟨qa, ql, qc, hqr, z0, z2, z4, d0, d1, d2, d3, d4, d5⟩ := pd_cells hatq
                have HXq := hidK hqq
                have HTq := hidK hqr
                clear hatq hqq hqr z0 z2 z4
                by_cases hpr : PairS c pq p
                · have HPr := hidK hpr
                  clear hpr
                  have Gk : Hid (wr.heap[w.heap.size]? = some (.cells #[.slice (some ⟨b1, o1, none⟩) l1 y1, .slice a2 l2 y2, .slice a3 l3 y3, .slice a4 l4 y4, .slice (some ⟨b, o, none⟩) l5 y5, .int .i64 c.now] 38 (0, 0))) := Bk.out
                  have Gr : Hid (wr.heap[gb]? = some (.cells #[.string p.n, .int .i64 p.c, .string p.z, .slice va vl vc, .string p.d, .int .i64 p.p] 89 (0, 0))) := Br.out
                  have HW : Hid (Below w.heap.size w wr) := HB.out
                  have k0 := fun q : Wd wr => q.slot (o := 0) Gk.out rfl
                  have k1 := fun q : Wd wr => q.slot (o := 1) Gk.out rfl
                  have k2 := fun q : Wd wr => q.slot (o := 2) Gk.out rfl
                  have k3 := fun q : Wd wr => q.slot (o := 3) Gk.out rfl
                  have k4 := fun q : Wd wr => q.slot (o := 4) Gk.out rfl
                  have k5 := fun q : Wd wr => q.slot (o := 5) Gk.out rfl
                  have r0 := fun q : Wd wr => q.slot (o := 0) Gr.out rfl
                  have r1 := fun q : Wd wr => q.slot (o := 1) Gr.out rfl
                  have r2 := fun q : Wd wr => q.slot (o := 2) Gr.out rfl
                  have r3 := fun q : Wd wr => q.slot (o := 3) Gr.out rfl
                  have r4 := fun q : Wd wr => q.slot (o := 4) Gr.out rfl
                  have r5 := fun q : Wd wr => q.slot (o := 5) Gr.out rfl
                  have q0 : ∀ q : Wd wr, q.w.cell? ⟨b, o + kz * 6, none⟩ = some (.string pq.n) := fun q => (q.cell (hb')).trans (d0)
                  have q1 : ∀ q : Wd wr, q.w.cell? ⟨b, o + kz * 6 + 1, none⟩ = some (.int .i64 pq.c) := fun q => (q.cell (hb')).trans (d1)
                  have q2 : ∀ q : Wd wr, q.w.cell? ⟨b, o + kz * 6 + 2, none⟩ = some (.string pq.z) := fun q => (q.cell (hb')).trans (d2)
                  have q3 : ∀ q : Wd wr, q.w.cell? ⟨b, o + kz * 6 + 3, none⟩ = some (.slice qa ql qc) := fun q => (q.cell (hb')).trans (d3)
                  have q4 : ∀ q : Wd wr, q.w.cell? ⟨b, o + kz * 6 + 4, none⟩ = some (.string pq.d) := fun q => (q.cell (hb')).trans (d4)
                  have q5 : ∀ q : Wd wr, q.w.cell? ⟨b, o + kz * 6 + 5, none⟩ = some (.int .i64 pq.p) := fun q => (q.cell (hb')).trans (d5)
                  have hne0 := Wd.ne wr
                  have HC0 := hidK (fun qw : Wd wr => (spair_any ⟨(some ⟨b1, o1, none⟩), l1, y1, a2, l2, y2, a3, l3, y3, a4, l4, y4, (some ⟨b, o, none⟩), l5, y5⟩ c pq p qa ql qc va vl vc qw.w (HR.out.below (HW.out.trans (qw.b.mono HW.out.size))) HX.out HV.out HNE.out (HTq.out.below qw.b) (HTp.out.below qw.b)).mono (fun _ _ h => BoolB.yes h HPr.out))
                  go_wp2_with fail
                  refine wp_region_wide (by kernel_rfl) (by kernel_rfl) ?_
                  repeat (go_big_quiet_step (first | (go_at_call 79; exact Calls.wide (HC0.out _)) | fail))
                  refine wpQuiet_nil ?_
                  rintro _ ⟨q9, rfl⟩
                  have HB1 := upB HW q9.b
                  have Ck := upK Gk q9.b
                  have Cr := upK Gr q9.b
                  clear hne0 HW HB HC0 k0 k1 k2 k3 k4 k5 r0 r1 r2 r3 r4 r5 q0 q1 q2 q3 q4 q5 Gk Gr Bk Br d0 d1 d2 d3 d4 d5
                  have HB := HB1
                  clear HB1
                  have Bk := Ck
                  clear Ck
                  have Br := Cr
                  clear Cr
                  go_wp2_with fail
                  refine ⟨⟨kz + 1, by omega, by go_num, fun j s hj hs => ?_, HBW.out.trans (q9.b.mono HBW.out.size)⟩, by simp [intOf]; omega⟩
                  by_cases e : j = kz
                  · subst e
                    rw [HXq.out] at hs
                    obtain rfl := Option.some.inj hs
                    exact HPr.out
                  · exact HQ3.out j s (by omega) hs
                · have HPr := hidK hpr
                  clear hpr
                  have Gk : Hid (wr.heap[w.heap.size]? = some (.cells #[.slice (some ⟨b1, o1, none⟩) l1 y1, .slice a2 l2 y2, .slice a3 l3 y3, .slice a4 l4 y4, .slice (some ⟨b, o, none⟩) l5 y5, .int .i64 c.now] 38 (0, 0))) := Bk.out
                  have Gr : Hid (wr.heap[gb]? = some (.cells #[.string p.n, .int .i64 p.c, .string p.z, .slice va vl vc, .string p.d, .int .i64 p.p] 89 (0, 0))) := Br.out
                  have HW : Hid (Below w.heap.size w wr) := HB.out
                  have k0 := fun q : Wd wr => q.slot (o := 0) Gk.out rfl
                  have k1 := fun q : Wd wr => q.slot (o := 1) Gk.out rfl
                  have k2 := fun q : Wd wr => q.slot (o := 2) Gk.out rfl
                  have k3 := fun q : Wd wr => q.slot (o := 3) Gk.out rfl
                  have k4 := fun q : Wd wr => q.slot (o := 4) Gk.out rfl
                  have k5 := fun q : Wd wr => q.slot (o := 5) Gk.out rfl
                  have r0 := fun q : Wd wr => q.slot (o := 0) Gr.out rfl
                  have r1 := fun q : Wd wr => q.slot (o := 1) Gr.out rfl
                  have r2 := fun q : Wd wr => q.slot (o := 2) Gr.out rfl
                  have r3 := fun q : Wd wr => q.slot (o := 3) Gr.out rfl
                  have r4 := fun q : Wd wr => q.slot (o := 4) Gr.out rfl
                  have r5 := fun q : Wd wr => q.slot (o := 5) Gr.out rfl
                  have q0 : ∀ q : Wd wr, q.w.cell? ⟨b, o + kz * 6, none⟩ = some (.string pq.n) := fun q => (q.cell (hb')).trans (d0)
                  have q1 : ∀ q : Wd wr, q.w.cell? ⟨b, o + kz * 6 + 1, none⟩ = some (.int .i64 pq.c) := fun q => (q.cell (hb')).trans (d1)
                  have q2 : ∀ q : Wd wr, q.w.cell? ⟨b, o + kz * 6 + 2, none⟩ = some (.string pq.z) := fun q => (q.cell (hb')).trans (d2)
                  have q3 : ∀ q : Wd wr, q.w.cell? ⟨b, o + kz * 6 + 3, none⟩ = some (.slice qa ql qc) := fun q => (q.cell (hb')).trans (d3)
                  have q4 : ∀ q : Wd wr, q.w.cell? ⟨b, o + kz * 6 + 4, none⟩ = some (.string pq.d) := fun q => (q.cell (hb')).trans (d4)
                  have q5 : ∀ q : Wd wr, q.w.cell? ⟨b, o + kz * 6 + 5, none⟩ = some (.int .i64 pq.p) := fun q => (q.cell (hb')).trans (d5)
                  have hne0 := Wd.ne wr
                  have HC0 := hidK (fun qw : Wd wr => (spair_any ⟨(some ⟨b1, o1, none⟩), l1, y1, a2, l2, y2, a3, l3, y3, a4, l4, y4, (some ⟨b, o, none⟩), l5, y5⟩ c pq p qa ql qc va vl vc qw.w (HR.out.below (HW.out.trans (qw.b.mono HW.out.size))) HX.out HV.out HNE.out (HTq.out.below qw.b) (HTp.out.below qw.b)).mono (fun _ _ h => BoolB.no h HPr.out))
                  go_wp2_with fail
                  refine wp_region_wide (by kernel_rfl) (by kernel_rfl) ?_
                  repeat (go_big_quiet_step (first | (go_at_call 79; exact Calls.wide (HC0.out _)) | fail))
                  refine wpQuiet_nil ?_
                  rintro _ ⟨q9, rfl⟩
                  have HB1 := upB HW q9.b
                  have Ck := upK Gk q9.b
                  have Cr := upK Gr q9.b
                  clear hne0 HW HB HC0 k0 k1 k2 k3 k4 k5 r0 r1 r2 r3 r4 r5 q0 q1 q2 q3 q4 q5 Gk Gr Bk Br d0 d1 d2 d3 d4 d5
                  have HB := HB1
                  clear HB1
                  have Bk := Ck
                  clear Ck
                  have Br := Cr
                  clear Cr
                  go_wp2
                  go_ret
                  exact BoolB.f (fun h => HPr.out ((h.1 k p HXp.out).2.2 kz pq hlt3 HXq.out)) HB.out
              · obtain rfl : k = kz := by omega
                go_wp2_with fail
                refine ⟨⟨k + 1, by omega, by go_num, fun j z hj hz => ?_, HB.out, Bk.out⟩, by simp [intOf]; omega⟩
                by_cases e : j = k
                · subst e
                  rw [HXp.out] at hz
                  obtain rfl := Option.some.inj hz
                  exact ⟨HPa.out, HQb.out, fun j2 q2 hj2 hq2 => HQ3.out j2 q2 hj2 hq2⟩
                · exact HQ.out j z (by omega) hz
      · have hq3 := tl_no hz1
        have HZ0 := hidK hz0
        have HZ1 := hidK hz1
        clear hz0 hz1
        have Gk : Hid (w1.heap[w.heap.size]? = some (.cells #[.slice (some ⟨b1, o1, none⟩) l1 y1, .slice a2 l2 y2, .slice a3 l3 y3, .slice a4 l4 y4, .slice (some ⟨b, o, none⟩) l5 y5, .int .i64 c.now] 38 (0, 0))) := Bk.out
        have Gr : Hid (w1.heap[wr.heap.size]? = some (.cells #[.string p.n, .int .i64 p.c, .string p.z, .slice va vl vc, .string p.d, .int .i64 p.p] 89 (0, 0))) := Br.out
        have HW : Hid (Below w.heap.size w w1) := HB.out
        have k0 := fun q : Wd w1 => q.slot (o := 0) Gk.out rfl
        have r0 := fun q : Wd w1 => q.slot (o := 0) Gr.out rfl
        have r1 := fun q : Wd w1 => q.slot (o := 1) Gr.out rfl
        have r2 := fun q : Wd w1 => q.slot (o := 2) Gr.out rfl
        have r3 := fun q : Wd w1 => q.slot (o := 3) Gr.out rfl
        have r4 := fun q : Wd w1 => q.slot (o := 4) Gr.out rfl
        have r5 := fun q : Wd w1 => q.slot (o := 5) Gr.out rfl
        have nw : ∀ q : Wd w1, q.w.cell? ⟨b1, o1 + j1 * 7 + 1, none⟩ = some (.string n.z) := fun q => (q.cell (hbn)).trans (n1)
        have hne0 := Wd.ne w1
        go_wp2_with fail
        refine wp_region_wide (by kernel_rfl) (by kernel_rfl) ?_
        repeat (go_big_quiet_step (first | fail))
        refine wpQuiet_nil ?_
        rintro _ ⟨q0, rfl⟩
        have HB2 := upB HW q0.b
        have Ck := upK Gk q0.b
        have Cr := upK Gr q0.b
        have CHTp := hidK ((HTp.out).below q0.b)
        clear hne0 HW HB k0 r0 r1 r2 r3 r4 r5 nw Gk Gr Bk Br HTp hbn n1
        have HB := HB2
        clear HB2
        have HTp := CHTp
        clear CHTp
        have Bk := Ck
        clear Ck
        have Br := Cr
        clear Cr
        go_wp2
        go_ret
        refine BoolB.f (fun h => ?_) HB.out
        rcases (h.1 k p HXp.out).1 with h2 | ⟨i, n', h2, h3, h4⟩
        · exact HEm.out h2
        · obtain ⟨_, rfl⟩ := HNR.out.inj h2 HJn.out (h3.trans HNn.out.symm)
          rcases h4 with h4 | h4
          · exact HZ0.out h4
          · exact HZ1.out h4
    · obtain rfl : l5 = k := by omega
      have HQ1 : Hid (∀ (k : Nat) p, c.ps[k]? = some p → PS c k p) := fun j z hz => HQ.out j z (by have := (List.getElem?_eq_some_iff.1 hz).1; omega) hz
      clear HQ
      have kc : wr.cell? ⟨w.heap.size, 0, none⟩ = some (.slice a1 l1 y1) := cellK Bk.out 0
      go_wp2
      clear pk kc
      go_loopw [9] (fun i wr => ∃ k : Nat, k ≤ l1 ∧ i = .int .i64 k ∧ Hid (∀ (j : Nat) n, j < k → c.ns[j]? = some n → cpuOf n.n c.ps ≤ n.c) ∧ Hid (Below w.heap.size w wr) ∧ Hid (wr.heap[w.heap.size]? = some (.cells #[.slice a1 l1 y1, .slice a2 l2 y2, .slice a3 l3 y3, .slice a4 l4 y4, .slice a5 l5 y5, .int .i64 c.now] 38 (0, 0)))) (fun i _ => l1 - (intOf i).toNat)
      case atStart => exact ⟨0, by omega, rfl, fun _ _ h => absurd h (by omega), HB.out, Bk.out⟩
      case round =>
        obtain ⟨k, hk, rfl, HQ, HB, Bk⟩ := hrel
        have pk : wr.cell? ⟨w.heap.size, 0, none⟩ = some (.slice a1 l1 y1) := cellK Bk.out 0
        by_cases hlt : k < l1
        · obtain ⟨b, o, n, rfl, hb, hx, hat⟩ := nd_at (HR.out.n.below HB.out) hlt
          obtain ⟨va, vl, vc, hvr, z0, z1, c0, c1, c2, c3, c4, c5, c6⟩ := nd_cells hat
          have HXn := hidK hx
          have HTn := hidK hvr
          have HZn0 := hidK z0
          have HZn1 := hidK z1
          clear hat hx z0 z1 hvr
          have Gk : Hid (wr.heap[w.heap.size]? = some (.cells #[.slice (some ⟨b, o, none⟩) l1 y1, .slice a2 l2 y2, .slice a3 l3 y3, .slice a4 l4 y4, .slice a5 l5 y5, .int .i64 c.now] 38 (0, 0))) := Bk.out
          have HW : Hid (Below w.heap.size w wr) := HB.out
          have k0 := fun q : Wd wr => q.slot (o := 0) Gk.out rfl
          have k1 := fun q : Wd wr => q.slot (o := 1) Gk.out rfl
          have k2 := fun q : Wd wr => q.slot (o := 2) Gk.out rfl
          have k3 := fun q : Wd wr => q.slot (o := 3) Gk.out rfl
          have k4 := fun q : Wd wr => q.slot (o := 4) Gk.out rfl
          have k5 := fun q : Wd wr => q.slot (o := 5) Gk.out rfl
          have n0w : ∀ q : Wd wr, q.w.cell? ⟨b, o + k * 7, none⟩ = some (.string n.n) := fun q => (q.cell (hb)).trans (c0)
          have n2w : ∀ q : Wd wr, q.w.cell? ⟨b, o + k * 7 + 2, none⟩ = some (.int .i64 n.c) := fun q => (q.cell (hb)).trans (c2)
          have hne0 := Wd.ne wr
          have HC0 := hidK (fun q : Wd wr => sused_any ⟨(some ⟨b, o, none⟩), l1, y1, a2, l2, y2, a3, l3, y3, a4, l4, y4, a5, l5, y5⟩ c.now c.ps n.n q.w (HR.out.p.below (HW.out.trans (q.b.mono HW.out.size))) HL5.out HPC.out)
          go_wp2_with fail
          refine wp_region_wide (by kernel_rfl) (by kernel_rfl) ?_
          repeat (go_big_quiet_step (first | (go_at_call 80; exact Calls.wide (HC0.out _)) | fail))
          refine wpQuiet_nil ?_
          rintro _ ⟨q1, rfl⟩
          have HB1 := upB HW q1.b
          have Ck := upK Gk q1.b
          clear hne0 HW HB HC0 k0 k1 k2 k3 k4 k5 n0w n2w Gk Bk pk c0 c1 c2 c3 c4 c5 c6 hb
          have HB := HB1
          clear HB1
          have Bk := Ck
          clear Ck
          by_cases hq : cpuOf n.n c.ps ≤ n.c
          · have HCq := hidK hq
            go_wp2_with fail
            refine ⟨⟨k + 1, by omega, by go_num, fun j z hj hz => ?_, HB.out, Bk.out⟩, by simp [intOf]; omega⟩
            by_cases e : j = k
            · subst e
              rw [HXn.out] at hz
              obtain rfl := Option.some.inj hz
              exact HCq.out
            · exact HQ.out j z (by omega) hz
          · have HCq := hidK hq
            go_wp2
            go_ret
            exact BoolB.f (fun h => by have h1 : cpuOf n.n c.ps ≤ n.c := h.2 k n HXn.out; have h2 := HCq.out; omega) HB.out
        · obtain rfl : l1 = k := by omega
          go_wp2
          go_ret
          exact BoolB.t ⟨HQ1.out, fun j n hz => HQ.out j n (by have := (List.getElem?_eq_some_iff.1 hz).1; omega) hz⟩ HB.out

def AttachedS (c : Cl) : Prop := (∀ (j : Nat) z, c.vs[j]? = some z → AQ1 c z) ∧ ∀ (j : Nat) n, c.ns[j]? = some n → onOf n.n c.vs ≤ n.s

set_option maxRecDepth 100000 in
set_option maxHeartbeats 12800000 in
theorem sattached_any (d : Ad) (c : Cl) (w : World) (hr : ClRow w d c.raw) (hn : RisBy Nd.n c.ns) (hvs8 : c.vs.length ≤ 8) :
    Calls Tryz.prog 48 #[.agg #[.slice d.a1 d.l1 d.c1, .slice d.a2 d.l2 d.c2, .slice d.a3 d.l3 d.c3, .slice d.a4 d.l4 d.c4, .slice d.a5 d.l5 d.c5, .int .i64 c.now]] w (BoolB (AttachedS c) w) := by
  obtain ⟨a1, l1, y1, a2, l2, y2, a3, l3, y3, a4, l4, y4, a5, l5, y5⟩ := d
  dsimp only
  have HR := hidK hr
  have hl1 : c.ns.length = l1 := by simpa using (show (c.ns.map ndF).length = l1 from hr.n.1)
  have hm1 : l1 ≤ 9223372036854775807 := Nat.le_trans hr.n.2.1 hr.n.2.2.1
  have hl2 : c.ks.length = l2 := by simpa using (show (c.ks.map kdF).length = l2 from hr.k.1)
  have hm2 : l2 ≤ 9223372036854775807 := Nat.le_trans hr.k.2.1 hr.k.2.2.1
  have hl3 : c.vs.length = l3 := by simpa using (show (c.vs.map vdF).length = l3 from hr.v.1)
  have hm3 : l3 ≤ 9223372036854775807 := Nat.le_trans hr.v.2.1 hr.v.2.2.1
  have hl4 : c.xs.length = l4 := by simpa using (show (c.xs.map xdF).length = l4 from hr.x.1)
  have hm4 : l4 ≤ 9223372036854775807 := Nat.le_trans hr.x.2.1 hr.x.2.2.1
  have hl5 : c.ps.length = l5 := by simpa using (show (c.ps.map pdF).length = l5 from hr.p.1)
  have hm5 : l5 ≤ 9223372036854775807 := Nat.le_trans hr.p.2.1 hr.p.2.2.1
  clear hr
  have HNR := hidK hn
  have HL3 := hidK hvs8
  clear hn hvs8
  go_enter Tryz.func48, Tryz.ntmps48
  go_wp2
  go_loopw [3] (fun i wr => ∃ k : Nat, k ≤ l3 ∧ i = .int .i64 k ∧ Hid (∀ (j : Nat) z, j < k → c.vs[j]? = some z → AQ1 c z) ∧ Hid (Below w.heap.size w wr) ∧ Hid (wr.heap[w.heap.size]? = some (.cells #[.slice a1 l1 y1, .slice a2 l2 y2, .slice a3 l3 y3, .slice a4 l4 y4, .slice a5 l5 y5, .int .i64 c.now] 38 (0, 0)))) (fun i _ => l3 - (intOf i).toNat)
  case atStart => exact ⟨0, by omega, rfl, fun _ _ h => absurd h (by omega), below1 _ _, Array.getElem?_push_size⟩
  case round =>
    obtain ⟨k, hk, rfl, HQ, HB, Bk⟩ := hrel
    have pk : wr.cell? ⟨w.heap.size, 2, none⟩ = some (.slice a3 l3 y3) := cellK Bk.out 2
    have pkl : w.heap.size < wr.heap.size := lt_of_some Bk.out
    by_cases hlt : k < l3
    · obtain ⟨b, o, v, rfl, hb, hx, hat⟩ := vd_at (HR.out.v.below HB.out) hlt
      obtain ⟨va, vl, vc, hvr, z0, z2, z3, z5, c0, c1, c2, c3, c4, c5, c6, c7⟩ := vd_cells hat
      have HXv := hidK hx
      have HTv := hidK hvr
      have HZv0 := hidK z0
      have HZv2 := hidK z2
      have HZv3 := hidK z3
      have HZv5 := hidK z5
      clear hat hx z0 z2 z3 z5 hvr
      have hvl : v.zs.length = vl := HTv.out.1
      have hvc : vl ≤ 9223372036854775807 := Nat.le_trans HTv.out.2.1 HTv.out.2.2.1
      have HVL := hidK hvl
      clear hvl
      have KV : Hid ((wr.alloc (.cells #[.string v.n, .int .i64 v.c, .string v.z, .string v.k, .bool v.x, .string v.m, .bool v.y, .slice va vl vc] 92)).heap[w.heap.size]? = some (.cells #[.slice a1 l1 y1, .slice a2 l2 y2, .slice (some ⟨b, o, none⟩) l3 y3, .slice a4 l4 y4, .slice a5 l5 y5, .int .i64 c.now] 38 (0, 0))) := (Below.heap_alloc wr (.cells #[.string v.n, .int .i64 v.c, .string v.z, .string v.k, .bool v.x, .string v.m, .bool v.y, .slice va vl vc] 92) _ (lt_of_some Bk.out)).trans Bk.out
      have GV : Hid ((wr.alloc (.cells #[.string v.n, .int .i64 v.c, .string v.z, .string v.k, .bool v.x, .string v.m, .bool v.y, .slice va vl vc] 92)).heap[wr.heap.size]? = some (.cells #[.string v.n, .int .i64 v.c, .string v.z, .string v.k, .bool v.x, .string v.m, .bool v.y, .slice va vl vc] 92 (0, 0))) := Array.getElem?_push_size
      have BV := hidK (HB.out.trans ((below1 wr (.cells #[.string v.n, .int .i64 v.c, .string v.z, .string v.k, .bool v.x, .string v.m, .bool v.y, .slice va vl vc] 92)).mono HB.out.size))
      have TT := hidK (HTv.out.below (below1 wr (.cells #[.string v.n, .int .i64 v.c, .string v.z, .string v.k, .bool v.x, .string v.m, .bool v.y, .slice va vl vc] 92)))
      obtain ⟨W, hW⟩ : ∃ W, W = wr.alloc (.cells #[.string v.n, .int .i64 v.c, .string v.z, .string v.k, .bool v.x, .string v.m, .bool v.y, .slice va vl vc] 92) := ⟨_, rfl⟩
      obtain ⟨gb, hgb⟩ : ∃ gb, gb = wr.heap.size := ⟨_, rfl⟩
      rw [← hW] at KV GV BV TT
      rw [← hgb] at GV
      go_wp2
      rw [← hW, ← hgb]
      clear hW hgb HB Bk HTv c0 c1 c2 c3 c4 c5 c6 c7 hb pk pkl
      go_loopw [5] (fun i wr => ∃ kq : Nat, kq ≤ vl ∧ i = .int .i64 kq ∧ Hid (∀ (j : Nat) t, j < kq → v.zs[j]? = some t → ∃ (i : Nat) (n : Nd), c.ns[i]? = some n ∧ n.n = t ∧ n.z = v.z) ∧ Hid (Below W.heap.size W wr)) (fun i _ => vl - (intOf i).toNat)
      case atStart => exact ⟨0, by omega, rfl, fun _ _ h => absurd h (by omega), Below.refl _ _⟩
      case round =>
        obtain ⟨kq, hkq, rfl, HQ2, HBW⟩ := hrel
        have HB := hidK (BV.out.trans (HBW.out.mono BV.out.size))
        have Bk := upK KV HBW.out
        have Bv := upK GV HBW.out
        have pv : wr.cell? ⟨gb, 7, none⟩ = some (.slice va vl vc) := cellK Bv.out 7
        by_cases hlt2 : kq < vl
        · obtain ⟨b2, o2, t, rfl, hb, hx, hc, hsz⟩ := (TT.out.below HBW.out).at hlt2
          have HXt := hidK hx
          clear hx hsz
          by_cases hnn : ∃ (i : Nat) (n : Nd), c.ns[i]? = some n ∧ n.n = t
          rotate_left
          · have HH := hidK hnn
            clear hnn
            have Gk : Hid (wr.heap[w.heap.size]? = some (.cells #[.slice a1 l1 y1, .slice a2 l2 y2, .slice (some ⟨b, o, none⟩) l3 y3, .slice a4 l4 y4, .slice a5 l5 y5, .int .i64 c.now] 38 (0, 0))) := Bk.out
            have Gv : Hid (wr.heap[gb]? = some (.cells #[.string v.n, .int .i64 v.c, .string v.z, .string v.k, .bool v.x, .string v.m, .bool v.y, .slice (some ⟨b2, o2, none⟩) vl vc] 92 (0, 0))) := Bv.out
            have HW : Hid (Below w.heap.size w wr) := HB.out
            have k0 := fun q : Wd wr => q.slot (o := 0) Gk.out rfl
            have k1 := fun q : Wd wr => q.slot (o := 1) Gk.out rfl
            have k2 := fun q : Wd wr => q.slot (o := 2) Gk.out rfl
            have k3 := fun q : Wd wr => q.slot (o := 3) Gk.out rfl
            have k4 := fun q : Wd wr => q.slot (o := 4) Gk.out rfl
            have k5 := fun q : Wd wr => q.slot (o := 5) Gk.out rfl
            have v7 := fun q : Wd wr => q.slot (o := 7) Gv.out rfl
            have tw : ∀ q : Wd wr, q.w.cell? ⟨b2, o2 + kq, none⟩ = some (.string t) := fun q => (q.cell (hb)).trans (hc)
            have hne0 := Wd.ne wr
            have HC0 := hidK (fun q : Wd wr => sxnd_miss ⟨a1, l1, y1, a2, l2, y2, (some ⟨b, o, none⟩), l3, y3, a4, l4, y4, a5, l5, y5⟩ c.now c.ns t q.w (HR.out.n.below (HW.out.trans (q.b.mono HW.out.size))) (fun i n h1 h2 => HH.out ⟨i, n, h1, h2⟩))
            go_wp2_with fail
            refine wp_region_wide (by kernel_rfl) (by kernel_rfl) ?_
            repeat (go_big_quiet_step (first | (go_at_call 19; exact Calls.wide (HC0.out _)) | fail))
            refine wpQuiet_nil ?_
            rintro _ ⟨q1, rfl⟩
            have HB1 := upB HW q1.b
            have Ck := upK Gk q1.b
            have Cv := upK Gv q1.b
            clear hne0 HW HB HC0 k0 k1 k2 k3 k4 k5 v7 tw Gk Gv Bk Bv pv
            have HB := HB1
            clear HB1
            have Bk := Ck
            clear Ck
            have Bv := Cv
            clear Cv
            have Gk : Hid (q1.w.heap[w.heap.size]? = some (.cells #[.slice a1 l1 y1, .slice a2 l2 y2, .slice (some ⟨b, o, none⟩) l3 y3, .slice a4 l4 y4, .slice a5 l5 y5, .int .i64 c.now] 38 (0, 0))) := Bk.out
            have Gv : Hid (q1.w.heap[gb]? = some (.cells #[.string v.n, .int .i64 v.c, .string v.z, .string v.k, .bool v.x, .string v.m, .bool v.y, .slice (some ⟨b2, o2, none⟩) vl vc] 92 (0, 0))) := Bv.out
            have HW : Hid (Below w.heap.size w q1.w) := HB.out
            have k0 := fun q : Wd q1.w => q.slot (o := 0) Gk.out rfl
            have v0 := fun q : Wd q1.w => q.slot (o := 0) Gv.out rfl
            have v1 := fun q : Wd q1.w => q.slot (o := 1) Gv.out rfl
            have v2 := fun q : Wd q1.w => q.slot (o := 2) Gv.out rfl
            have v3 := fun q : Wd q1.w => q.slot (o := 3) Gv.out rfl
            have v4 := fun q : Wd q1.w => q.slot (o := 4) Gv.out rfl
            have v5 := fun q : Wd q1.w => q.slot (o := 5) Gv.out rfl
            have v6 := fun q : Wd q1.w => q.slot (o := 6) Gv.out rfl
            have v7 := fun q : Wd q1.w => q.slot (o := 7) Gv.out rfl
            have hne0 := Wd.ne q1.w
            go_wp2_with fail
            refine wp_region_wide (by kernel_rfl) (by kernel_rfl) ?_
            repeat (go_big_quiet_step (first | fail))
            refine wpQuiet_nil ?_
            rintro _ ⟨q2, rfl⟩
            have HB2 := upB HW q2.b
            have Ck := upK Gk q2.b
            have Cv := upK Gv q2.b
            clear hne0 HW HB k0 v0 v1 v2 v3 v4 v5 v6 v7 Gk Gv Bk Bv
            have HB := HB2
            clear HB2
            have Bk := Ck
            clear Ck
            have Bv := Cv
            clear Cv
            go_wp2
            go_ret
            refine BoolB.f (fun h => ?_) HB.out
            obtain ⟨i, n, h2, h3, _⟩ := (h.1 k v HXv.out) kq t HXt.out
            exact HH.out ⟨i, n, h2, h3⟩
          obtain ⟨j1, n, h1, h2⟩ := hnn
          have hl1' : j1 < l1 := by have h3 := (List.getElem?_eq_some_iff.1 h1).1; omega
          obtain ⟨b1, o1, n', rfl, hb1n, hn', hat⟩ := nd_at HR.out.n hl1'
          rw [h1] at hn'
          obtain rfl := Option.some.inj hn'
          obtain ⟨na, nl, nc, hnr, z0, z1, d0, d1, d2, d3, d4, d5, d6⟩ := nd_cells hat
          have HJn := hidK h1
          have HNn := hidK h2
          have HCn := hidK d1
          have HBn := hidK hb1n
          have hj11 : decide ((j1 : Int) < 0) = false := by simp
          clear hn' hat hnr z0 z1 d0 d1 d2 d3 d4 d5 d6 h1 h2 hb1n
          have Gk : Hid (wr.heap[w.heap.size]? = some (.cells #[.slice (some ⟨b1, o1, none⟩) l1 y1, .slice a2 l2 y2, .slice (some ⟨b, o, none⟩) l3 y3, .slice a4 l4 y4, .slice a5 l5 y5, .int .i64 c.now] 38 (0, 0))) := Bk.out
          have Gv : Hid (wr.heap[gb]? = some (.cells #[.string v.n, .int .i64 v.c, .string v.z, .string v.k, .bool v.x, .string v.m, .bool v.y, .slice (some ⟨b2, o2, none⟩) vl vc] 92 (0, 0))) := Bv.out
          have HW : Hid (Below w.heap.size w wr) := HB.out
          have k0 := fun q : Wd wr => q.slot (o := 0) Gk.out rfl
          have k1 := fun q : Wd wr => q.slot (o := 1) Gk.out rfl
          have k2 := fun q : Wd wr => q.slot (o := 2) Gk.out rfl
          have k3 := fun q : Wd wr => q.slot (o := 3) Gk.out rfl
          have k4 := fun q : Wd wr => q.slot (o := 4) Gk.out rfl
          have k5 := fun q : Wd wr => q.slot (o := 5) Gk.out rfl
          have v7 := fun q : Wd wr => q.slot (o := 7) Gv.out rfl
          have tw : ∀ q : Wd wr, q.w.cell? ⟨b2, o2 + kq, none⟩ = some (.string t) := fun q => (q.cell (hb)).trans (hc)
          have hne0 := Wd.ne wr
          have HC0 := hidK (fun q : Wd wr => sxnd_hit ⟨(some ⟨b1, o1, none⟩), l1, y1, a2, l2, y2, (some ⟨b, o, none⟩), l3, y3, a4, l4, y4, a5, l5, y5⟩ c.now c.ns t q.w (HR.out.n.below (HW.out.trans (q.b.mono HW.out.size))) HNR.out HJn.out HNn.out)
          go_wp2_with fail
          refine wp_region_wide (by kernel_rfl) (by kernel_rfl) ?_
          repeat (go_big_quiet_step (first | (go_at_call 19; exact Calls.wide (HC0.out _)) | fail))
          refine wpQuiet_nil ?_
          rintro _ ⟨q1, rfl⟩
          have HB1 := upB HW q1.b
          have Ck := upK Gk q1.b
          have Cv := upK Gv q1.b
          clear hne0 HW HB HC0 k0 k1 k2 k3 k4 k5 v7 tw Gk Gv Bk Bv pv hb hc
          have HB := HB1
          clear HB1
          have Bk := Ck
          clear Ck
          have Bv := Cv
          clear Cv
          have HBW1 := upB HBW q1.b
          have hbn : b1 < q1.w.heap.size := Nat.lt_of_lt_of_le HBn.out HB.out.size
          have n1 := (cell_below HB.out HBn.out).trans HCn.out
          clear HBW
          by_cases hz : n.z = v.z
          · have q8 := tl_yes hz
            have HZ := hidK hz
            clear hz
            have Gk : Hid (q1.w.heap[w.heap.size]? = some (.cells #[.slice (some ⟨b1, o1, none⟩) l1 y1, .slice a2 l2 y2, .slice (some ⟨b, o, none⟩) l3 y3, .slice a4 l4 y4, .slice a5 l5 y5, .int .i64 c.now] 38 (0, 0))) := Bk.out
            have Gv : Hid (q1.w.heap[gb]? = some (.cells #[.string v.n, .int .i64 v.c, .string v.z, .string v.k, .bool v.x, .string v.m, .bool v.y, .slice (some ⟨b2, o2, none⟩) vl vc] 92 (0, 0))) := Bv.out
            have HW : Hid (Below w.heap.size w q1.w) := HB.out
            have k0 := fun q : Wd q1.w => q.slot (o := 0) Gk.out rfl
            have v0 := fun q : Wd q1.w => q.slot (o := 0) Gv.out rfl
            have v1 := fun q : Wd q1.w => q.slot (o := 1) Gv.out rfl
            have v2 := fun q : Wd q1.w => q.slot (o := 2) Gv.out rfl
            have v3 := fun q : Wd q1.w => q.slot (o := 3) Gv.out rfl
            have v4 := fun q : Wd q1.w => q.slot (o := 4) Gv.out rfl
            have v5 := fun q : Wd q1.w => q.slot (o := 5) Gv.out rfl
            have v6 := fun q : Wd q1.w => q.slot (o := 6) Gv.out rfl
            have v7 := fun q : Wd q1.w => q.slot (o := 7) Gv.out rfl
            have nw : ∀ q : Wd q1.w, q.w.cell? ⟨b1, o1 + j1 * 7 + 1, none⟩ = some (.string n.z) := fun q => (q.cell (hbn)).trans (n1)
            have hne0 := Wd.ne q1.w
            go_wp2_with fail
            refine wp_region_wide (by kernel_rfl) (by kernel_rfl) ?_
            repeat (go_big_quiet_step (first | fail))
            refine wpQuiet_nil ?_
            rintro _ ⟨q2, rfl⟩
            have HB2 := upB HW q2.b
            have Ck := upK Gk q2.b
            have Cv := upK Gv q2.b
            clear hne0 HW HB k0 v0 v1 v2 v3 v4 v5 v6 v7 nw Gk Gv Bk Bv hbn n1
            have HB := HB2
            clear HB2
            have Bk := Ck
            clear Ck
            have Bv := Cv
            clear Cv
            clear q8
            go_wp2_with fail
            refine ⟨⟨kq + 1, by omega, by go_num, fun j s hj hs => ?_, HBW1.out.trans (q2.b.mono HBW1.out.size)⟩, by simp [intOf]; omega⟩
            by_cases e : j = kq
            · subst e
              rw [HXt.out] at hs
              obtain rfl := Option.some.inj hs
              exact ⟨j1, n, HJn.out, HNn.out, HZ.out⟩
            · exact HQ2.out j s (by omega) hs
          · have q8 := tl_no hz
            have HZ := hidK hz
            clear hz
            have Gk : Hid (q1.w.heap[w.heap.size]? = some (.cells #[.slice (some ⟨b1, o1, none⟩) l1 y1, .slice a2 l2 y2, .slice (some ⟨b, o, none⟩) l3 y3, .slice a4 l4 y4, .slice a5 l5 y5, .int .i64 c.now] 38 (0, 0))) := Bk.out
            have Gv : Hid (q1.w.heap[gb]? = some (.cells #[.string v.n, .int .i64 v.c, .string v.z, .string v.k, .bool v.x, .string v.m, .bool v.y, .slice (some ⟨b2, o2, none⟩) vl vc] 92 (0, 0))) := Bv.out
            have HW : Hid (Below w.heap.size w q1.w) := HB.out
            have k0 := fun q : Wd q1.w => q.slot (o := 0) Gk.out rfl
            have v0 := fun q : Wd q1.w => q.slot (o := 0) Gv.out rfl
            have v1 := fun q : Wd q1.w => q.slot (o := 1) Gv.out rfl
            have v2 := fun q : Wd q1.w => q.slot (o := 2) Gv.out rfl
            have v3 := fun q : Wd q1.w => q.slot (o := 3) Gv.out rfl
            have v4 := fun q : Wd q1.w => q.slot (o := 4) Gv.out rfl
            have v5 := fun q : Wd q1.w => q.slot (o := 5) Gv.out rfl
            have v6 := fun q : Wd q1.w => q.slot (o := 6) Gv.out rfl
            have v7 := fun q : Wd q1.w => q.slot (o := 7) Gv.out rfl
            have nw : ∀ q : Wd q1.w, q.w.cell? ⟨b1, o1 + j1 * 7 + 1, none⟩ = some (.string n.z) := fun q => (q.cell (hbn)).trans (n1)
            have hne0 := Wd.ne q1.w
            go_wp2_with fail
            refine wp_region_wide (by kernel_rfl) (by kernel_rfl) ?_
            repeat (go_big_quiet_step (first | fail))
            refine wpQuiet_nil ?_
            rintro _ ⟨q2, rfl⟩
            have HB2 := upB HW q2.b
            have Ck := upK Gk q2.b
            have Cv := upK Gv q2.b
            clear hne0 HW HB k0 v0 v1 v2 v3 v4 v5 v6 v7 nw Gk Gv Bk Bv hbn n1
            have HB := HB2
            clear HB2
            have Bk := Ck
            clear Ck
            have Bv := Cv
            clear Cv
            go_wp2
            go_ret
            refine BoolB.f (fun h => ?_) HB.out
            obtain ⟨i, m2, e1, e2, e3⟩ := (h.1 k v HXv.out) kq t HXt.out
            obtain ⟨_, rfl⟩ := HNR.out.inj e1 HJn.out (e2.trans HNn.out.symm)
            exact HZ.out e3
        · obtain rfl : vl = kq := by omega
          go_wp2_with fail
          refine ⟨⟨k + 1, by omega, by go_num, fun j z hj hz => ?_, HB.out, Bk.out⟩, by simp [intOf]; omega⟩
          by_cases e : j = k
          · subst e
            rw [HXv.out] at hz
            obtain rfl := Option.some.inj hz
            exact fun j s hs => HQ2.out j s (by have h1 := (List.getElem?_eq_some_iff.1 hs).1; have h2 := HVL.out; omega) hs
          · exact HQ.out j z (by omega) hz
    · obtain rfl : l3 = k := by omega
      have HQ1 : Hid (∀ (j : Nat) z, c.vs[j]? = some z → AQ1 c z) := fun j z hz => HQ.out j z (by have := (List.getElem?_eq_some_iff.1 hz).1; omega) hz
      clear HQ
      have kc : wr.cell? ⟨w.heap.size, 0, none⟩ = some (.slice a1 l1 y1) := cellK Bk.out 0
      go_wp2
      clear pk kc
      go_loopw [7] (fun i wr => ∃ k : Nat, k ≤ l1 ∧ i = .int .i64 k ∧ Hid (∀ (j : Nat) n, j < k → c.ns[j]? = some n → onOf n.n c.vs ≤ n.s) ∧ Hid (Below w.heap.size w wr) ∧ Hid (wr.heap[w.heap.size]? = some (.cells #[.slice a1 l1 y1, .slice a2 l2 y2, .slice a3 l3 y3, .slice a4 l4 y4, .slice a5 l5 y5, .int .i64 c.now] 38 (0, 0)))) (fun i _ => l1 - (intOf i).toNat)
      case atStart => exact ⟨0, by omega, rfl, fun _ _ h => absurd h (by omega), HB.out, Bk.out⟩
      case round =>
        obtain ⟨k, hk, rfl, HQ, HB, Bk⟩ := hrel
        have pk : wr.cell? ⟨w.heap.size, 0, none⟩ = some (.slice a1 l1 y1) := cellK Bk.out 0
        by_cases hlt : k < l1
        · obtain ⟨b, o, n, rfl, hb, hx, hat⟩ := nd_at (HR.out.n.below HB.out) hlt
          obtain ⟨va, vl, vc, hvr, z0, z1, c0, c1, c2, c3, c4, c5, c6⟩ := nd_cells hat
          have HXn := hidK hx
          have HTn := hidK hvr
          have HZn0 := hidK z0
          have HZn1 := hidK z1
          clear hat hx z0 z1 hvr
          have Gk : Hid (wr.heap[w.heap.size]? = some (.cells #[.slice (some ⟨b, o, none⟩) l1 y1, .slice a2 l2 y2, .slice a3 l3 y3, .slice a4 l4 y4, .slice a5 l5 y5, .int .i64 c.now] 38 (0, 0))) := Bk.out
          have HW : Hid (Below w.heap.size w wr) := HB.out
          have k0 := fun q : Wd wr => q.slot (o := 0) Gk.out rfl
          have k1 := fun q : Wd wr => q.slot (o := 1) Gk.out rfl
          have k2 := fun q : Wd wr => q.slot (o := 2) Gk.out rfl
          have k3 := fun q : Wd wr => q.slot (o := 3) Gk.out rfl
          have k4 := fun q : Wd wr => q.slot (o := 4) Gk.out rfl
          have k5 := fun q : Wd wr => q.slot (o := 5) Gk.out rfl
          have n0w : ∀ q : Wd wr, q.w.cell? ⟨b, o + k * 7, none⟩ = some (.string n.n) := fun q => (q.cell (hb)).trans (c0)
          have n2w : ∀ q : Wd wr, q.w.cell? ⟨b, o + k * 7 + 3, none⟩ = some (.int .i64 n.s) := fun q => (q.cell (hb)).trans (c3)
          have hne0 := Wd.ne wr
          have HC0 := hidK (fun q : Wd wr => son_any ⟨(some ⟨b, o, none⟩), l1, y1, a2, l2, y2, a3, l3, y3, a4, l4, y4, a5, l5, y5⟩ c.now c.vs n.n q.w (HR.out.v.below (HW.out.trans (q.b.mono HW.out.size))) HL3.out)
          go_wp2_with fail
          refine wp_region_wide (by kernel_rfl) (by kernel_rfl) ?_
          repeat (go_big_quiet_step (first | (go_at_call 81; exact Calls.wide (HC0.out _)) | fail))
          refine wpQuiet_nil ?_
          rintro _ ⟨q1, rfl⟩
          have HB1 := upB HW q1.b
          have Ck := upK Gk q1.b
          clear hne0 HW HB HC0 k0 k1 k2 k3 k4 k5 n0w n2w Gk Bk pk c0 c1 c2 c3 c4 c5 c6 hb
          have HB := HB1
          clear HB1
          have Bk := Ck
          clear Ck
          by_cases hq : onOf n.n c.vs ≤ n.s
          · have HCq := hidK hq
            go_wp2_with fail
            refine ⟨⟨k + 1, by omega, by go_num, fun j z hj hz => ?_, HB.out, Bk.out⟩, by simp [intOf]; omega⟩
            by_cases e : j = k
            · subst e
              rw [HXn.out] at hz
              obtain rfl := Option.some.inj hz
              exact HCq.out
            · exact HQ.out j z (by omega) hz
          · have HCq := hidK hq
            go_wp2
            go_ret
            exact BoolB.f (fun h => by have h1 : onOf n.n c.vs ≤ n.s := h.2 k n HXn.out; have h2 := HCq.out; omega) HB.out
        · obtain rfl : l1 = k := by omega
          go_wp2
          go_ret
          exact BoolB.t ⟨HQ1.out, fun j n hz => HQ.out j n (by have := (List.getElem?_eq_some_iff.1 hz).1; omega) hz⟩ HB.out

def FreshN (W : World) : Fact := fun v w => ∃ g, v = .pointer (some ⟨g, 0, none⟩) ∧ W.heap.size ≤ g ∧ w.heap[g]? = some (.cells #[.string ⟨#[]⟩, .string ⟨#[]⟩, .int .i64 0, .int .i64 0, .int .i64 0, .bool false, .slice none 0 0] 58 (0, 0))
theorem FreshN.mono (W : World) : Fact.Mono (FreshN W) := by
  rintro v w w' ⟨g, h1, h2, h3⟩ hb
  exact ⟨g, h1, h2, (hb.block g (lt_of_some h3)).trans h3⟩
theorem put7N {w : World} {g : Nat} {v0 v1 v2 v3 v4 v5 v6 : Value} (h : w.heap[g]? = some (.cells #[.string ⟨#[]⟩, .string ⟨#[]⟩, .int .i64 0, .int .i64 0, .int .i64 0, .bool false, .slice none 0 0] 58 (0, 0))) :
    (((((((w.setCell ⟨g, 0, none⟩ (v0)).setCell ⟨g, 1, none⟩ (v1)).setCell ⟨g, 2, none⟩ (v2)).setCell ⟨g, 3, none⟩ (v3)).setCell ⟨g, 4, none⟩ (v4)).setCell ⟨g, 5, none⟩ (v5)).setCell ⟨g, 6, none⟩ (v6)).heap[g]? = some (.cells #[v0, v1, v2, v3, v4, v5, v6] 58 (0, 0)) := by
  have := block_set (i := 6) (block_set (i := 5) (block_set (i := 4) (block_set (i := 3) (block_set (i := 2) (block_set (i := 1) (block_set (i := 0) h v0) v1) v2) v3) v4) v5) v6
  simpa using this
theorem set_below7 {W w : World} {g : Nat} {v0 v1 v2 v3 v4 v5 v6 : Value} (hg : W.heap.size ≤ g) (h : Below W.heap.size W w) : Below W.heap.size W (((((((w.setCell ⟨g, 0, none⟩ (v0)).setCell ⟨g, 1, none⟩ (v1)).setCell ⟨g, 2, none⟩ (v2)).setCell ⟨g, 3, none⟩ (v3)).setCell ⟨g, 4, none⟩ (v4)).setCell ⟨g, 5, none⟩ (v5)).setCell ⟨g, 6, none⟩ (v6)) :=
  set_below hg (set_below hg (set_below hg (set_below hg (set_below hg (set_below hg (set_below hg h))))))
def AllS (c : Cl) (p : Pd) (n : Nd) : Prop := ∀ (j : Nat) t, p.zs[j]? = some t → ∃ v, IsBd c t v ∧ InL n.zs v.n

set_option maxRecDepth 100000 in
set_option maxHeartbeats 12800000 in
theorem sall_any (d : Ad) (c : Cl) (p : Pd) (pa : Option Addr) (pl pc : Nat) (j1 : Nat) (n : Nd) (w : World) (hr : ClRow w d c.raw) (hn : RisBy Nd.n c.ns) (hx : RisBy Xd.n c.xs) (hv : RisBy Vd.n c.vs) (hne : ∀ (j : Nat) v, c.vs[j]? = some v → ¬ v.n = ⟨#[]⟩) (hp : TxRow w pa pl pc p.zs) (hj1 : c.ns[j1]? = some n) (hnn : n.n = p.d) (hbd : ∀ (j : Nat) t, p.zs[j]? = some t → ∃ v, IsBd c t v) :
    Calls Tryz.prog 82 #[.agg #[.slice d.a1 d.l1 d.c1, .slice d.a2 d.l2 d.c2, .slice d.a3 d.l3 d.c3, .slice d.a4 d.l4 d.c4, .slice d.a5 d.l5 d.c5, .int .i64 c.now], .agg #[.string p.n, .int .i64 p.c, .string p.z, .slice pa pl pc, .string p.d, .int .i64 p.p]] w (BoolB (AllS c p n) w) := by
  obtain ⟨a1, l1, y1, a2, l2, y2, a3, l3, y3, a4, l4, y4, a5, l5, y5⟩ := d
  dsimp only
  have HR := hidK hr
  have hl1 : c.ns.length = l1 := by simpa using (show (c.ns.map ndF).length = l1 from hr.n.1)
  have hm1 : l1 ≤ 9223372036854775807 := Nat.le_trans hr.n.2.1 hr.n.2.2.1
  have hl2 : c.ks.length = l2 := by simpa using (show (c.ks.map kdF).length = l2 from hr.k.1)
  have hm2 : l2 ≤ 9223372036854775807 := Nat.le_trans hr.k.2.1 hr.k.2.2.1
  have hl3 : c.vs.length = l3 := by simpa using (show (c.vs.map vdF).length = l3 from hr.v.1)
  have hm3 : l3 ≤ 9223372036854775807 := Nat.le_trans hr.v.2.1 hr.v.2.2.1
  have hl4 : c.xs.length = l4 := by simpa using (show (c.xs.map xdF).length = l4 from hr.x.1)
  have hm4 : l4 ≤ 9223372036854775807 := Nat.le_trans hr.x.2.1 hr.x.2.2.1
  have hl5 : c.ps.length = l5 := by simpa using (show (c.ps.map pdF).length = l5 from hr.p.1)
  have hm5 : l5 ≤ 9223372036854775807 := Nat.le_trans hr.p.2.1 hr.p.2.2.1
  clear hr
  have HNR := hidK hn
  have HX := hidK hx
  have HV := hidK hv
  have HNE := hidK hne
  have HP := hidK hp
  have HBD := hidK hbd
  have hlc : pl ≤ 9223372036854775807 := Nat.le_trans hp.2.1 hp.2.2.1
  have hzl : p.zs.length = pl := hp.1
  have hl1' : j1 < l1 := by have h3 := (List.getElem?_eq_some_iff.1 hj1).1; omega
  obtain ⟨b1, o1, n', rfl, hb1n, hn', hat⟩ := nd_at HR.out.n hl1'
  rw [hj1] at hn'
  obtain rfl := Option.some.inj hn'
  obtain ⟨na, nl, nc, hnr, z0, z1, d0, d1, d2, d3, d4, d5, d6⟩ := nd_cells hat
  have HJn := hidK hj1
  have HNn := hidK hnn
  have HTn := hidK hnr
  have HBn := hidK hb1n
  have HD : Hid (w.cell? ⟨b1, o1 + j1 * 7, none⟩ = some (.string n.n) ∧ w.cell? ⟨b1, o1 + j1 * 7 + 1, none⟩ = some (.string n.z) ∧ w.cell? ⟨b1, o1 + j1 * 7 + 2, none⟩ = some (.int .i64 n.c) ∧ w.cell? ⟨b1, o1 + j1 * 7 + 3, none⟩ = some (.int .i64 n.s) ∧ w.cell? ⟨b1, o1 + j1 * 7 + 4, none⟩ = some (.int .i64 n.u) ∧ w.cell? ⟨b1, o1 + j1 * 7 + 5, none⟩ = some (.bool n.d) ∧ w.cell? ⟨b1, o1 + j1 * 7 + 6, none⟩ = some (.slice na nl nc)) := ⟨d0, d1, d2, d3, d4, d5, d6⟩
  clear hn' hat hnr z0 z1 d0 d1 d2 d3 d4 d5 d6 hj1 hnn hb1n hn hx hv hne hp hbd
  obtain ⟨W, hW0⟩ : ∃ W, W = (w.alloc (.cells #[.slice (some ⟨b1, o1, none⟩) l1 y1, .slice a2 l2 y2, .slice a3 l3 y3, .slice a4 l4 y4, .slice a5 l5 y5, .int .i64 c.now] 38)).alloc (.cells #[.string p.n, .int .i64 p.c, .string p.z, .slice pa pl pc, .string p.d, .int .i64 p.p] 89) := ⟨_, rfl⟩
  have GK : Hid (W.heap[w.heap.size]? = some (.cells #[.slice (some ⟨b1, o1, none⟩) l1 y1, .slice a2 l2 y2, .slice a3 l3 y3, .slice a4 l4 y4, .slice a5 l5 y5, .int .i64 c.now] 38 (0, 0))) := by rw [hW0]; exact heap2_0 _ _ _
  have GP : Hid (W.heap[w.heap.size + 1]? = some (.cells #[.string p.n, .int .i64 p.c, .string p.z, .slice pa pl pc, .string p.d, .int .i64 p.p] 89 (0, 0))) := by rw [hW0]; exact heap2_1 _ _ _
  have BW : Hid (Below w.heap.size w W) := by rw [hW0]; exact below2 _ _ _
  go_enter Tryz.func82, Tryz.ntmps82
  go_wp2_with fail
  rw [← hW0]
  clear hW0
  rename_i K0 hK0
  refine wp_region_grow_last (by kernel_rfl) rfl rfl (by kernel_rfl) ?_
  refine' Grow.stepC _ rfl ?_ ?_
  rotate_left 1
  · refine Obl.plain rfl ?_
    intro ac wg K hsz hW hf hK; clear hsz
    have e2 := hf 2 (by decide)
    simp [slotFact, List.lookup] at e2
    clear hf
    go_simp
    refine hK _ _ (Below.refl _ _) ?_
    with_reducible rfl
  refine' Grow.stepC _ rfl ?_ ?_
  rotate_left 1
  · refine Obl.plain rfl ?_
    intro ac wg K hsz hW hf hK; clear hsz
    have e7 := hf 7 (by decide)
    simp [slotFact, List.lookup] at e7
    clear hf
    obtain ⟨k0, k1, k2, k3, k4, k5⟩ := cs6 ((hW.block _ (lt_of_some GK.out)).trans GK.out)
    go_simp
    refine hK _ _ (Below.refl _ _) ?_
    with_reducible rfl
  refine' Grow.stepC _ rfl ?_ ?_
  rotate_left 1
  · refine Obl.plain rfl ?_
    intro ac wg K hsz hW hf hK; clear hsz
    have e2 := hf 2 (by decide)
    simp [slotFact, List.lookup] at e2
    clear hf
    obtain ⟨k0, k1, k2, k3, k4, k5⟩ := cs6 ((hW.block _ (lt_of_some GK.out)).trans GK.out)
    go_simp
    refine hK _ _ (Below.refl _ _) ?_
    with_reducible rfl
  refine' Grow.stepC _ rfl ?_ ?_
  rotate_left 1
  · refine Obl.plain rfl ?_
    intro ac wg K hsz hW hf hK; clear hsz
    have e3 := hf 3 (by decide)
    simp [slotFact, List.lookup] at e3
    clear hf
    go_simp
    refine hK _ _ (Below.refl _ _) ?_
    with_reducible rfl
  refine' Grow.stepC _ rfl ?_ ?_
  rotate_left 1
  · refine Obl.plain rfl ?_
    intro ac wg K hsz hW hf hK; clear hsz
    have e10 := hf 10 (by decide)
    simp [slotFact, List.lookup] at e10
    clear hf
    obtain ⟨r0, r1, r2, r3, r4, r5⟩ := cs6 ((hW.block _ (lt_of_some GP.out)).trans GP.out)
    go_simp
    refine hK _ _ (Below.refl _ _) ?_
    with_reducible rfl
  refine' Grow.stepC (.int .i64 j1) rfl ?_ ?_
  · refine Obl.plain rfl ?_
    intro ac wg K hsz hW hf hK; clear hsz
    have e9 := hf 9 (by decide)
    simp [slotFact, List.lookup] at e9
    have e11 := hf 11 (by decide)
    simp [slotFact, List.lookup] at e11
    clear hf
    go_simp
    refine (sxnd_hit ⟨(some ⟨b1, o1, none⟩), l1, y1, a2, l2, y2, a3, l3, y3, a4, l4, y4, a5, l5, y5⟩ c.now c.ns p.d _ (HR.out.n.below (BW.out.trans (hW.mono BW.out.size))) HNR.out HJn.out HNn.out).mono ?_
    rintro e w5 ⟨rfl, hb5⟩
    exact hK _ _ hb5 rfl
  refine' Grow.stepC _ rfl ?_ ?_
  rotate_left 1
  · refine Obl.plain rfl ?_
    intro ac wg K hsz hW hf hK; clear hsz
    have e8 := hf 8 (by decide)
    simp [slotFact, List.lookup] at e8
    have e12 := hf 12 (by decide)
    simp [slotFact, List.lookup] at e12
    clear hf
    go_simp
    refine hK _ _ (Below.refl _ _) ?_
    with_reducible rfl
  refine' Grow.stepC _ rfl ?_ ?_
  rotate_left 1
  · refine Obl.plain rfl ?_
    intro ac wg K hsz hW hf hK; clear hsz
    have e13 := hf 13 (by decide)
    simp [slotFact, List.lookup] at e13
    clear hf
    have hBg := BW.out.trans (hW.mono BW.out.size)
    obtain ⟨d0, d1, d2, d3, d4, d5, d6⟩ := HD.out
    have g0 := (cell_below hBg HBn.out).trans d0
    have g1 := (cell_below hBg HBn.out).trans d1
    have g2 := (cell_below hBg HBn.out).trans d2
    have g3 := (cell_below hBg HBn.out).trans d3
    have g4 := (cell_below hBg HBn.out).trans d4
    have g5 := (cell_below hBg HBn.out).trans d5
    have g6 := (cell_below hBg HBn.out).trans d6
    clear d0 d1 d2 d3 d4 d5 d6 hBg
    go_simp
    refine hK _ _ (Below.refl _ _) ?_
    with_reducible rfl
  refine Grow.step (FreshN W) rfl (FreshN.mono W) ?_ ?_
  · refine Obl.plain rfl ?_
    intro ac wg K hsz hW hf hK; clear hsz
    clear hf
    go_simp
    exact hK _ _ (below1 _ _) ⟨_, rfl, hW.size, Array.getElem?_push_size⟩
  refine Grow.done ?_
  intro q wz hW hf
  simp only [List.forall_mem_cons] at hf
  obtain ⟨⟨g5, h5, hbW, hgb⟩, h14, -⟩ := hf
  have r0 : wz.cell? ⟨g5, 0, none⟩ = some (.string ⟨#[]⟩) := cellK hgb 0
  have r1 : wz.cell? ⟨g5, 1, none⟩ = some (.string ⟨#[]⟩) := cellK hgb 1
  have r2 : wz.cell? ⟨g5, 2, none⟩ = some (.int .i64 0) := cellK hgb 2
  have r3 : wz.cell? ⟨g5, 3, none⟩ = some (.int .i64 0) := cellK hgb 3
  have r4 : wz.cell? ⟨g5, 4, none⟩ = some (.int .i64 0) := cellK hgb 4
  have r5 : wz.cell? ⟨g5, 5, none⟩ = some (.bool false) := cellK hgb 5
  have r6 : wz.cell? ⟨g5, 6, none⟩ = some (.slice none 0 0) := cellK hgb 6
  have f0 : wz.frozen? ⟨g5, 0, none⟩ = false := froK hgb 0
  have f1 : wz.frozen? ⟨g5, 1, none⟩ = false := froK hgb 1
  have f2 : wz.frozen? ⟨g5, 2, none⟩ = false := froK hgb 2
  have f3 : wz.frozen? ⟨g5, 3, none⟩ = false := froK hgb 3
  have f4 : wz.frozen? ⟨g5, 4, none⟩ = false := froK hgb 4
  have f5 : wz.frozen? ⟨g5, 5, none⟩ = false := froK hgb 5
  have f6 : wz.frozen? ⟨g5, 6, none⟩ = false := froK hgb 6
  have GN := hidK (put7N (v0 := .string n.n) (v1 := .string n.z) (v2 := .int .i64 n.c) (v3 := .int .i64 n.s) (v4 := .int .i64 n.u) (v5 := .bool n.d) (v6 := .slice na nl nc) hgb)
  have BN := hidK (set_below7 (v0 := .string n.n) (v1 := .string n.z) (v2 := .int .i64 n.c) (v3 := .int .i64 n.s) (v4 := .int .i64 n.u) (v5 := .bool n.d) (v6 := .slice na nl nc) hbW hW)
  clear hgb hW
  intro K hK
  rw [if_pos (by rfl)]
  simp only [putsAll, List.foldr, Act.put, List.setIfInBounds_toArray, List.set_cons_zero, List.set_cons_succ, h5, h14]
  simp only [List.getLast]
  go_simp
  refine hK _ _ ?_
  refine hK0 _ _ ?_
  clear hK hK0 K K0
  generalize (((((((wz.setCell ⟨g5, 0, none⟩ (.string n.n)).setCell ⟨g5, 1, none⟩ (.string n.z)).setCell ⟨g5, 2, none⟩ (.int .i64 n.c)).setCell ⟨g5, 3, none⟩ (.int .i64 n.s)).setCell ⟨g5, 4, none⟩ (.int .i64 n.u)).setCell ⟨g5, 5, none⟩ (.bool n.d)).setCell ⟨g5, 6, none⟩ (.slice na nl nc)) = Y at GN BN ⊢
  clear r0 f0 r1 f1 r2 f2 r3 f3 r4 f4 r5 f5 r6 f6
  have KV := upK GK BN.out
  have PVv := upK GP BN.out
  have BV := hidK (BW.out.trans (BN.out.mono BW.out.size))
  clear GK GP BW BN hbW
  have pp : Y.cell? ⟨w.heap.size + 1, 3, none⟩ = some (.slice pa pl pc) := cellK PVv.out 3
  go_wp2
  clear pp
  go_loopw [6] (fun i wr => ∃ k : Nat, k ≤ pl ∧ i = .int .i64 k ∧ Hid (∀ (j : Nat) t, j < k → p.zs[j]? = some t → ∃ v, IsBd c t v ∧ InL n.zs v.n) ∧ Hid (Below Y.heap.size Y wr)) (fun i _ => pl - (intOf i).toNat)
  case atStart => exact ⟨0, by omega, rfl, fun _ _ h => absurd h (by omega), Below.refl _ _⟩
  case round =>
    obtain ⟨k, hk, rfl, HQ, HBY⟩ := hrel
    have HB := hidK (BV.out.trans (HBY.out.mono BV.out.size))
    have Bk := upK KV HBY.out
    have Bp := upK PVv HBY.out
    have Bn := upK GN HBY.out
    have pp : wr.cell? ⟨w.heap.size + 1, 3, none⟩ = some (.slice pa pl pc) := cellK Bp.out 3
    by_cases hlt : k < pl
    · obtain ⟨b, o, t, rfl, hb, hxt, hc, hsz⟩ := (HP.out.below HB.out).at hlt
      have HXt := hidK hxt
      clear hxt hsz
      obtain ⟨v, hbd⟩ := HBD.out k t HXt.out
      obtain ⟨j3, hj3⟩ := hbd.at
      have hl3' : j3 < l3 := by have h1 := (List.getElem?_eq_some_iff.1 hj3).1; omega
      obtain ⟨b3, o3, v', rfl, hb3, hv', hat⟩ := vd_at HR.out.v hl3'
      rw [hj3] at hv'
      obtain rfl := Option.some.inj hv'
      obtain ⟨xa, xl, xc, hvr, z0, z2, z3, z5, d0, d1, d2, d3, d4, d5, d6, d7⟩ := vd_cells hat
      have HJ := hidK hj3
      have HDb := hidK hbd
      have hbv : b3 < wr.heap.size := Nat.lt_of_lt_of_le hb3 HB.out.size
      have v0 := (cell_below HB.out hb3).trans d0
      clear hv' hat hvr z0 z2 z3 z5 d0 d1 d2 d3 d4 d5 d6 d7 hj3 hbd hb3
      by_cases hin : InL n.zs v.n
      · have HIn := hidK hin
        clear hin
        have Gk : Hid (wr.heap[w.heap.size]? = some (.cells #[.slice (some ⟨b1, o1, none⟩) l1 y1, .slice a2 l2 y2, .slice (some ⟨b3, o3, none⟩) l3 y3, .slice a4 l4 y4, .slice a5 l5 y5, .int .i64 c.now] 38 (0, 0))) := Bk.out
        have Gp : Hid (wr.heap[w.heap.size + 1]? = some (.cells #[.string p.n, .int .i64 p.c, .string p.z, .slice (some ⟨b, o, none⟩) pl pc, .string p.d, .int .i64 p.p] 89 (0, 0))) := Bp.out
        have Gn : Hid (wr.heap[g5]? = some (.cells #[.string n.n, .string n.z, .int .i64 n.c, .int .i64 n.s, .int .i64 n.u, .bool n.d, .slice na nl nc] 58 (0, 0))) := Bn.out
        have HW : Hid (Below w.heap.size w wr) := HB.out
        have k0 := fun q : Wd wr => q.slot (o := 0) Gk.out rfl
        have k1 := fun q : Wd wr => q.slot (o := 1) Gk.out rfl
        have k2 := fun q : Wd wr => q.slot (o := 2) Gk.out rfl
        have k3 := fun q : Wd wr => q.slot (o := 3) Gk.out rfl
        have k4 := fun q : Wd wr => q.slot (o := 4) Gk.out rfl
        have k5 := fun q : Wd wr => q.slot (o := 5) Gk.out rfl
        have p3 := fun q : Wd wr => q.slot (o := 3) Gp.out rfl
        have n6 := fun q : Wd wr => q.slot (o := 6) Gn.out rfl
        have tw : ∀ q : Wd wr, q.w.cell? ⟨b, o + k, none⟩ = some (.string t) := fun q => (q.cell (hb)).trans (hc)
        have vw : ∀ q : Wd wr, q.w.cell? ⟨b3, o3 + j3 * 8, none⟩ = some (.string v.n) := fun q => (q.cell (hbv)).trans (v0)
        have hne0 := Wd.ne wr
        have HC0 := hidK (fun q : Wd wr => sbind_hit ⟨(some ⟨b1, o1, none⟩), l1, y1, a2, l2, y2, (some ⟨b3, o3, none⟩), l3, y3, a4, l4, y4, a5, l5, y5⟩ c t q.w (HR.out.below (HW.out.trans (q.b.mono HW.out.size))) HX.out HV.out HNE.out HJ.out HDb.out)
        have HC1 := hidK (fun q : Wd wr => (shas_any na nl nc n.zs v.n q.w (HTn.out.below (HW.out.trans (q.b.mono HW.out.size)))).mono (fun _ _ h => BoolB.yes h HIn.out))
        go_wp2_with fail
        refine wp_region_wide (by kernel_rfl) (by kernel_rfl) ?_
        repeat (go_big_quiet_step (first | (go_at_call 78; exact Calls.wide (HC0.out _)) | (go_at_call 51; exact Calls.wide (HC1.out _)) | fail))
        refine wpQuiet_nil ?_
        rintro _ ⟨q2, rfl⟩
        have HB1 := upB HW q2.b
        have Ck := upK Gk q2.b
        have Cp := upK Gp q2.b
        have Cn := upK Gn q2.b
        clear hne0 HW HB HC0 HC1 k0 k1 k2 k3 k4 k5 p3 n6 tw vw Gk Gp Gn Bk Bp Bn pp hb hc hbv v0
        have HB := HB1
        clear HB1
        have Bk := Ck
        clear Ck
        have Bp := Cp
        clear Cp
        have Bn := Cn
        clear Cn
        go_wp2_with fail
        refine ⟨⟨k + 1, by omega, by go_num, fun j s hj hs => ?_, HBY.out.trans (q2.b.mono HBY.out.size)⟩, by simp [intOf]; omega⟩
        by_cases e : j = k
        · subst e
          rw [HXt.out] at hs
          obtain rfl := Option.some.inj hs
          exact ⟨v, HDb.out, HIn.out⟩
        · exact HQ.out j s (by omega) hs
      · have HIn := hidK hin
        clear hin
        have Gk : Hid (wr.heap[w.heap.size]? = some (.cells #[.slice (some ⟨b1, o1, none⟩) l1 y1, .slice a2 l2 y2, .slice (some ⟨b3, o3, none⟩) l3 y3, .slice a4 l4 y4, .slice a5 l5 y5, .int .i64 c.now] 38 (0, 0))) := Bk.out
        have Gp : Hid (wr.heap[w.heap.size + 1]? = some (.cells #[.string p.n, .int .i64 p.c, .string p.z, .slice (some ⟨b, o, none⟩) pl pc, .string p.d, .int .i64 p.p] 89 (0, 0))) := Bp.out
        have Gn : Hid (wr.heap[g5]? = some (.cells #[.string n.n, .string n.z, .int .i64 n.c, .int .i64 n.s, .int .i64 n.u, .bool n.d, .slice na nl nc] 58 (0, 0))) := Bn.out
        have HW : Hid (Below w.heap.size w wr) := HB.out
        have k0 := fun q : Wd wr => q.slot (o := 0) Gk.out rfl
        have k1 := fun q : Wd wr => q.slot (o := 1) Gk.out rfl
        have k2 := fun q : Wd wr => q.slot (o := 2) Gk.out rfl
        have k3 := fun q : Wd wr => q.slot (o := 3) Gk.out rfl
        have k4 := fun q : Wd wr => q.slot (o := 4) Gk.out rfl
        have k5 := fun q : Wd wr => q.slot (o := 5) Gk.out rfl
        have p3 := fun q : Wd wr => q.slot (o := 3) Gp.out rfl
        have n6 := fun q : Wd wr => q.slot (o := 6) Gn.out rfl
        have tw : ∀ q : Wd wr, q.w.cell? ⟨b, o + k, none⟩ = some (.string t) := fun q => (q.cell (hb)).trans (hc)
        have vw : ∀ q : Wd wr, q.w.cell? ⟨b3, o3 + j3 * 8, none⟩ = some (.string v.n) := fun q => (q.cell (hbv)).trans (v0)
        have hne0 := Wd.ne wr
        have HC0 := hidK (fun q : Wd wr => sbind_hit ⟨(some ⟨b1, o1, none⟩), l1, y1, a2, l2, y2, (some ⟨b3, o3, none⟩), l3, y3, a4, l4, y4, a5, l5, y5⟩ c t q.w (HR.out.below (HW.out.trans (q.b.mono HW.out.size))) HX.out HV.out HNE.out HJ.out HDb.out)
        have HC1 := hidK (fun q : Wd wr => (shas_any na nl nc n.zs v.n q.w (HTn.out.below (HW.out.trans (q.b.mono HW.out.size)))).mono (fun _ _ h => BoolB.no h HIn.out))
        go_wp2_with fail
        refine wp_region_wide (by kernel_rfl) (by kernel_rfl) ?_
        repeat (go_big_quiet_step (first | (go_at_call 78; exact Calls.wide (HC0.out _)) | (go_at_call 51; exact Calls.wide (HC1.out _)) | fail))
        refine wpQuiet_nil ?_
        rintro _ ⟨q2, rfl⟩
        have HB1 := upB HW q2.b
        have Ck := upK Gk q2.b
        have Cp := upK Gp q2.b
        have Cn := upK Gn q2.b
        clear hne0 HW HB HC0 HC1 k0 k1 k2 k3 k4 k5 p3 n6 tw vw Gk Gp Gn Bk Bp Bn pp hb hc hbv v0
        have HB := HB1
        clear HB1
        have Bk := Ck
        clear Ck
        have Bp := Cp
        clear Cp
        have Bn := Cn
        clear Cn
        go_wp2
        go_ret
        refine BoolB.f (fun h => ?_) HB.out
        obtain ⟨v2, e1, e2⟩ := h k t HXt.out
        obtain rfl := IsBd.inj HX.out HV.out HDb.out e1
        exact HIn.out e2
    · obtain rfl : pl = k := by omega
      go_wp2
      go_ret
      exact BoolB.t (fun j t ht => HQ.out j t (by have := (List.getElem?_eq_some_iff.1 ht).1; omega) ht) HB.out

set_option maxRecDepth 100000 in
set_option maxHeartbeats 12800000 in
theorem smounted_any (d : Ad) (c : Cl) (w : World) (hr : ClRow w d c.raw) (hn : RisBy Nd.n c.ns) (hx : RisBy Xd.n c.xs) (hv : RisBy Vd.n c.vs) (hne : ∀ (j : Nat) v, c.vs[j]? = some v → ¬ v.n = ⟨#[]⟩) (hrun : ∀ (j : Nat) p, c.ps[j]? = some p → p.p = 2 → (∃ (i : Nat) (n : Nd), c.ns[i]? = some n ∧ n.n = p.d) ∧ ∀ (j : Nat) t, p.zs[j]? = some t → ∃ v, IsBd c t v) :
    Calls Tryz.prog 49 #[.agg #[.slice d.a1 d.l1 d.c1, .slice d.a2 d.l2 d.c2, .slice d.a3 d.l3 d.c3, .slice d.a4 d.l4 d.c4, .slice d.a5 d.l5 d.c5, .int .i64 c.now]] w (BoolB (MountedI c) w) := by
  obtain ⟨a1, l1, y1, a2, l2, y2, a3, l3, y3, a4, l4, y4, a5, l5, y5⟩ := d
  dsimp only
  have HR := hidK hr
  have hl1 : c.ns.length = l1 := by simpa using (show (c.ns.map ndF).length = l1 from hr.n.1)
  have hm1 : l1 ≤ 9223372036854775807 := Nat.le_trans hr.n.2.1 hr.n.2.2.1
  have hl2 : c.ks.length = l2 := by simpa using (show (c.ks.map kdF).length = l2 from hr.k.1)
  have hm2 : l2 ≤ 9223372036854775807 := Nat.le_trans hr.k.2.1 hr.k.2.2.1
  have hl3 : c.vs.length = l3 := by simpa using (show (c.vs.map vdF).length = l3 from hr.v.1)
  have hm3 : l3 ≤ 9223372036854775807 := Nat.le_trans hr.v.2.1 hr.v.2.2.1
  have hl4 : c.xs.length = l4 := by simpa using (show (c.xs.map xdF).length = l4 from hr.x.1)
  have hm4 : l4 ≤ 9223372036854775807 := Nat.le_trans hr.x.2.1 hr.x.2.2.1
  have hl5 : c.ps.length = l5 := by simpa using (show (c.ps.map pdF).length = l5 from hr.p.1)
  have hm5 : l5 ≤ 9223372036854775807 := Nat.le_trans hr.p.2.1 hr.p.2.2.1
  clear hr
  have HNR := hidK hn
  have HX := hidK hx
  have HV := hidK hv
  have HNE := hidK hne
  have HRun := hidK hrun
  clear hn hx hv hne hrun
  go_enter Tryz.func49, Tryz.ntmps49
  go_wp2
  go_loopw [3] (fun i wr => ∃ k : Nat, k ≤ l1 ∧ i = .int .i64 k ∧ Hid (∀ (j : Nat) z, j < k → c.ns[j]? = some z → MntI c z) ∧ Hid (Below w.heap.size w wr) ∧ Hid (wr.heap[w.heap.size]? = some (.cells #[.slice a1 l1 y1, .slice a2 l2 y2, .slice a3 l3 y3, .slice a4 l4 y4, .slice a5 l5 y5, .int .i64 c.now] 38 (0, 0)))) (fun i _ => l1 - (intOf i).toNat)
  case atStart => exact ⟨0, by omega, rfl, fun _ _ h => absurd h (by omega), below1 _ _, Array.getElem?_push_size⟩
  case round =>
    obtain ⟨k, hk, rfl, HQ, HB, Bk⟩ := hrel
    have pk : wr.cell? ⟨w.heap.size, 0, none⟩ = some (.slice a1 l1 y1) := cellK Bk.out 0
    have pkl : w.heap.size < wr.heap.size := lt_of_some Bk.out
    by_cases hlt : k < l1
    · obtain ⟨b, o, n, rfl, hb, hx, hat⟩ := nd_at (HR.out.n.below HB.out) hlt
      obtain ⟨va, vl, vc, hvr, z0, z1, c0, c1, c2, c3, c4, c5, c6⟩ := nd_cells hat
      have HXn := hidK hx
      have HTn := hidK hvr
      have HZn0 := hidK z0
      have HZn1 := hidK z1
      clear hat hx z0 z1 hvr
      have hvl : n.zs.length = vl := HTn.out.1
      have hvc : vl ≤ 9223372036854775807 := Nat.le_trans HTn.out.2.1 HTn.out.2.2.1
      have HVL := hidK hvl
      clear hvl
      have KV : Hid ((wr.alloc (.cells #[.string n.n, .string n.z, .int .i64 n.c, .int .i64 n.s, .int .i64 n.u, .bool n.d, .slice va vl vc] 58)).heap[w.heap.size]? = some (.cells #[.slice (some ⟨b, o, none⟩) l1 y1, .slice a2 l2 y2, .slice a3 l3 y3, .slice a4 l4 y4, .slice a5 l5 y5, .int .i64 c.now] 38 (0, 0))) := (Below.heap_alloc wr (.cells #[.string n.n, .string n.z, .int .i64 n.c, .int .i64 n.s, .int .i64 n.u, .bool n.d, .slice va vl vc] 58) _ (lt_of_some Bk.out)).trans Bk.out
      have GV : Hid ((wr.alloc (.cells #[.string n.n, .string n.z, .int .i64 n.c, .int .i64 n.s, .int .i64 n.u, .bool n.d, .slice va vl vc] 58)).heap[wr.heap.size]? = some (.cells #[.string n.n, .string n.z, .int .i64 n.c, .int .i64 n.s, .int .i64 n.u, .bool n.d, .slice va vl vc] 58 (0, 0))) := Array.getElem?_push_size
      have BV := hidK (HB.out.trans ((below1 wr (.cells #[.string n.n, .string n.z, .int .i64 n.c, .int .i64 n.s, .int .i64 n.u, .bool n.d, .slice va vl vc] 58)).mono HB.out.size))
      have TT := hidK (HTn.out.below (below1 wr (.cells #[.string n.n, .string n.z, .int .i64 n.c, .int .i64 n.s, .int .i64 n.u, .bool n.d, .slice va vl vc] 58)))
      obtain ⟨W, hW⟩ : ∃ W, W = wr.alloc (.cells #[.string n.n, .string n.z, .int .i64 n.c, .int .i64 n.s, .int .i64 n.u, .bool n.d, .slice va vl vc] 58) := ⟨_, rfl⟩
      obtain ⟨gb, hgb⟩ : ∃ gb, gb = wr.heap.size := ⟨_, rfl⟩
      rw [← hW] at KV GV BV TT
      rw [← hgb] at GV
      go_wp2
      rw [← hW, ← hgb]
      clear hW hgb HB Bk HTn c0 c1 c2 c3 c4 c5 c6 hb pk pkl
      go_loopw [5] (fun i wr => ∃ kq : Nat, kq ≤ vl ∧ i = .int .i64 kq ∧ Hid (∀ (j : Nat) t, j < kq → n.zs[j]? = some t → ∃ (i : Nat) (v : Vd), c.vs[i]? = some v ∧ v.n = t ∧ (n.d = true ∨ InL v.zs n.n)) ∧ Hid (Below W.heap.size W wr)) (fun i _ => vl - (intOf i).toNat)
      case atStart => exact ⟨0, by omega, rfl, fun _ _ h => absurd h (by omega), Below.refl _ _⟩
      case round =>
        obtain ⟨kq, hkq, rfl, HQ2, HBW⟩ := hrel
        have HB := hidK (BV.out.trans (HBW.out.mono BV.out.size))
        have Bk := upK KV HBW.out
        have Bv := upK GV HBW.out
        have pv : wr.cell? ⟨gb, 6, none⟩ = some (.slice va vl vc) := cellK Bv.out 6
        by_cases hlt2 : kq < vl
        · obtain ⟨b2, o2, t, rfl, hb, hx, hc, hsz⟩ := (TT.out.below HBW.out).at hlt2
          have HXt := hidK hx
          clear hx hsz
          by_cases hnn : ∃ (i : Nat) (v : Vd), c.vs[i]? = some v ∧ v.n = t
          rotate_left
          · have HH := hidK hnn
            clear hnn
            have Gk : Hid (wr.heap[w.heap.size]? = some (.cells #[.slice (some ⟨b, o, none⟩) l1 y1, .slice a2 l2 y2, .slice a3 l3 y3, .slice a4 l4 y4, .slice a5 l5 y5, .int .i64 c.now] 38 (0, 0))) := Bk.out
            have Gv : Hid (wr.heap[gb]? = some (.cells #[.string n.n, .string n.z, .int .i64 n.c, .int .i64 n.s, .int .i64 n.u, .bool n.d, .slice (some ⟨b2, o2, none⟩) vl vc] 58 (0, 0))) := Bv.out
            have HW : Hid (Below w.heap.size w wr) := HB.out
            have k0 := fun q : Wd wr => q.slot (o := 0) Gk.out rfl
            have k1 := fun q : Wd wr => q.slot (o := 1) Gk.out rfl
            have k2 := fun q : Wd wr => q.slot (o := 2) Gk.out rfl
            have k3 := fun q : Wd wr => q.slot (o := 3) Gk.out rfl
            have k4 := fun q : Wd wr => q.slot (o := 4) Gk.out rfl
            have k5 := fun q : Wd wr => q.slot (o := 5) Gk.out rfl
            have v6 := fun q : Wd wr => q.slot (o := 6) Gv.out rfl
            have tw : ∀ q : Wd wr, q.w.cell? ⟨b2, o2 + kq, none⟩ = some (.string t) := fun q => (q.cell (hb)).trans (hc)
            have hne0 := Wd.ne wr
            have HC0 := hidK (fun q : Wd wr => sxvd_miss ⟨(some ⟨b, o, none⟩), l1, y1, a2, l2, y2, a3, l3, y3, a4, l4, y4, a5, l5, y5⟩ c.now c.vs t q.w (HR.out.v.below (HW.out.trans (q.b.mono HW.out.size))) (fun i v h1 h2 => HH.out ⟨i, v, h1, h2⟩))
            go_wp2_with fail
            refine wp_region_wide (by kernel_rfl) (by kernel_rfl) ?_
            repeat (go_big_quiet_step (first | (go_at_call 77; exact Calls.wide (HC0.out _)) | fail))
            refine wpQuiet_nil ?_
            rintro _ ⟨q1, rfl⟩
            have HB1 := upB HW q1.b
            have Ck := upK Gk q1.b
            have Cv := upK Gv q1.b
            clear hne0 HW HB HC0 k0 k1 k2 k3 k4 k5 v6 tw Gk Gv Bk Bv pv
            have HB := HB1
            clear HB1
            have Bk := Ck
            clear Ck
            have Bv := Cv
            clear Cv
            have Gk : Hid (q1.w.heap[w.heap.size]? = some (.cells #[.slice (some ⟨b, o, none⟩) l1 y1, .slice a2 l2 y2, .slice a3 l3 y3, .slice a4 l4 y4, .slice a5 l5 y5, .int .i64 c.now] 38 (0, 0))) := Bk.out
            have Gv : Hid (q1.w.heap[gb]? = some (.cells #[.string n.n, .string n.z, .int .i64 n.c, .int .i64 n.s, .int .i64 n.u, .bool n.d, .slice (some ⟨b2, o2, none⟩) vl vc] 58 (0, 0))) := Bv.out
            have HW : Hid (Below w.heap.size w q1.w) := HB.out
            have k2 := fun q : Wd q1.w => q.slot (o := 2) Gk.out rfl
            have v0 := fun q : Wd q1.w => q.slot (o := 0) Gv.out rfl
            have v1 := fun q : Wd q1.w => q.slot (o := 1) Gv.out rfl
            have v2 := fun q : Wd q1.w => q.slot (o := 2) Gv.out rfl
            have v3 := fun q : Wd q1.w => q.slot (o := 3) Gv.out rfl
            have v4 := fun q : Wd q1.w => q.slot (o := 4) Gv.out rfl
            have v5 := fun q : Wd q1.w => q.slot (o := 5) Gv.out rfl
            have v6 := fun q : Wd q1.w => q.slot (o := 6) Gv.out rfl
            have hne0 := Wd.ne q1.w
            go_wp2_with fail
            refine wp_region_wide (by kernel_rfl) (by kernel_rfl) ?_
            repeat (go_big_quiet_step (first | fail))
            refine wpQuiet_nil ?_
            rintro _ ⟨q2, rfl⟩
            have HB2 := upB HW q2.b
            have Ck := upK Gk q2.b
            have Cv := upK Gv q2.b
            clear hne0 HW HB k2 v0 v1 v2 v3 v4 v5 v6 Gk Gv Bk Bv
            have HB := HB2
            clear HB2
            have Bk := Ck
            clear Ck
            have Bv := Cv
            clear Cv
            go_wp2
            go_ret
            refine BoolB.f (fun h => ?_) HB.out
            obtain ⟨i, v, h2, h3, _⟩ := (h.1 k n HXn.out) kq t HXt.out
            exact HH.out ⟨i, v, h2, h3⟩
          obtain ⟨j3, v, h1, h2⟩ := hnn
          have hl3' : j3 < l3 := by have h3 := (List.getElem?_eq_some_iff.1 h1).1; omega
          obtain ⟨b3, o3, v', rfl, hb3, hv', hat⟩ := vd_at HR.out.v hl3'
          rw [h1] at hv'
          obtain rfl := Option.some.inj hv'
          obtain ⟨xa, xl, xc, hvr, z0, z2, z3, z5, d0, d1, d2, d3, d4, d5, d6, d7⟩ := vd_cells hat
          have HJ := hidK h1
          have HNv := hidK h2
          have HTx := hidK hvr
          have HC7 := hidK d7
          have HB3 := hidK hb3
          have hj31 : decide ((j3 : Int) < 0) = false := by simp
          clear hv' hat hvr z0 z2 z3 z5 d0 d1 d2 d3 d4 d5 d6 d7 h1 h2 hb3
          have Gk : Hid (wr.heap[w.heap.size]? = some (.cells #[.slice (some ⟨b, o, none⟩) l1 y1, .slice a2 l2 y2, .slice (some ⟨b3, o3, none⟩) l3 y3, .slice a4 l4 y4, .slice a5 l5 y5, .int .i64 c.now] 38 (0, 0))) := Bk.out
          have Gv : Hid (wr.heap[gb]? = some (.cells #[.string n.n, .string n.z, .int .i64 n.c, .int .i64 n.s, .int .i64 n.u, .bool n.d, .slice (some ⟨b2, o2, none⟩) vl vc] 58 (0, 0))) := Bv.out
          have HW : Hid (Below w.heap.size w wr) := HB.out
          have k0 := fun q : Wd wr => q.slot (o := 0) Gk.out rfl
          have k1 := fun q : Wd wr => q.slot (o := 1) Gk.out rfl
          have k2 := fun q : Wd wr => q.slot (o := 2) Gk.out rfl
          have k3 := fun q : Wd wr => q.slot (o := 3) Gk.out rfl
          have k4 := fun q : Wd wr => q.slot (o := 4) Gk.out rfl
          have k5 := fun q : Wd wr => q.slot (o := 5) Gk.out rfl
          have v6 := fun q : Wd wr => q.slot (o := 6) Gv.out rfl
          have tw : ∀ q : Wd wr, q.w.cell? ⟨b2, o2 + kq, none⟩ = some (.string t) := fun q => (q.cell (hb)).trans (hc)
          have hne0 := Wd.ne wr
          have HC0 := hidK (fun q : Wd wr => sxvd_hit ⟨(some ⟨b, o, none⟩), l1, y1, a2, l2, y2, (some ⟨b3, o3, none⟩), l3, y3, a4, l4, y4, a5, l5, y5⟩ c.now c.vs t q.w (HR.out.v.below (HW.out.trans (q.b.mono HW.out.size))) HV.out HJ.out HNv.out)
          go_wp2_with fail
          refine wp_region_wide (by kernel_rfl) (by kernel_rfl) ?_
          repeat (go_big_quiet_step (first | (go_at_call 77; exact Calls.wide (HC0.out _)) | fail))
          refine wpQuiet_nil ?_
          rintro _ ⟨q1, rfl⟩
          have HB1 := upB HW q1.b
          have Ck := upK Gk q1.b
          have Cv := upK Gv q1.b
          clear hne0 HW HB HC0 k0 k1 k2 k3 k4 k5 v6 tw Gk Gv Bk Bv pv hb hc
          have HB := HB1
          clear HB1
          have Bk := Ck
          clear Ck
          have Bv := Cv
          clear Cv
          have HBW1 := upB HBW q1.b
          have hbv : b3 < q1.w.heap.size := Nat.lt_of_lt_of_le HB3.out HB.out.size
          have v7 := (cell_below HB.out HB3.out).trans HC7.out
          clear HBW
          rcases Bool.eq_false_or_eq_true n.d with hd | hd
          · have HDd := hidK hd
            clear hd
            have Bv2 : Hid (q1.w.heap[gb]? = some (.cells #[.string n.n, .string n.z, .int .i64 n.c, .int .i64 n.s, .int .i64 n.u, .bool true, .slice (some ⟨b2, o2, none⟩) vl vc] 58 (0, 0))) := by have := Bv.out; rw [HDd.out] at this; exact this
            clear Bv
            have Bv := Bv2
            clear Bv2
            have Gk : Hid (q1.w.heap[w.heap.size]? = some (.cells #[.slice (some ⟨b, o, none⟩) l1 y1, .slice a2 l2 y2, .slice (some ⟨b3, o3, none⟩) l3 y3, .slice a4 l4 y4, .slice a5 l5 y5, .int .i64 c.now] 38 (0, 0))) := Bk.out
            have Gv : Hid (q1.w.heap[gb]? = some (.cells #[.string n.n, .string n.z, .int .i64 n.c, .int .i64 n.s, .int .i64 n.u, .bool true, .slice (some ⟨b2, o2, none⟩) vl vc] 58 (0, 0))) := Bv.out
            have HW : Hid (Below w.heap.size w q1.w) := HB.out
            have k2 := fun q : Wd q1.w => q.slot (o := 2) Gk.out rfl
            have v0 := fun q : Wd q1.w => q.slot (o := 0) Gv.out rfl
            have v1 := fun q : Wd q1.w => q.slot (o := 1) Gv.out rfl
            have v2 := fun q : Wd q1.w => q.slot (o := 2) Gv.out rfl
            have v3 := fun q : Wd q1.w => q.slot (o := 3) Gv.out rfl
            have v4 := fun q : Wd q1.w => q.slot (o := 4) Gv.out rfl
            have v5 := fun q : Wd q1.w => q.slot (o := 5) Gv.out rfl
            have v6 := fun q : Wd q1.w => q.slot (o := 6) Gv.out rfl
            have vw : ∀ q : Wd q1.w, q.w.cell? ⟨b3, o3 + j3 * 8 + 7, none⟩ = some (.slice xa xl xc) := fun q => (q.cell (hbv)).trans (v7)
            have hne0 := Wd.ne q1.w
            go_wp2_with fail
            refine wp_region_wide (by kernel_rfl) (by kernel_rfl) ?_
            repeat (go_big_quiet_step (first | fail))
            refine wpQuiet_nil ?_
            rintro _ ⟨q2, rfl⟩
            have HB2 := upB HW q2.b
            have Ck := upK Gk q2.b
            have Cv := upK Gv q2.b
            clear hne0 HW HB k2 v0 v1 v2 v3 v4 v5 v6 vw Gk Gv Bk Bv hbv v7
            have HB := HB2
            clear HB2
            have Bk := Ck
            clear Ck
            have Bv := Cv
            clear Cv
            go_wp2_with fail
            refine ⟨⟨kq + 1, by omega, by go_num, fun j s hj hs => ?_, HBW1.out.trans (q2.b.mono HBW1.out.size)⟩, by simp [intOf]; omega⟩
            by_cases e : j = kq
            · subst e
              rw [HXt.out] at hs
              obtain rfl := Option.some.inj hs
              exact ⟨j3, v, HJ.out, HNv.out, .inl HDd.out⟩
            · exact HQ2.out j s (by omega) hs
          · have HDd := hidK hd
            clear hd
            have Bv2 : Hid (q1.w.heap[gb]? = some (.cells #[.string n.n, .string n.z, .int .i64 n.c, .int .i64 n.s, .int .i64 n.u, .bool false, .slice (some ⟨b2, o2, none⟩) vl vc] 58 (0, 0))) := by have := Bv.out; rw [HDd.out] at this; exact this
            clear Bv
            have Bv := Bv2
            clear Bv2
            by_cases hin : InL v.zs n.n
            · have HIn := hidK hin
              clear hin
              have Gk : Hid (q1.w.heap[w.heap.size]? = some (.cells #[.slice (some ⟨b, o, none⟩) l1 y1, .slice a2 l2 y2, .slice (some ⟨b3, o3, none⟩) l3 y3, .slice a4 l4 y4, .slice a5 l5 y5, .int .i64 c.now] 38 (0, 0))) := Bk.out
              have Gv : Hid (q1.w.heap[gb]? = some (.cells #[.string n.n, .string n.z, .int .i64 n.c, .int .i64 n.s, .int .i64 n.u, .bool false, .slice (some ⟨b2, o2, none⟩) vl vc] 58 (0, 0))) := Bv.out
              have HW : Hid (Below w.heap.size w q1.w) := HB.out
              have k2 := fun q : Wd q1.w => q.slot (o := 2) Gk.out rfl
              have v0 := fun q : Wd q1.w => q.slot (o := 0) Gv.out rfl
              have v1 := fun q : Wd q1.w => q.slot (o := 1) Gv.out rfl
              have v2 := fun q : Wd q1.w => q.slot (o := 2) Gv.out rfl
              have v3 := fun q : Wd q1.w => q.slot (o := 3) Gv.out rfl
              have v4 := fun q : Wd q1.w => q.slot (o := 4) Gv.out rfl
              have v5 := fun q : Wd q1.w => q.slot (o := 5) Gv.out rfl
              have v6 := fun q : Wd q1.w => q.slot (o := 6) Gv.out rfl
              have vw : ∀ q : Wd q1.w, q.w.cell? ⟨b3, o3 + j3 * 8 + 7, none⟩ = some (.slice xa xl xc) := fun q => (q.cell (hbv)).trans (v7)
              have hne0 := Wd.ne q1.w
              have HC0 := hidK (fun q : Wd q1.w => (shas_any xa xl xc v.zs n.n q.w (HTx.out.below (HW.out.trans (q.b.mono HW.out.size)))).mono (fun _ _ h => BoolB.yes h HIn.out))
              go_wp2_with fail
              refine wp_region_wide (by kernel_rfl) (by kernel_rfl) ?_
              repeat (go_big_quiet_step (first | (go_at_call 51; exact Calls.wide (HC0.out _)) | fail))
              refine wpQuiet_nil ?_
              rintro _ ⟨q2, rfl⟩
              have HB2 := upB HW q2.b
              have Ck := upK Gk q2.b
              have Cv := upK Gv q2.b
              clear hne0 HW HB HC0 k2 v0 v1 v2 v3 v4 v5 v6 vw Gk Gv Bk Bv hbv v7
              have HB := HB2
              clear HB2
              have Bk := Ck
              clear Ck
              have Bv := Cv
              clear Cv
              go_wp2_with fail
              refine ⟨⟨kq + 1, by omega, by go_num, fun j s hj hs => ?_, HBW1.out.trans (q2.b.mono HBW1.out.size)⟩, by simp [intOf]; omega⟩
              by_cases e : j = kq
              · subst e
                rw [HXt.out] at hs
                obtain rfl := Option.some.inj hs
                exact ⟨j3, v, HJ.out, HNv.out, .inr HIn.out⟩
              · exact HQ2.out j s (by omega) hs
            · have HIn := hidK hin
              clear hin
              have Gk : Hid (q1.w.heap[w.heap.size]? = some (.cells #[.slice (some ⟨b, o, none⟩) l1 y1, .slice a2 l2 y2, .slice (some ⟨b3, o3, none⟩) l3 y3, .slice a4 l4 y4, .slice a5 l5 y5, .int .i64 c.now] 38 (0, 0))) := Bk.out
              have Gv : Hid (q1.w.heap[gb]? = some (.cells #[.string n.n, .string n.z, .int .i64 n.c, .int .i64 n.s, .int .i64 n.u, .bool false, .slice (some ⟨b2, o2, none⟩) vl vc] 58 (0, 0))) := Bv.out
              have HW : Hid (Below w.heap.size w q1.w) := HB.out
              have k2 := fun q : Wd q1.w => q.slot (o := 2) Gk.out rfl
              have v0 := fun q : Wd q1.w => q.slot (o := 0) Gv.out rfl
              have v1 := fun q : Wd q1.w => q.slot (o := 1) Gv.out rfl
              have v2 := fun q : Wd q1.w => q.slot (o := 2) Gv.out rfl
              have v3 := fun q : Wd q1.w => q.slot (o := 3) Gv.out rfl
              have v4 := fun q : Wd q1.w => q.slot (o := 4) Gv.out rfl
              have v5 := fun q : Wd q1.w => q.slot (o := 5) Gv.out rfl
              have v6 := fun q : Wd q1.w => q.slot (o := 6) Gv.out rfl
              have vw : ∀ q : Wd q1.w, q.w.cell? ⟨b3, o3 + j3 * 8 + 7, none⟩ = some (.slice xa xl xc) := fun q => (q.cell (hbv)).trans (v7)
              have hne0 := Wd.ne q1.w
              have HC0 := hidK (fun q : Wd q1.w => (shas_any xa xl xc v.zs n.n q.w (HTx.out.below (HW.out.trans (q.b.mono HW.out.size)))).mono (fun _ _ h => BoolB.no h HIn.out))
              go_wp2_with fail
              refine wp_region_wide (by kernel_rfl) (by kernel_rfl) ?_
              repeat (go_big_quiet_step (first | (go_at_call 51; exact Calls.wide (HC0.out _)) | fail))
              refine wpQuiet_nil ?_
              rintro _ ⟨q2, rfl⟩
              have HB2 := upB HW q2.b
              have Ck := upK Gk q2.b
              have Cv := upK Gv q2.b
              clear hne0 HW HB HC0 k2 v0 v1 v2 v3 v4 v5 v6 vw Gk Gv Bk Bv hbv v7
              have HB := HB2
              clear HB2
              have Bk := Ck
              clear Ck
              have Bv := Cv
              clear Cv
              go_wp2
              go_ret
              refine BoolB.f (fun h => ?_) HB.out
              obtain ⟨i, v2, e1, e2, e3⟩ := (h.1 k n HXn.out) kq t HXt.out
              obtain ⟨_, rfl⟩ := HV.out.inj e1 HJ.out (e2.trans HNv.out.symm)
              rcases e3 with e3 | e3
              · rw [HDd.out] at e3; cases e3
              · exact HIn.out e3
        · obtain rfl : vl = kq := by omega
          go_wp2_with fail
          refine ⟨⟨k + 1, by omega, by go_num, fun j z hj hz => ?_, HB.out, Bk.out⟩, by simp [intOf]; omega⟩
          by_cases e : j = k
          · subst e
            rw [HXn.out] at hz
            obtain rfl := Option.some.inj hz
            exact fun j s hs => HQ2.out j s (by have h1 := (List.getElem?_eq_some_iff.1 hs).1; have h2 := HVL.out; omega) hs
          · exact HQ.out j z (by omega) hz
    · obtain rfl : l1 = k := by omega
      have HQ1 : Hid (∀ (j : Nat) z, c.ns[j]? = some z → MntI c z) := fun j z hz => HQ.out j z (by have := (List.getElem?_eq_some_iff.1 hz).1; omega) hz
      clear HQ
      have kc : wr.cell? ⟨w.heap.size, 4, none⟩ = some (.slice a5 l5 y5) := cellK Bk.out 4
      go_wp2
      clear pk pkl kc
      go_loopw [7] (fun i wr => ∃ k : Nat, k ≤ l5 ∧ i = .int .i64 k ∧ Hid (∀ (j : Nat) z, j < k → c.ps[j]? = some z → MQ2 c z) ∧ Hid (Below w.heap.size w wr) ∧ Hid (wr.heap[w.heap.size]? = some (.cells #[.slice a1 l1 y1, .slice a2 l2 y2, .slice a3 l3 y3, .slice a4 l4 y4, .slice a5 l5 y5, .int .i64 c.now] 38 (0, 0)))) (fun i _ => l5 - (intOf i).toNat)
      case atStart => exact ⟨0, by omega, rfl, fun _ _ h => absurd h (by omega), HB.out, Bk.out⟩
      case round =>
        obtain ⟨k, hk, rfl, HQ, HB, Bk⟩ := hrel
        have pk : wr.cell? ⟨w.heap.size, 4, none⟩ = some (.slice a5 l5 y5) := cellK Bk.out 4
        have pkl : w.heap.size < wr.heap.size := lt_of_some Bk.out
        by_cases hlt : k < l5
        · obtain ⟨b, o, p, rfl, hb, hx, hat⟩ := pd_at (HR.out.p.below HB.out) hlt
          obtain ⟨va, vl, vc, hvr, z0, z2, z4, c0, c1, c2, c3, c4, c5⟩ := pd_cells hat
          have HXp := hidK hx
          have HTp := hidK hvr
          have HZp0 := hidK z0
          have HZp2 := hidK z2
          have HZp4 := hidK z4
          clear hat hx z0 z2 z4 hvr
          by_cases hp2 : p.p = 2
          rotate_left
          · have HP2 := hidK hp2
            have hp3 : (p.p == 2) = false := by simpa using hp2
            have hszv1 : (wr.alloc (.cells #[.string p.n, .int .i64 p.c, .string p.z, .slice va vl vc, .string p.d, .int .i64 p.p] 89)).heap.size = wr.heap.size + 1 := by simp
            have Gk : Hid ((wr.alloc (.cells #[.string p.n, .int .i64 p.c, .string p.z, .slice va vl vc, .string p.d, .int .i64 p.p] 89)).heap[w.heap.size]? = some (.cells #[.slice a1 l1 y1, .slice a2 l2 y2, .slice a3 l3 y3, .slice a4 l4 y4, .slice (some ⟨b, o, none⟩) l5 y5, .int .i64 c.now] 38 (0, 0))) := (Below.heap_alloc _ _ _ (lt_of_some Bk.out)).trans (Bk.out)
            have Gr : Hid ((wr.alloc (.cells #[.string p.n, .int .i64 p.c, .string p.z, .slice va vl vc, .string p.d, .int .i64 p.p] 89)).heap[wr.heap.size]? = some (.cells #[.string p.n, .int .i64 p.c, .string p.z, .slice va vl vc, .string p.d, .int .i64 p.p] 89 (0, 0))) := Array.getElem?_push_size
            have HW : Hid (Below w.heap.size w (wr.alloc (.cells #[.string p.n, .int .i64 p.c, .string p.z, .slice va vl vc, .string p.d, .int .i64 p.p] 89))) := (HB.out.trans ((below1 _ _).mono HB.out.size))
            have k0 := fun q : Wd (wr.alloc (.cells #[.string p.n, .int .i64 p.c, .string p.z, .slice va vl vc, .string p.d, .int .i64 p.p] 89)) => q.slot (o := 0) Gk.out rfl
            have k1 := fun q : Wd (wr.alloc (.cells #[.string p.n, .int .i64 p.c, .string p.z, .slice va vl vc, .string p.d, .int .i64 p.p] 89)) => q.slot (o := 1) Gk.out rfl
            have k2 := fun q : Wd (wr.alloc (.cells #[.string p.n, .int .i64 p.c, .string p.z, .slice va vl vc, .string p.d, .int .i64 p.p] 89)) => q.slot (o := 2) Gk.out rfl
            have k3 := fun q : Wd (wr.alloc (.cells #[.string p.n, .int .i64 p.c, .string p.z, .slice va vl vc, .string p.d, .int .i64 p.p] 89)) => q.slot (o := 3) Gk.out rfl
            have k4 := fun q : Wd (wr.alloc (.cells #[.string p.n, .int .i64 p.c, .string p.z, .slice va vl vc, .string p.d, .int .i64 p.p] 89)) => q.slot (o := 4) Gk.out rfl
            have k5 := fun q : Wd (wr.alloc (.cells #[.string p.n, .int .i64 p.c, .string p.z, .slice va vl vc, .string p.d, .int .i64 p.p] 89)) => q.slot (o := 5) Gk.out rfl
            have r0 := fun q : Wd (wr.alloc (.cells #[.string p.n, .int .i64 p.c, .string p.z, .slice va vl vc, .string p.d, .int .i64 p.p] 89)) => q.slot (o := 0) Gr.out rfl
            have r1 := fun q : Wd (wr.alloc (.cells #[.string p.n, .int .i64 p.c, .string p.z, .slice va vl vc, .string p.d, .int .i64 p.p] 89)) => q.slot (o := 1) Gr.out rfl
            have r2 := fun q : Wd (wr.alloc (.cells #[.string p.n, .int .i64 p.c, .string p.z, .slice va vl vc, .string p.d, .int .i64 p.p] 89)) => q.slot (o := 2) Gr.out rfl
            have r3 := fun q : Wd (wr.alloc (.cells #[.string p.n, .int .i64 p.c, .string p.z, .slice va vl vc, .string p.d, .int .i64 p.p] 89)) => q.slot (o := 3) Gr.out rfl
            have r4 := fun q : Wd (wr.alloc (.cells #[.string p.n, .int .i64 p.c, .string p.z, .slice va vl vc, .string p.d, .int .i64 p.p] 89)) => q.slot (o := 4) Gr.out rfl
            have r5 := fun q : Wd (wr.alloc (.cells #[.string p.n, .int .i64 p.c, .string p.z, .slice va vl vc, .string p.d, .int .i64 p.p] 89)) => q.slot (o := 5) Gr.out rfl
            have hne0 := Wd.ne (wr.alloc (.cells #[.string p.n, .int .i64 p.c, .string p.z, .slice va vl vc, .string p.d, .int .i64 p.p] 89))
            go_wp2_with fail
            refine wp_region_wide (by kernel_rfl) (by kernel_rfl) ?_
            repeat (go_big_quiet_step (first | fail))
            refine wpQuiet_nil ?_
            rintro _ ⟨q1, rfl⟩
            have HB1 := upB HW q1.b
            have Ck := upK Gk q1.b
            have Cr := upK Gr q1.b
            clear hne0 HW HB k0 k1 k2 k3 k4 k5 r0 r1 r2 r3 r4 r5 Gk Gr Bk hszv1 pk pkl hb c0 c1 c2 c3 c4 c5
            have HB := HB1
            clear HB1
            have Bk := Ck
            clear Ck
            have Br := Cr
            clear Cr
            clear hp2 hp3
            go_wp2_with fail
            refine ⟨⟨k + 1, by omega, by go_num, fun j z hj hz => ?_, HB.out, Bk.out⟩, by simp [intOf]; omega⟩
            by_cases e : j = k
            · subst e
              rw [HXp.out] at hz
              obtain rfl := Option.some.inj hz
              exact fun h => absurd h HP2.out
            · exact HQ.out j z (by omega) hz
          have HP2 := hidK hp2
          obtain ⟨⟨j1, n, h1, h2⟩, hbd⟩ := HRun.out k p HXp.out hp2
          rw [hp2] at c5
          clear hp2
          have HBD := hidK hbd
          have hl1' : j1 < l1 := by have h3 := (List.getElem?_eq_some_iff.1 h1).1; omega
          obtain ⟨b1, o1, n', rfl, hb1n, hn', hat⟩ := nd_at HR.out.n hl1'
          rw [h1] at hn'
          obtain rfl := Option.some.inj hn'
          obtain ⟨na, nl, nc, hnr, z0, z1, d0, d1, d2, d3, d4, d5, d6⟩ := nd_cells hat
          have HJn := hidK h1
          have HNn := hidK h2
          have e5 := (cell_below HB.out hb1n).trans d5
          have hbn : b1 < wr.heap.size := Nat.lt_of_lt_of_le hb1n HB.out.size
          clear hn' hat hnr z0 z1 d0 d1 d2 d3 d4 d5 d6 h1 h2 hb1n hbd
          rcases Bool.eq_false_or_eq_true n.d with hd | hd
          · have HDd := hidK hd
            rw [hd] at e5
            clear hd
            have hbnv : b1 < (wr.alloc (.cells #[.string p.n, .int .i64 p.c, .string p.z, .slice va vl vc, .string p.d, .int .i64 2] 89)).heap.size := by simp; omega
            have e5v := (cell_below (below1 wr (.cells #[.string p.n, .int .i64 p.c, .string p.z, .slice va vl vc, .string p.d, .int .i64 2] 89)) hbn).trans e5
            have hszv1 : (wr.alloc (.cells #[.string p.n, .int .i64 p.c, .string p.z, .slice va vl vc, .string p.d, .int .i64 2] 89)).heap.size = wr.heap.size + 1 := by simp
            have Gk : Hid ((wr.alloc (.cells #[.string p.n, .int .i64 p.c, .string p.z, .slice va vl vc, .string p.d, .int .i64 2] 89)).heap[w.heap.size]? = some (.cells #[.slice (some ⟨b1, o1, none⟩) l1 y1, .slice a2 l2 y2, .slice a3 l3 y3, .slice a4 l4 y4, .slice (some ⟨b, o, none⟩) l5 y5, .int .i64 c.now] 38 (0, 0))) := (Below.heap_alloc _ _ _ (lt_of_some Bk.out)).trans (Bk.out)
            have Gr : Hid ((wr.alloc (.cells #[.string p.n, .int .i64 p.c, .string p.z, .slice va vl vc, .string p.d, .int .i64 2] 89)).heap[wr.heap.size]? = some (.cells #[.string p.n, .int .i64 p.c, .string p.z, .slice va vl vc, .string p.d, .int .i64 2] 89 (0, 0))) := Array.getElem?_push_size
            have HW : Hid (Below w.heap.size w (wr.alloc (.cells #[.string p.n, .int .i64 p.c, .string p.z, .slice va vl vc, .string p.d, .int .i64 2] 89))) := (HB.out.trans ((below1 _ _).mono HB.out.size))
            have k0 := fun q : Wd (wr.alloc (.cells #[.string p.n, .int .i64 p.c, .string p.z, .slice va vl vc, .string p.d, .int .i64 2] 89)) => q.slot (o := 0) Gk.out rfl
            have k1 := fun q : Wd (wr.alloc (.cells #[.string p.n, .int .i64 p.c, .string p.z, .slice va vl vc, .string p.d, .int .i64 2] 89)) => q.slot (o := 1) Gk.out rfl
            have k2 := fun q : Wd (wr.alloc (.cells #[.string p.n, .int .i64 p.c, .string p.z, .slice va vl vc, .string p.d, .int .i64 2] 89)) => q.slot (o := 2) Gk.out rfl
            have k3 := fun q : Wd (wr.alloc (.cells #[.string p.n, .int .i64 p.c, .string p.z, .slice va vl vc, .string p.d, .int .i64 2] 89)) => q.slot (o := 3) Gk.out rfl
            have k4 := fun q : Wd (wr.alloc (.cells #[.string p.n, .int .i64 p.c, .string p.z, .slice va vl vc, .string p.d, .int .i64 2] 89)) => q.slot (o := 4) Gk.out rfl
            have k5 := fun q : Wd (wr.alloc (.cells #[.string p.n, .int .i64 p.c, .string p.z, .slice va vl vc, .string p.d, .int .i64 2] 89)) => q.slot (o := 5) Gk.out rfl
            have r0 := fun q : Wd (wr.alloc (.cells #[.string p.n, .int .i64 p.c, .string p.z, .slice va vl vc, .string p.d, .int .i64 2] 89)) => q.slot (o := 0) Gr.out rfl
            have r1 := fun q : Wd (wr.alloc (.cells #[.string p.n, .int .i64 p.c, .string p.z, .slice va vl vc, .string p.d, .int .i64 2] 89)) => q.slot (o := 1) Gr.out rfl
            have r2 := fun q : Wd (wr.alloc (.cells #[.string p.n, .int .i64 p.c, .string p.z, .slice va vl vc, .string p.d, .int .i64 2] 89)) => q.slot (o := 2) Gr.out rfl
            have r3 := fun q : Wd (wr.alloc (.cells #[.string p.n, .int .i64 p.c, .string p.z, .slice va vl vc, .string p.d, .int .i64 2] 89)) => q.slot (o := 3) Gr.out rfl
            have r4 := fun q : Wd (wr.alloc (.cells #[.string p.n, .int .i64 p.c, .string p.z, .slice va vl vc, .string p.d, .int .i64 2] 89)) => q.slot (o := 4) Gr.out rfl
            have r5 := fun q : Wd (wr.alloc (.cells #[.string p.n, .int .i64 p.c, .string p.z, .slice va vl vc, .string p.d, .int .i64 2] 89)) => q.slot (o := 5) Gr.out rfl
            have nw : ∀ q : Wd (wr.alloc (.cells #[.string p.n, .int .i64 p.c, .string p.z, .slice va vl vc, .string p.d, .int .i64 2] 89)), q.w.cell? ⟨b1, o1 + j1 * 7 + 5, none⟩ = some (.bool true) := fun q => (q.cell (hbnv)).trans (e5v)
            have hne0 := Wd.ne (wr.alloc (.cells #[.string p.n, .int .i64 p.c, .string p.z, .slice va vl vc, .string p.d, .int .i64 2] 89))
            have HC0 := hidK (fun q : Wd (wr.alloc (.cells #[.string p.n, .int .i64 p.c, .string p.z, .slice va vl vc, .string p.d, .int .i64 2] 89)) => sxnd_hit ⟨(some ⟨b1, o1, none⟩), l1, y1, a2, l2, y2, a3, l3, y3, a4, l4, y4, (some ⟨b, o, none⟩), l5, y5⟩ c.now c.ns p.d q.w (HR.out.n.below (HW.out.trans (q.b.mono HW.out.size))) HNR.out HJn.out HNn.out)
            go_wp2_with fail
            refine wp_region_wide (by kernel_rfl) (by kernel_rfl) ?_
            repeat (go_big_quiet_step (first | (go_at_call 19; exact Calls.wide (HC0.out _)) | fail))
            refine wpQuiet_nil ?_
            rintro _ ⟨q1, rfl⟩
            have HB1 := upB HW q1.b
            have Ck := upK Gk q1.b
            have Cr := upK Gr q1.b
            clear hne0 HW HB HC0 k0 k1 k2 k3 k4 k5 r0 r1 r2 r3 r4 r5 nw Gk Gr Bk hszv1 pk pkl hb hbn e5 hbnv e5v c0 c1 c2 c3 c4 c5
            have HB := HB1
            clear HB1
            have Bk := Ck
            clear Ck
            have Br := Cr
            clear Cr
            go_wp2
            go_ret
            refine BoolB.f (fun h => ?_) HB.out
            obtain ⟨i, m, e1, e2, e3, _⟩ := (h.2 k p HXp.out) HP2.out
            obtain ⟨_, rfl⟩ := HNR.out.inj e1 HJn.out (e2.trans HNn.out.symm)
            rw [HDd.out] at e3
            cases e3
          · by_cases hal : AllS c p n
            · have HAl := hidK hal
              clear hal
              have HDd := hidK hd
              rw [hd] at e5
              clear hd
              have hbnv : b1 < (wr.alloc (.cells #[.string p.n, .int .i64 p.c, .string p.z, .slice va vl vc, .string p.d, .int .i64 2] 89)).heap.size := by simp; omega
              have e5v := (cell_below (below1 wr (.cells #[.string p.n, .int .i64 p.c, .string p.z, .slice va vl vc, .string p.d, .int .i64 2] 89)) hbn).trans e5
              have HCA : Hid (∀ q : Wd (wr.alloc (.cells #[.string p.n, .int .i64 p.c, .string p.z, .slice va vl vc, .string p.d, .int .i64 2] 89)), Calls Tryz.prog 82 #[.agg #[.slice (some ⟨b1, o1, none⟩) l1 y1, .slice a2 l2 y2, .slice a3 l3 y3, .slice a4 l4 y4, .slice (some ⟨b, o, none⟩) l5 y5, .int .i64 c.now], .agg #[.string p.n, .int .i64 p.c, .string p.z, .slice va vl vc, .string p.d, .int .i64 2]] q.w fun e w' => e = .returned (.bool true) ∧ Below q.w.heap.size q.w w') := by
                intro q
                have h0 := (sall_any ⟨(some ⟨b1, o1, none⟩), l1, y1, a2, l2, y2, a3, l3, y3, a4, l4, y4, (some ⟨b, o, none⟩), l5, y5⟩ c p va vl vc j1 n q.w (HR.out.below (HB.out.trans (((below1 wr _).trans (q.b.mono (by simp))).mono HB.out.size))) HNR.out HX.out HV.out HNE.out (HTp.out.below ((below1 wr _).trans (q.b.mono (by simp)))) HJn.out HNn.out HBD.out).mono (fun _ _ h => BoolB.yes h HAl.out)
                rw [HP2.out] at h0
                exact h0
              have hszv1 : (wr.alloc (.cells #[.string p.n, .int .i64 p.c, .string p.z, .slice va vl vc, .string p.d, .int .i64 2] 89)).heap.size = wr.heap.size + 1 := by simp
              have Gk : Hid ((wr.alloc (.cells #[.string p.n, .int .i64 p.c, .string p.z, .slice va vl vc, .string p.d, .int .i64 2] 89)).heap[w.heap.size]? = some (.cells #[.slice (some ⟨b1, o1, none⟩) l1 y1, .slice a2 l2 y2, .slice a3 l3 y3, .slice a4 l4 y4, .slice (some ⟨b, o, none⟩) l5 y5, .int .i64 c.now] 38 (0, 0))) := (Below.heap_alloc _ _ _ (lt_of_some Bk.out)).trans (Bk.out)
              have Gr : Hid ((wr.alloc (.cells #[.string p.n, .int .i64 p.c, .string p.z, .slice va vl vc, .string p.d, .int .i64 2] 89)).heap[wr.heap.size]? = some (.cells #[.string p.n, .int .i64 p.c, .string p.z, .slice va vl vc, .string p.d, .int .i64 2] 89 (0, 0))) := Array.getElem?_push_size
              have HW : Hid (Below w.heap.size w (wr.alloc (.cells #[.string p.n, .int .i64 p.c, .string p.z, .slice va vl vc, .string p.d, .int .i64 2] 89))) := (HB.out.trans ((below1 _ _).mono HB.out.size))
              have k0 := fun q : Wd (wr.alloc (.cells #[.string p.n, .int .i64 p.c, .string p.z, .slice va vl vc, .string p.d, .int .i64 2] 89)) => q.slot (o := 0) Gk.out rfl
              have k1 := fun q : Wd (wr.alloc (.cells #[.string p.n, .int .i64 p.c, .string p.z, .slice va vl vc, .string p.d, .int .i64 2] 89)) => q.slot (o := 1) Gk.out rfl
              have k2 := fun q : Wd (wr.alloc (.cells #[.string p.n, .int .i64 p.c, .string p.z, .slice va vl vc, .string p.d, .int .i64 2] 89)) => q.slot (o := 2) Gk.out rfl
              have k3 := fun q : Wd (wr.alloc (.cells #[.string p.n, .int .i64 p.c, .string p.z, .slice va vl vc, .string p.d, .int .i64 2] 89)) => q.slot (o := 3) Gk.out rfl
              have k4 := fun q : Wd (wr.alloc (.cells #[.string p.n, .int .i64 p.c, .string p.z, .slice va vl vc, .string p.d, .int .i64 2] 89)) => q.slot (o := 4) Gk.out rfl
              have k5 := fun q : Wd (wr.alloc (.cells #[.string p.n, .int .i64 p.c, .string p.z, .slice va vl vc, .string p.d, .int .i64 2] 89)) => q.slot (o := 5) Gk.out rfl
              have r0 := fun q : Wd (wr.alloc (.cells #[.string p.n, .int .i64 p.c, .string p.z, .slice va vl vc, .string p.d, .int .i64 2] 89)) => q.slot (o := 0) Gr.out rfl
              have r1 := fun q : Wd (wr.alloc (.cells #[.string p.n, .int .i64 p.c, .string p.z, .slice va vl vc, .string p.d, .int .i64 2] 89)) => q.slot (o := 1) Gr.out rfl
              have r2 := fun q : Wd (wr.alloc (.cells #[.string p.n, .int .i64 p.c, .string p.z, .slice va vl vc, .string p.d, .int .i64 2] 89)) => q.slot (o := 2) Gr.out rfl
              have r3 := fun q : Wd (wr.alloc (.cells #[.string p.n, .int .i64 p.c, .string p.z, .slice va vl vc, .string p.d, .int .i64 2] 89)) => q.slot (o := 3) Gr.out rfl
              have r4 := fun q : Wd (wr.alloc (.cells #[.string p.n, .int .i64 p.c, .string p.z, .slice va vl vc, .string p.d, .int .i64 2] 89)) => q.slot (o := 4) Gr.out rfl
              have r5 := fun q : Wd (wr.alloc (.cells #[.string p.n, .int .i64 p.c, .string p.z, .slice va vl vc, .string p.d, .int .i64 2] 89)) => q.slot (o := 5) Gr.out rfl
              have nw : ∀ q : Wd (wr.alloc (.cells #[.string p.n, .int .i64 p.c, .string p.z, .slice va vl vc, .string p.d, .int .i64 2] 89)), q.w.cell? ⟨b1, o1 + j1 * 7 + 5, none⟩ = some (.bool false) := fun q => (q.cell (hbnv)).trans (e5v)
              have hne0 := Wd.ne (wr.alloc (.cells #[.string p.n, .int .i64 p.c, .string p.z, .slice va vl vc, .string p.d, .int .i64 2] 89))
              have HC0 := hidK (fun q : Wd (wr.alloc (.cells #[.string p.n, .int .i64 p.c, .string p.z, .slice va vl vc, .string p.d, .int .i64 2] 89)) => sxnd_hit ⟨(some ⟨b1, o1, none⟩), l1, y1, a2, l2, y2, a3, l3, y3, a4, l4, y4, (some ⟨b, o, none⟩), l5, y5⟩ c.now c.ns p.d q.w (HR.out.n.below (HW.out.trans (q.b.mono HW.out.size))) HNR.out HJn.out HNn.out)
              have HC1 := hidK (fun q : Wd (wr.alloc (.cells #[.string p.n, .int .i64 p.c, .string p.z, .slice va vl vc, .string p.d, .int .i64 2] 89)) => HCA.out q)
              go_wp2_with fail
              refine wp_region_wide (by kernel_rfl) (by kernel_rfl) ?_
              repeat (go_big_quiet_step (first | (go_at_call 19; exact Calls.wide (HC0.out _)) | (go_at_call 82; exact Calls.wide (HC1.out _)) | fail))
              refine wpQuiet_nil ?_
              rintro _ ⟨q1, rfl⟩
              have HB1 := upB HW q1.b
              have Ck := upK Gk q1.b
              have Cr := upK Gr q1.b
              clear hne0 HW HB HC0 HC1 k0 k1 k2 k3 k4 k5 r0 r1 r2 r3 r4 r5 nw Gk Gr Bk hszv1 pk pkl hb hbn e5 hbnv e5v c0 c1 c2 c3 c4 c5
              have HB := HB1
              clear HB1
              have Bk := Ck
              clear Ck
              have Br := Cr
              clear Cr
              go_wp2_with fail
              refine ⟨⟨k + 1, by omega, by go_num, fun j z hj hz => ?_, HB.out, Bk.out⟩, by simp [intOf]; omega⟩
              by_cases e : j = k
              · subst e
                rw [HXp.out] at hz
                obtain rfl := Option.some.inj hz
                exact fun _ => ⟨j1, n, HJn.out, HNn.out, HDd.out, HAl.out⟩
              · exact HQ.out j z (by omega) hz
            · have HAl := hidK hal
              clear hal
              have HDd := hidK hd
              rw [hd] at e5
              clear hd
              have hbnv : b1 < (wr.alloc (.cells #[.string p.n, .int .i64 p.c, .string p.z, .slice va vl vc, .string p.d, .int .i64 2] 89)).heap.size := by simp; omega
              have e5v := (cell_below (below1 wr (.cells #[.string p.n, .int .i64 p.c, .string p.z, .slice va vl vc, .string p.d, .int .i64 2] 89)) hbn).trans e5
              have HCA : Hid (∀ q : Wd (wr.alloc (.cells #[.string p.n, .int .i64 p.c, .string p.z, .slice va vl vc, .string p.d, .int .i64 2] 89)), Calls Tryz.prog 82 #[.agg #[.slice (some ⟨b1, o1, none⟩) l1 y1, .slice a2 l2 y2, .slice a3 l3 y3, .slice a4 l4 y4, .slice (some ⟨b, o, none⟩) l5 y5, .int .i64 c.now], .agg #[.string p.n, .int .i64 p.c, .string p.z, .slice va vl vc, .string p.d, .int .i64 2]] q.w fun e w' => e = .returned (.bool false) ∧ Below q.w.heap.size q.w w') := by
                intro q
                have h0 := (sall_any ⟨(some ⟨b1, o1, none⟩), l1, y1, a2, l2, y2, a3, l3, y3, a4, l4, y4, (some ⟨b, o, none⟩), l5, y5⟩ c p va vl vc j1 n q.w (HR.out.below (HB.out.trans (((below1 wr _).trans (q.b.mono (by simp))).mono HB.out.size))) HNR.out HX.out HV.out HNE.out (HTp.out.below ((below1 wr _).trans (q.b.mono (by simp)))) HJn.out HNn.out HBD.out).mono (fun _ _ h => BoolB.no h HAl.out)
                rw [HP2.out] at h0
                exact h0
              have hszv1 : (wr.alloc (.cells #[.string p.n, .int .i64 p.c, .string p.z, .slice va vl vc, .string p.d, .int .i64 2] 89)).heap.size = wr.heap.size + 1 := by simp
              have Gk : Hid ((wr.alloc (.cells #[.string p.n, .int .i64 p.c, .string p.z, .slice va vl vc, .string p.d, .int .i64 2] 89)).heap[w.heap.size]? = some (.cells #[.slice (some ⟨b1, o1, none⟩) l1 y1, .slice a2 l2 y2, .slice a3 l3 y3, .slice a4 l4 y4, .slice (some ⟨b, o, none⟩) l5 y5, .int .i64 c.now] 38 (0, 0))) := (Below.heap_alloc _ _ _ (lt_of_some Bk.out)).trans (Bk.out)
              have Gr : Hid ((wr.alloc (.cells #[.string p.n, .int .i64 p.c, .string p.z, .slice va vl vc, .string p.d, .int .i64 2] 89)).heap[wr.heap.size]? = some (.cells #[.string p.n, .int .i64 p.c, .string p.z, .slice va vl vc, .string p.d, .int .i64 2] 89 (0, 0))) := Array.getElem?_push_size
              have HW : Hid (Below w.heap.size w (wr.alloc (.cells #[.string p.n, .int .i64 p.c, .string p.z, .slice va vl vc, .string p.d, .int .i64 2] 89))) := (HB.out.trans ((below1 _ _).mono HB.out.size))
              have k0 := fun q : Wd (wr.alloc (.cells #[.string p.n, .int .i64 p.c, .string p.z, .slice va vl vc, .string p.d, .int .i64 2] 89)) => q.slot (o := 0) Gk.out rfl
              have k1 := fun q : Wd (wr.alloc (.cells #[.string p.n, .int .i64 p.c, .string p.z, .slice va vl vc, .string p.d, .int .i64 2] 89)) => q.slot (o := 1) Gk.out rfl
              have k2 := fun q : Wd (wr.alloc (.cells #[.string p.n, .int .i64 p.c, .string p.z, .slice va vl vc, .string p.d, .int .i64 2] 89)) => q.slot (o := 2) Gk.out rfl
              have k3 := fun q : Wd (wr.alloc (.cells #[.string p.n, .int .i64 p.c, .string p.z, .slice va vl vc, .string p.d, .int .i64 2] 89)) => q.slot (o := 3) Gk.out rfl
              have k4 := fun q : Wd (wr.alloc (.cells #[.string p.n, .int .i64 p.c, .string p.z, .slice va vl vc, .string p.d, .int .i64 2] 89)) => q.slot (o := 4) Gk.out rfl
              have k5 := fun q : Wd (wr.alloc (.cells #[.string p.n, .int .i64 p.c, .string p.z, .slice va vl vc, .string p.d, .int .i64 2] 89)) => q.slot (o := 5) Gk.out rfl
              have r0 := fun q : Wd (wr.alloc (.cells #[.string p.n, .int .i64 p.c, .string p.z, .slice va vl vc, .string p.d, .int .i64 2] 89)) => q.slot (o := 0) Gr.out rfl
              have r1 := fun q : Wd (wr.alloc (.cells #[.string p.n, .int .i64 p.c, .string p.z, .slice va vl vc, .string p.d, .int .i64 2] 89)) => q.slot (o := 1) Gr.out rfl
              have r2 := fun q : Wd (wr.alloc (.cells #[.string p.n, .int .i64 p.c, .string p.z, .slice va vl vc, .string p.d, .int .i64 2] 89)) => q.slot (o := 2) Gr.out rfl
              have r3 := fun q : Wd (wr.alloc (.cells #[.string p.n, .int .i64 p.c, .string p.z, .slice va vl vc, .string p.d, .int .i64 2] 89)) => q.slot (o := 3) Gr.out rfl
              have r4 := fun q : Wd (wr.alloc (.cells #[.string p.n, .int .i64 p.c, .string p.z, .slice va vl vc, .string p.d, .int .i64 2] 89)) => q.slot (o := 4) Gr.out rfl
              have r5 := fun q : Wd (wr.alloc (.cells #[.string p.n, .int .i64 p.c, .string p.z, .slice va vl vc, .string p.d, .int .i64 2] 89)) => q.slot (o := 5) Gr.out rfl
              have nw : ∀ q : Wd (wr.alloc (.cells #[.string p.n, .int .i64 p.c, .string p.z, .slice va vl vc, .string p.d, .int .i64 2] 89)), q.w.cell? ⟨b1, o1 + j1 * 7 + 5, none⟩ = some (.bool false) := fun q => (q.cell (hbnv)).trans (e5v)
              have hne0 := Wd.ne (wr.alloc (.cells #[.string p.n, .int .i64 p.c, .string p.z, .slice va vl vc, .string p.d, .int .i64 2] 89))
              have HC0 := hidK (fun q : Wd (wr.alloc (.cells #[.string p.n, .int .i64 p.c, .string p.z, .slice va vl vc, .string p.d, .int .i64 2] 89)) => sxnd_hit ⟨(some ⟨b1, o1, none⟩), l1, y1, a2, l2, y2, a3, l3, y3, a4, l4, y4, (some ⟨b, o, none⟩), l5, y5⟩ c.now c.ns p.d q.w (HR.out.n.below (HW.out.trans (q.b.mono HW.out.size))) HNR.out HJn.out HNn.out)
              have HC1 := hidK (fun q : Wd (wr.alloc (.cells #[.string p.n, .int .i64 p.c, .string p.z, .slice va vl vc, .string p.d, .int .i64 2] 89)) => HCA.out q)
              go_wp2_with fail
              refine wp_region_wide (by kernel_rfl) (by kernel_rfl) ?_
              repeat (go_big_quiet_step (first | (go_at_call 19; exact Calls.wide (HC0.out _)) | (go_at_call 82; exact Calls.wide (HC1.out _)) | fail))
              refine wpQuiet_nil ?_
              rintro _ ⟨q1, rfl⟩
              have HB1 := upB HW q1.b
              have Ck := upK Gk q1.b
              have Cr := upK Gr q1.b
              clear hne0 HW HB HC0 HC1 k0 k1 k2 k3 k4 k5 r0 r1 r2 r3 r4 r5 nw Gk Gr Bk hszv1 pk pkl hb hbn e5 hbnv e5v c0 c1 c2 c3 c4 c5
              have HB := HB1
              clear HB1
              have Bk := Ck
              clear Ck
              have Br := Cr
              clear Cr
              go_wp2
              go_ret
              refine BoolB.f (fun h => ?_) HB.out
              obtain ⟨i, m, e1, e2, e3, e4⟩ := (h.2 k p HXp.out) HP2.out
              obtain ⟨_, rfl⟩ := HNR.out.inj e1 HJn.out (e2.trans HNn.out.symm)
              exact HAl.out e4
        · obtain rfl : l5 = k := by omega
          go_wp2
          go_ret
          exact BoolB.t ⟨HQ1.out, fun j z hz => HQ.out j z (by have := (List.getElem?_eq_some_iff.1 hz).1; omega) hz⟩ HB.out

theorem hit_iff {α : Type} {nm : α → ByteArray} {xs : List α} {t : ByteArray} (h : RisBy nm xs) : hit nm xs t = true ↔ ∃ (i : Nat) (x : α), xs[i]? = some x ∧ nm x = t := by
  constructor
  · intro e
    obtain ⟨x, h1, h2⟩ := hit_yes e
    exact ⟨_, x, h1, h2⟩
  · rintro ⟨i, x, h1, h2⟩
    exact (hit_at h h1 h2).2
theorem bound_iff {c : Cl} (h : RowsOk c) : BoundI c ↔ BoundS c := by
  have hk := h.2.1.2.2
  have hv := h.2.2.1.2.2
  have hx := h.2.2.2.1.2.2
  constructor
  · rintro ⟨h1, h2⟩
    refine ⟨fun j v e => ?_, fun j x e => ?_⟩
    · obtain ⟨a, b⟩ := h1 j v e
      refine ⟨(hit_iff hk).1 a, b.imp id ?_⟩
      rintro ⟨i, j', x, v', e1, e2, e3, e4, e5, e6, _⟩
      exact ⟨i, x, e1, e2, e5⟩
    · obtain ⟨a, b⟩ := h2 j x e
      refine ⟨(hit_iff hk).1 a, b.imp id ?_⟩
      rintro ⟨i, j', x', v', e1, e2, e3, e4, e5, e6, e7, e8, e9⟩
      obtain ⟨_, rfl⟩ := hx.inj e1 e e2
      exact ⟨j', v', e3, e4, e6, e7, e8, e9⟩
  · rintro ⟨h1, h2⟩
    refine ⟨fun j v e => ?_, fun j x e => ?_⟩
    · obtain ⟨a, b⟩ := h1 j v e
      refine ⟨(hit_iff hk).2 a, b.imp id ?_⟩
      rintro ⟨i, x, e1, e2, e3⟩
      have hne : ¬ x.v = ⟨#[]⟩ := fun q => h.ne j v e (e3.symm.trans q)
      obtain ⟨_, b2⟩ := h2 i x e1
      rcases b2 with b2 | ⟨j', v', f1, f2, f3, f4, f5, f6⟩
      · exact absurd b2 hne
      obtain ⟨_, rfl⟩ := hv.inj f1 e (f2.trans e3)
      exact ⟨i, j, x, v', e1, e2, e, rfl, e3, rfl, f4, f5, f6⟩
    · obtain ⟨a, b⟩ := h2 j x e
      refine ⟨(hit_iff hk).2 a, b.imp id ?_⟩
      rintro ⟨j', v, e1, e2, e3, e4, e5, e6⟩
      exact ⟨j, j', x, v, e, rfl, e1, e2, rfl, e3, e4, e5, e6⟩
theorem placed_iff {c : Cl} (h : RowsOk c) (hb : BoundS c) : PlacedI c ↔ PlacedS c := by
  have hn := h.1.2.2
  have hv := h.2.2.1.2.2
  have hx := h.2.2.2.1.2.2
  have one : (∀ (j : Nat) z, c.vs[j]? = some z → PQ3 c z) ↔ ∀ (k : Nat) p, c.ps[k]? = some p → PSc c k p := by
    constructor
    · intro h3 k p hp j q hj hq
      by_cases e1 : q.d = ⟨#[]⟩
      · exact .inl e1
      by_cases e2 : p.d = ⟨#[]⟩
      · exact .inr (.inl e2)
      by_cases e3 : q.d = p.d
      · exact .inr (.inr (.inl e3))
      refine .inr (.inr (.inr fun i t ht v hbd hs hin => e3 ?_))
      obtain ⟨i1, j1, x, f1, f2, f3, f4⟩ := hbd
      have hxv : ¬ x.v = ⟨#[]⟩ := fun z => h.ne j1 v f3 (f4.trans z)
      have hvm : v.m = t := by
        rcases (hb.2 i1 x f1).2 with z | ⟨j2, v2, g1, g2, g3, _⟩
        · exact absurd z hxv
        · obtain ⟨_, rfl⟩ := hv.inj g1 f3 (g2.trans f4.symm)
          rw [g3, f2]
      have ht0 : ¬ v.m = ⟨#[]⟩ := fun z => by
        have h1 := (h.2.2.2.1.2.1 i1 x f1).1.1
        rw [f2, ← hvm, z] at h1
        exact absurd h1 (by decide)
      have := h3 j1 v f3 hs ht0
      rw [hvm] at this
      exact this j k q p hq hp e1 e2 ⟨i, ht⟩ hin
    · intro h3 j v hj hs hm i1 i2 p q hp hq d1 d2 in1 in2
      obtain ⟨i4, x, f1, f2, f3⟩ := (hb.1 j v hj).2.resolve_left hm
      have hbd : IsBd c v.m v := ⟨i4, j, x, f1, f2, hj, f3.symm⟩
      rcases Nat.lt_trichotomy i1 i2 with k | k | k
      · obtain ⟨r, hr⟩ := in1
        rcases h3 i2 q hq i1 p k hp with z | z | z | z
        · exact absurd z d1
        · exact absurd z d2
        · exact z
        · exact absurd in2 (z r v.m hr v hbd hs)
      · subst k
        rw [hp] at hq
        rw [Option.some.inj hq]
      · obtain ⟨r, hr⟩ := in2
        rcases h3 i1 p hp i2 q k hq with z | z | z | z
        · exact absurd z d2
        · exact absurd z d1
        · exact z.symm
        · exact absurd in1 (z r v.m hr v hbd hs)
  constructor
  · rintro ⟨h1, h2, h3⟩
    refine ⟨fun k p hp => ⟨?_, ?_, one.1 h3 k p hp⟩, h2⟩
    · rcases (h1 k p hp).2 with z | ⟨i, n, e1, e2, e3, e4⟩
      · exact .inl z
      · exact .inr ⟨i, n, e1, e2, e3.imp id Eq.symm⟩
    · intro j t ht
      refine ⟨(hit_iff hx).1 ((h1 k p hp).1 j t ht), ?_⟩
      rcases (h1 k p hp).2 with z | ⟨i, n, e1, e2, e3, e4⟩
      · exact .inl z
      · obtain ⟨v, f1, f2⟩ := e4 j t ht
        exact .inr ⟨v, i, n, f1, e1, e2, f2⟩
  · rintro ⟨h1, h2⟩
    refine ⟨fun k p hp => ⟨fun j t ht => (hit_iff hx).2 ((h1 k p hp).2.1 j t ht).1, ?_⟩, h2, one.2 (fun k p hp => (h1 k p hp).2.2)⟩
    rcases (h1 k p hp).1 with z | ⟨i, n, e1, e2, e3⟩
    · exact .inl z
    by_cases z : p.d = ⟨#[]⟩
    · exact .inl z
    refine .inr ⟨i, n, e1, e2, e3.imp id Eq.symm, fun j t ht => ?_⟩
    obtain ⟨v, i', n', f1, f2, f3, f4⟩ := ((h1 k p hp).2.1 j t ht).2.resolve_left z
    obtain ⟨_, rfl⟩ := hn.inj f2 e1 (f3.trans e2.symm)
    exact ⟨v, f1, f4⟩
theorem running {c : Cl} (h : RowsOk c) (hp : PlacedS c) (j : Nat) (p : Pd) (hj : c.ps[j]? = some p) (h2 : p.p = 2) : (∃ (i : Nat) (n : Nd), c.ns[i]? = some n ∧ n.n = p.d) ∧ ∀ (j : Nat) t, p.zs[j]? = some t → ∃ v, IsBd c t v := by
  have hd : ¬ p.d = ⟨#[]⟩ := fun e => by
    have h1 := (h.2.2.2.2.2.1 j p hj).2.2.2.2
    rcases h1 with ⟨h3, _⟩ | ⟨_, h3⟩
    · rw [h2] at h3; cases h3
    · have h4 := h3.1
      rw [e] at h4
      exact absurd h4 (by decide)
  obtain ⟨a, b, _⟩ := hp.1 j p hj
  obtain ⟨i, n, e1, e2, _⟩ := a.resolve_left hd
  refine ⟨⟨i, n, e1, e2⟩, fun k t ht => ?_⟩
  obtain ⟨v, _, _, e3, _⟩ := (b k t ht).2.resolve_left hd
  exact ⟨v, e3⟩

set_option maxRecDepth 100000 in
set_option maxHeartbeats 3200000 in
theorem sright_any (d : Ad) (c : Cl) (w : World) (hr : ClRow w d c.raw) :
    Calls Tryz.prog 18 #[.agg #[.slice d.a1 d.l1 d.c1, .slice d.a2 d.l2 d.c2, .slice d.a3 d.l3 d.c3, .slice d.a4 d.l4 d.c4, .slice d.a5 d.l5 d.c5, .int .i64 c.now]] w (BoolB (RightI c) w) := by
  have HR := hidK hr
  have HB := hidK (Below.refl w.heap.size w)
  clear hr
  go_enter Tryz.func18, Tryz.ntmps18
  go_wp2_with fail
  refine (ktime_any c.now _).mono ?_
  rintro e w1 ⟨r, rfl, hi, hw⟩
  have hb : Below (w.alloc (.cells #[.slice d.a1 d.l1 d.c1, .slice d.a2 d.l2 d.c2, .slice d.a3 d.l3 d.c3, .slice d.a4 d.l4 d.c4, .slice d.a5 d.l5 d.c5, .int .i64 c.now] 38)).heap.size (w.alloc (.cells #[.slice d.a1 d.l1 d.c1, .slice d.a2 d.l2 d.c2, .slice d.a3 d.l3 d.c3, .slice d.a4 d.l4 d.c4, .slice d.a5 d.l5 d.c5, .int .i64 c.now] 38)) w1 := by first | (rw [hw]; exact Below.refl _ _) | (rw [← hw]; exact Below.refl _ _)
  clear hw
  obtain ⟨HA0, hbx⟩ := slots1 hb
  have Bk := hidK HA0
  replace HB := upB HB hbx
  clear hb hbx HA0
  have HI1 := hidK hi
  clear hi
  cases r
  · obtain ⟨k0, k1, k2, k3, k4, k5⟩ := cs6 Bk.out
    have ltk_1 := lt_of_some Bk.out
    go_wp2
    go_ret
    exact BoolB.f (fun h => by have := HI1.out.2 h.1; cases this) HB.out
  obtain ⟨k0, k1, k2, k3, k4, k5⟩ := cs6 Bk.out
  have ltk_1 := lt_of_some Bk.out
  go_wp2_with fail
  refine (seach_any d c _ (HR.out.below HB.out)).mono ?_
  rintro e w2 ⟨r, rfl, hi, hb⟩
  clear k0 k1 k2 k3 k4 k5 ltk_1
  replace Bk := upK Bk hb
  replace HB := upB HB hb
  clear hb
  have HI2 := hidK hi
  clear hi
  cases r
  · obtain ⟨k0, k1, k2, k3, k4, k5⟩ := cs6 Bk.out
    have ltk_2 := lt_of_some Bk.out
    go_wp2
    go_ret
    exact BoolB.f (fun h => by have := HI2.out.2 h.2.1; cases this) HB.out
  have HOK := hidK (HI2.out.1 (by first | trivial | rfl))
  obtain ⟨k0, k1, k2, k3, k4, k5⟩ := cs6 Bk.out
  have ltk_2 := lt_of_some Bk.out
  go_wp2_with fail
  refine (sbound_any d c _ (HR.out.below HB.out) HOK.out.2.1.2.2 HOK.out.2.2.2.1.2.2 HOK.out.2.2.1.2.2).mono ?_
  rintro e w3 ⟨r, rfl, hi, hb⟩
  clear k0 k1 k2 k3 k4 k5 ltk_2
  replace Bk := upK Bk hb
  replace HB := upB HB hb
  clear hb
  have HI3 := hidK hi
  clear hi
  cases r
  · obtain ⟨k0, k1, k2, k3, k4, k5⟩ := cs6 Bk.out
    have ltk_3 := lt_of_some Bk.out
    go_wp2
    go_ret
    exact BoolB.f (fun h => by have := HI3.out.2 ((bound_iff HOK.out).1 h.2.2.1); cases this) HB.out
  have HBd := hidK (HI3.out.1 (by first | trivial | rfl))
  obtain ⟨k0, k1, k2, k3, k4, k5⟩ := cs6 Bk.out
  have ltk_3 := lt_of_some Bk.out
  go_wp2_with fail
  refine (splaced_any d c _ (HR.out.below HB.out) HOK.out.1.2.2 HOK.out.2.2.2.1.2.2 HOK.out.2.2.1.2.2 HOK.out.ne (by have := HOK.out.2.2.2.2.1; omega) HOK.out.cpu).mono ?_
  rintro e w4 ⟨r, rfl, hi, hb⟩
  clear k0 k1 k2 k3 k4 k5 ltk_3
  replace Bk := upK Bk hb
  replace HB := upB HB hb
  clear hb
  have HI4 := hidK hi
  clear hi
  cases r
  · obtain ⟨k0, k1, k2, k3, k4, k5⟩ := cs6 Bk.out
    have ltk_4 := lt_of_some Bk.out
    go_wp2
    go_ret
    exact BoolB.f (fun h => by have := HI4.out.2 ((placed_iff HOK.out HBd.out).1 h.2.2.2.1); cases this) HB.out
  have HPl := hidK (HI4.out.1 (by first | trivial | rfl))
  obtain ⟨k0, k1, k2, k3, k4, k5⟩ := cs6 Bk.out
  have ltk_4 := lt_of_some Bk.out
  go_wp2_with fail
  refine (sattached_any d c _ (HR.out.below HB.out) HOK.out.1.2.2 (by have := HOK.out.2.2.1.1; omega)).mono ?_
  rintro e w5 ⟨r, rfl, hi, hb⟩
  clear k0 k1 k2 k3 k4 k5 ltk_4
  replace Bk := upK Bk hb
  replace HB := upB HB hb
  clear hb
  have HI5 := hidK hi
  clear hi
  cases r
  · obtain ⟨k0, k1, k2, k3, k4, k5⟩ := cs6 Bk.out
    have ltk_5 := lt_of_some Bk.out
    go_wp2
    go_ret
    exact BoolB.f (fun h => by have := HI5.out.2 h.2.2.2.2.1; cases this) HB.out
  obtain ⟨k0, k1, k2, k3, k4, k5⟩ := cs6 Bk.out
  have ltk_5 := lt_of_some Bk.out
  go_wp2_with fail
  refine (smounted_any d c _ (HR.out.below HB.out) HOK.out.1.2.2 HOK.out.2.2.2.1.2.2 HOK.out.2.2.1.2.2 HOK.out.ne (running HOK.out HPl.out)).mono ?_
  rintro e w6 ⟨r, rfl, hi, hb⟩
  clear k0 k1 k2 k3 k4 k5 ltk_5
  replace Bk := upK Bk hb
  replace HB := upB HB hb
  clear hb
  have HI6 := hidK hi
  clear hi
  cases r
  · obtain ⟨k0, k1, k2, k3, k4, k5⟩ := cs6 Bk.out
    have ltk_6 := lt_of_some Bk.out
    go_wp2
    go_ret
    exact BoolB.f (fun h => by have := HI6.out.2 h.2.2.2.2.2; cases this) HB.out
  go_wp2
  go_ret
  exact BoolB.t ⟨HI1.out.1 (by first | trivial | rfl), HOK.out, (bound_iff HOK.out).2 HBd.out, (placed_iff HOK.out HBd.out).2 HPl.out, HI5.out.1 (by first | trivial | rfl), HI6.out.1 (by first | trivial | rfl)⟩ HB.out

end Rc
end Go.Proofs.YtclhdmpfponjdaaGreatDoor

namespace Go.Proofs.YtclhdmpfponjdaaGreatDoor
open Go.RowKit Go.Extern.Stop Go.Stop Go.Extern
namespace Rc

end Rc
end Go.Proofs.YtclhdmpfponjdaaGreatDoor

namespace Go.Proofs.YtclhdmpfponjdaaGreatDoor
open Go.RowKit
namespace Rc
open Mk

theorem Below.drewn {B : Nat} {w w' : World} (h : Below B w w') : Below B w w'.drew := ⟨h.os, h.tape, h.output, h.size, h.block⟩
def HasX (c : Cl) (t : ByteArray) : Prop := ∃ (i : Nat) (x : Xd), c.xs[i]? = some x ∧ x.n = t
theorem HasX.no {c : Cl} {t : ByteArray} (hr : RightI c) (h : hit Xd.n c.xs t = false) : ¬ HasX c t := fun ⟨i, x, h1, h2⟩ => by
  have := (hit_at hr.2.1.2.2.2.1.2.2 h1 h2).2
  rw [h] at this
  cases this

theorem cell_ltD {w : World} {b o : Nat} {v : Value} (h : w.cell? ⟨b, o, none⟩ = some v) : b < w.heap.size := World.block_lt_of_cell? w _ h
def nnil (w : World) (g : Nat) : Prop := ∃ T v, w.cell? ⟨g, 0, none⟩ = some (.iface T v)
theorem nnil.below {w w' : World} {g : Nat} (h : nnil w g) (hb : Below w.heap.size w w') : nnil w' g := by
  obtain ⟨T, v, h⟩ := h
  exact ⟨T, v, (cell_below hb (cell_ltD h)).trans h⟩
def Es3 (w : World) : Prop := nnil w 0 ∧ nnil w 1 ∧ nnil w 2
theorem Es3.below {w w' : World} (h : Es3 w) (hb : Below w.heap.size w w') : Es3 w' := ⟨h.1.below hb, h.2.1.below hb, h.2.2.below hb⟩
theorem Es3.ens {w : World} (h : Es3 w) : ens w := h.2.2
def AskNI (c : Cl) (t : ByteArray) (w : World) (e : Ending) (w' : World) : Prop :=
  Below w.heap.size w w' ∧ ((¬ (¬ 8000 < t.size ∧ RightI c ∧ hit Nd.n c.ns t = true) ∧ ∃ T v, e = .returned (.tuple #[.agg #[.string ⟨#[]⟩, .string ⟨#[]⟩, .int .i64 0, .int .i64 0, .int .i64 0, .bool false, .slice none 0 0], .iface T v])) ∨ ((¬ 8000 < t.size ∧ RightI c ∧ hit Nd.n c.ns t = true) ∧ ∃ (n : Nd) (va : Option Addr) (vl vc : Nat), n.n = t ∧ e = .returned (.tuple #[.agg #[.string n.n, .string n.z, .int .i64 n.c, .int .i64 n.s, .int .i64 n.u, .bool n.d, .slice va vl vc], .nilIface])))

set_option maxRecDepth 100000 in
set_option maxHeartbeats 3200000 in
theorem iaskN_any (d : Ad) (c : Cl) (t : ByteArray) (w : World) (hr : ClRow w d c.raw) (hG : Es3 w) :
    Calls Tryz.prog 26 #[.agg #[.slice d.a1 d.l1 d.c1, .slice d.a2 d.l2 d.c2, .slice d.a3 d.l3 d.c3, .slice d.a4 d.l4 d.c4, .slice d.a5 d.l5 d.c5, .int .i64 c.now], .string t] w (AskNI c t w) := by
  have HR := hidK hr
  have HE := hidK hG
  have HB := hidK (Below.refl w.heap.size w)
  clear hr hG
  by_cases hl : 8000 < t.size
  · obtain ⟨T, v, ev⟩ := (HE.out.below (below2 w (.cells #[.slice d.a1 d.l1 d.c1, .slice d.a2 d.l2 d.c2, .slice d.a3 d.l3 d.c3, .slice d.a4 d.l4 d.c4, .slice d.a5 d.l5 d.c5, .int .i64 c.now] 38) (.cells #[.string ⟨#[]⟩, .string ⟨#[]⟩, .int .i64 0, .int .i64 0, .int .i64 0, .bool false, .slice none 0 0] 58))).1
    go_enter Tryz.func26, Tryz.ntmps26
    go_wp2_with fail
    refine (long_yes t _ hl).mono ?_
    rintro e w1 ⟨rfl, rfl⟩
    go_wp2
    go_region
    go_wp2
    exact bodyPost_ret (v := .tuple #[.agg #[.string ⟨#[]⟩, .string ⟨#[]⟩, .int .i64 0, .int .i64 0, .int .i64 0, .bool false, .slice none 0 0], .iface T v]) (by simp [results, Tryz.results26, go_sem, *]) rfl ⟨Below.drewn (below2 _ _ _), .inl ⟨fun h => h.1 hl, T, v, rfl⟩⟩
  go_enter Tryz.func26, Tryz.ntmps26
  go_wp2_with fail
  refine (long_no t _ hl).mono ?_
  rintro e w1 ⟨rfl, rfl⟩
  go_wp2_with fail
  refine (iright_any d c _ (HR.out.below (HB.out.trans ((below2 _ _ _).mono HB.out.size))) (HE.out.below (HB.out.trans ((below2 _ _ _).mono HB.out.size))).ens).mono ?_
  rintro e w1 ⟨r, rfl, hi, hb⟩
  obtain ⟨HA0, HA1, hbx⟩ := slots2 hb
  have Bk := hidK HA0
  have Br := hidK HA1
  replace HB := upB HB hbx
  clear hb hbx HA0 HA1
  have HI := hidK hi
  clear hi
  cases r
  · obtain ⟨k0, k1, k2, k3, k4, k5⟩ := cs6 Bk.out
    have ltk_1 := lt_of_some Bk.out
    obtain ⟨r0, r1, r2, r3, r4, r5, r6⟩ := cs7 Br.out
    have ltr_1 := lt_of_some Br.out
    have fr0 : w1.frozen? ⟨w.heap.size + 1, 0, none⟩ = false := froK Br.out 0
    have fr1 : w1.frozen? ⟨w.heap.size + 1, 1, none⟩ = false := froK Br.out 1
    have fr2 : w1.frozen? ⟨w.heap.size + 1, 2, none⟩ = false := froK Br.out 2
    have fr3 : w1.frozen? ⟨w.heap.size + 1, 3, none⟩ = false := froK Br.out 3
    have fr4 : w1.frozen? ⟨w.heap.size + 1, 4, none⟩ = false := froK Br.out 4
    have fr5 : w1.frozen? ⟨w.heap.size + 1, 5, none⟩ = false := froK Br.out 5
    have fr6 : w1.frozen? ⟨w.heap.size + 1, 6, none⟩ = false := froK Br.out 6
    obtain ⟨T, v, ev⟩ := (HE.out.below HB.out).2.1
    have evl := cell_ltD ev
    obtain ⟨_, _, ev0⟩ := HE.out.2.1
    have evl0 := cell_ltD ev0
    clear ev0
    have evn : ¬ 1 = w.heap.size + 1 := by omega
    go_wp2
    go_region
    go_wp2
    exact bodyPost_ret (v := .tuple #[.agg #[.string ⟨#[]⟩, .string ⟨#[]⟩, .int .i64 0, .int .i64 0, .int .i64 0, .bool false, .slice none 0 0], .iface T v]) (by simp [results, Tryz.results26, go_sem, *]) rfl ⟨Below.drewn (set_below (show w.heap.size ≤ w.heap.size + 1 by omega) (set_below (show w.heap.size ≤ w.heap.size + 1 by omega) (set_below (show w.heap.size ≤ w.heap.size + 1 by omega) (set_below (show w.heap.size ≤ w.heap.size + 1 by omega) (set_below (show w.heap.size ≤ w.heap.size + 1 by omega) (set_below (show w.heap.size ≤ w.heap.size + 1 by omega) (set_below (show w.heap.size ≤ w.heap.size + 1 by omega) (HB.out)))))))), .inl ⟨fun h => (by have := HI.out.2 h.2.1; cases this), T, v, rfl⟩⟩
  have HT := hidK (HI.out.1 (by first | trivial | rfl))
  clear HI
  obtain ⟨k0, k1, k2, k3, k4, k5⟩ := cs6 Bk.out
  have ltk_1 := lt_of_some Bk.out
  go_wp2_with fail
  refine (thend_any d c.now c.ns t w _ HR.out.n HB.out).mono ?_
  rintro e w2 ⟨hb, hf⟩
  clear k0 k1 k2 k3 k4 k5 ltk_1
  replace Bk := upK Bk hb
  replace Br := upK Br hb
  replace HB := upB HB hb
  clear hb
  rcases hf with ⟨hh, n, va, vl, vc, hx, hn, rfl, z0, z1, hvr⟩ | ⟨hh, rfl⟩
  · have HX := hidK (And.intro hh hn)
    clear hx hn z0 z1 hh hvr
    obtain ⟨k0, k1, k2, k3, k4, k5⟩ := cs6 Bk.out
    have ltk_2 := lt_of_some Bk.out
    obtain ⟨r0, r1, r2, r3, r4, r5, r6⟩ := cs7 Br.out
    have ltr_2 := lt_of_some Br.out
    have fr0 : w2.frozen? ⟨w.heap.size + 1, 0, none⟩ = false := froK Br.out 0
    have fr1 : w2.frozen? ⟨w.heap.size + 1, 1, none⟩ = false := froK Br.out 1
    have fr2 : w2.frozen? ⟨w.heap.size + 1, 2, none⟩ = false := froK Br.out 2
    have fr3 : w2.frozen? ⟨w.heap.size + 1, 3, none⟩ = false := froK Br.out 3
    have fr4 : w2.frozen? ⟨w.heap.size + 1, 4, none⟩ = false := froK Br.out 4
    have fr5 : w2.frozen? ⟨w.heap.size + 1, 5, none⟩ = false := froK Br.out 5
    have fr6 : w2.frozen? ⟨w.heap.size + 1, 6, none⟩ = false := froK Br.out 6
    have hrl : w.heap.size + 1 < w2.heap.size := lt_of_some Br.out
    go_wp2
    exact bodyPost_ret (v := .tuple #[.agg #[.string n.n, .string n.z, .int .i64 n.c, .int .i64 n.s, .int .i64 n.u, .bool n.d, .slice va vl vc], .nilIface]) (by simp [results, Tryz.results26, go_sem, *]) rfl ⟨Below.alloc (set_below (show w.heap.size ≤ w.heap.size + 1 by omega) (set_below (show w.heap.size ≤ w.heap.size + 1 by omega) (set_below (show w.heap.size ≤ w.heap.size + 1 by omega) (set_below (show w.heap.size ≤ w.heap.size + 1 by omega) (set_below (show w.heap.size ≤ w.heap.size + 1 by omega) (set_below (show w.heap.size ≤ w.heap.size + 1 by omega) (set_below (show w.heap.size ≤ w.heap.size + 1 by omega) (HB.out)))))))) (by simp [World.setCell]; have := HB.out.size; omega) _, .inr ⟨⟨hl, HT.out, HX.out.1⟩, n, va, vl, vc, HX.out.2, rfl⟩⟩
  · have HH := hidK hh
    clear hh
    obtain ⟨k0, k1, k2, k3, k4, k5⟩ := cs6 Bk.out
    have ltk_2 := lt_of_some Bk.out
    obtain ⟨r0, r1, r2, r3, r4, r5, r6⟩ := cs7 Br.out
    have ltr_2 := lt_of_some Br.out
    have fr0 : w2.frozen? ⟨w.heap.size + 1, 0, none⟩ = false := froK Br.out 0
    have fr1 : w2.frozen? ⟨w.heap.size + 1, 1, none⟩ = false := froK Br.out 1
    have fr2 : w2.frozen? ⟨w.heap.size + 1, 2, none⟩ = false := froK Br.out 2
    have fr3 : w2.frozen? ⟨w.heap.size + 1, 3, none⟩ = false := froK Br.out 3
    have fr4 : w2.frozen? ⟨w.heap.size + 1, 4, none⟩ = false := froK Br.out 4
    have fr5 : w2.frozen? ⟨w.heap.size + 1, 5, none⟩ = false := froK Br.out 5
    have fr6 : w2.frozen? ⟨w.heap.size + 1, 6, none⟩ = false := froK Br.out 6
    obtain ⟨T, v, ev⟩ := (HE.out.below HB.out).2.2
    have evl := cell_ltD ev
    obtain ⟨_, _, ev0⟩ := HE.out.2.2
    have evl0 := cell_ltD ev0
    clear ev0
    have evn : ¬ 2 = w.heap.size + 1 := by omega
    have hrl : w.heap.size + 1 < w2.heap.size := lt_of_some Br.out
    go_wp2
    go_region
    go_wp2
    exact bodyPost_ret (v := .tuple #[.agg #[.string ⟨#[]⟩, .string ⟨#[]⟩, .int .i64 0, .int .i64 0, .int .i64 0, .bool false, .slice none 0 0], .iface T v]) (by simp [results, Tryz.results26, go_sem, *]) rfl ⟨Below.drewn (Below.alloc (set_below (show w.heap.size ≤ w.heap.size + 1 by omega) (set_below (show w.heap.size ≤ w.heap.size + 1 by omega) (set_below (show w.heap.size ≤ w.heap.size + 1 by omega) (set_below (show w.heap.size ≤ w.heap.size + 1 by omega) (set_below (show w.heap.size ≤ w.heap.size + 1 by omega) (set_below (show w.heap.size ≤ w.heap.size + 1 by omega) (set_below (show w.heap.size ≤ w.heap.size + 1 by omega) (HB.out)))))))) (by simp [World.setCell]; have := HB.out.size; omega) _), .inl ⟨fun h => (by have h1 := h.2.2; rw [HH.out] at h1; cases h1), T, v, rfl⟩⟩

def DskIs (c : Cl) (t : ByteArray) (zs : List ByteArray) : Prop := ((¬ 8000 < t.size ∧ RightI c ∧ hit Nd.n c.ns t = true) ∧ zs = dskL c t c.vs) ∨ (¬ (¬ 8000 < t.size ∧ RightI c ∧ hit Nd.n c.ns t = true) ∧ zs = [])
theorem DskIs.same {c : Cl} {t : ByteArray} {zs zs' : List ByteArray} (h : DskIs c t zs) (h' : DskIs c t zs') : zs = zs' := by
  rcases h with ⟨a, rfl⟩ | ⟨a, rfl⟩ <;> rcases h' with ⟨b, rfl⟩ | ⟨b, rfl⟩
  · rfl
  · exact absurd a b
  · exact absurd b a
  · rfl
def DskI (c : Cl) (t : ByteArray) (w : World) (e : Ending) (w' : World) : Prop := ∃ a l p zs, e = .returned (.slice a l p) ∧ DskIs c t zs ∧ TOwn w' a l p zs (fun k => w.heap.size ≤ k) ∧ Below w.heap.size w w'

set_option maxRecDepth 100000 in
set_option maxHeartbeats 3200000 in
theorem idisks_any (d : Ad) (c : Cl) (t : ByteArray) (w : World) (hr : ClRow w d c.raw) (hG : Es3 w) :
    Calls Tryz.prog 7 #[.agg #[.slice d.a1 d.l1 d.c1, .slice d.a2 d.l2 d.c2, .slice d.a3 d.l3 d.c3, .slice d.a4 d.l4 d.c4, .slice d.a5 d.l5 d.c5, .int .i64 c.now], .string t] w (DskI c t w) := by
  have HR := hidK hr
  have HE := hidK hG
  have HB := hidK (Below.refl w.heap.size w)
  clear hr hG
  go_enter Tryz.func7, Tryz.ntmps7
  go_wp2_with fail
  refine (iaskN_any d c t _ (HR.out.below (HB.out.trans ((below1 _ _).mono HB.out.size))) (HE.out.below (HB.out.trans ((below1 _ _).mono HB.out.size)))).mono ?_
  rintro e w1 ⟨hb, hf⟩
  obtain ⟨HA0, hbx⟩ := slots1 hb
  have Bk := hidK HA0
  replace HB := upB HB hbx
  clear hb hbx HA0
  rcases hf with ⟨hno, T, v, rfl⟩ | ⟨hok, n, va, vl, vc, hn, rfl⟩
  · have HNO := hidK hno
    clear hno
    obtain ⟨k0, k1, k2, k3, k4, k5⟩ := cs6 Bk.out
    have ltk_1 := lt_of_some Bk.out
    go_wp2
    go_ret
    exact ⟨_, _, _, [], rfl, .inr ⟨HNO.out, rfl⟩, ⟨⟨rfl, Nat.le_refl _, by decide, fun j x hx => by simp at hx, .inl rfl⟩, .inl rfl⟩, HB.out.alloc HB.out.size _⟩
  have HOK := hidK hok
  clear hok
  subst hn
  have HQ : Hid (w.heap.size ≤ w1.heap.size) := HB.out.size
  obtain ⟨k0, k1, k2, k3, k4, k5⟩ := cs6 Bk.out
  have ltk_1 := lt_of_some Bk.out
  go_wp2_with fail
  refine (idsk_any d c n.n _ (HR.out.below (HB.out.trans ((below1 _ _).mono HB.out.size))) (by have := HOK.out.2.1.2.1.2.2.1.1; omega)).mono ?_
  rintro e w2 ⟨a, l, p, rfl, ho, hb⟩
  clear k0 k1 k2 k3 k4 k5 ltk_1
  obtain ⟨HA0, hbx⟩ := slots1 hb
  replace Bk := upK Bk hbx
  have Bn := hidK HA0
  replace HB := upB HB hbx
  clear hb hbx HA0
  have HO := hidK ho
  clear ho
  have hq := HQ.out
  go_wp2
  go_ret
  exact ⟨_, _, _, _, rfl, .inl ⟨HOK.out, rfl⟩, HO.out.into (fun k _ s => by have s1 : (w1.alloc _).heap.size ≤ k := s; rw [size1] at s1; show w.heap.size ≤ k; omega), HB.out⟩

theorem run_append_typesT (w : World) (t t' ty e e' : TypeId) (i : TypeInfo) (ht : Tryz.prog.underlying t = some (.slice e)) (ht' : Tryz.prog.underlying t' = some (.slice e')) (hi : Tryz.prog.info? e = some i) (a : Option Addr) (l c : Nat) (b : Value) : (Builtin.append_ #[t, t'] ty #[.slice a l c, b]).run Tryz.prog w = (Builtin.append_ #[t, t] ty #[.slice a l c, b]).run Tryz.prog w := by
  simp [Builtin.append_, run_underlying ht, run_underlying ht', sizeOf, typeInfo, hi]
theorem wpList_append_twoT {w : World} {ops : Array Oper} {rest : List Oper} {o : Oper} {a : Act} {Q : Exit → Act → World → Prop} (hgd : o.guard = none) (s x : Operand) (t t' : TypeId)
    (ho : o.op = .call { callee := .builtin .append, args := #[s, x], argTypes := #[t, t'] })
    (base : Nat) (e e' : TypeId) (i : TypeInfo) (z : Value) (size bytes : Nat) (ht : Tryz.prog.underlying t = some (.slice e)) (ht' : Tryz.prog.underlying t' = some (.slice e')) (hi : Tryz.prog.info? e = some i) (hz : i.zero = some z)
    (hsize : i.size = size) (hby : i.bytes = bytes) (hzs : z.cells.size = size) (hsz : 0 < size)
    (v : Value) (n : Nat) (xs : List Value) (hs : a.eval s = v) (hown : w.ownsRow base e size v n xs)
    (ad : Addr) (m c : Nat) (news : List Value) (hx : a.eval x = .slice (some ad) m c) (hl : news.length = m * size) (hnews : ∀ j u, news[j]? = some u → w.cell? (ad.add j) = some u) (h1 : ∀ u ∈ news, u.oneCell' = true)
    (h63 : n + m ≤ maxLen) (hbytes : (n + m) * bytes ≤ 140737488355328) (hbase : base ≤ w.heap.size)
    (h : ∀ v' w', w'.ownsRow base e size v' (n + m) (xs ++ news) → w.grownBy w' v.ownBlock → wpList Tryz.prog ops Q rest (a.put o.dst v') w') : wpList Tryz.prog ops Q (o :: rest) a w := by
  refine wpList_plain hgd fun K hK => ?_
  obtain ⟨v', w', hr, h2, h3, h4⟩ := run_append_own (P := Tryz.prog) w base t o.type e i z size bytes ht hi hz hsize hby hzs hsz v n xs hown ad m c news hl hnews h1 h63 hbytes hbase
  obtain ⟨va, vl, vc, rfl⟩ : ∃ a l c, v = .slice a l c := by
    rcases hown.2 with ⟨rfl, _⟩ | ⟨g, cap, cur, rfl, _⟩
    · exact ⟨_, _, _, rfl⟩
    · exact ⟨_, _, _, rfl⟩
  rw [← run_append_typesT w t t' o.type e e' i ht ht' hi] at hr
  unfold Oper.wp execOp
  simp only [ho, resolve, invoke, builtin, Sem.run_bind, Sem.run_pure, Result.andThen_ok, List.map_toArray, List.map_cons, List.map_nil, hs, hx, hr]
  exact hK _ _ (h v' w' h2 h3)
theorem run_append_emptyT {w : World} {base : Nat} {t ty e : TypeId} {i : TypeInfo} {size : Nat} (ht : Tryz.prog.underlying t = some (.slice e)) (hi : Tryz.prog.info? e = some i) {v : Value} {n : Nat} {xs : List Value} (hown : w.ownsRow base e size v n xs) (ax : Option Addr) (cx : Nat) :
    (Builtin.append_ #[t, t] ty #[v, .slice ax 0 cx]).run Tryz.prog w = .ok v w := by
  rcases hown.2 with ⟨rfl, rfl⟩ | ⟨g, cap, cur, rfl, _, _, hnc, _⟩
  · cases ax <;> simp [Builtin.append_, run_underlying ht, sizeOf, typeInfo, hi, Builtin.lenOf, Builtin.firstCells, loadCells, loadCellsFrom]
  · cases ax <;> simp [Builtin.append_, run_underlying ht, sizeOf, typeInfo, hi, Builtin.lenOf, Builtin.firstCells, hnc, storeCells, loadCells, loadCellsFrom]
theorem wpList_append_anyT {w : World} {ops : Array Oper} {rest : List Oper} {o : Oper} {a : Act} {Q : Exit → Act → World → Prop} (hgd : o.guard = none) (s x : Operand) (t : TypeId)
    (ho : o.op = .call { callee := .builtin .append, args := #[s, x], argTypes := #[t, t] })
    (base : Nat) (e : TypeId) (i : TypeInfo) (z : Value) (size bytes : Nat) (ht : Tryz.prog.underlying t = some (.slice e)) (hi : Tryz.prog.info? e = some i) (hz : i.zero = some z)
    (hsize : i.size = size) (hby : i.bytes = bytes) (hzs : z.cells.size = size) (hsz : 0 < size)
    (v : Value) (n : Nat) (xs : List Value) (hs : a.eval s = v) (hown : w.ownsRow base e size v n xs)
    (ax : Option Addr) (l c : Nat) (news : List Value) (hx : a.eval x = .slice ax l c) (hl : news.length = l * size) (hnews : ∀ (j : Nat) u, news[j]? = some u → ∃ ad : Addr, ax = some ad ∧ w.cell? (ad.add j) = some u) (h1 : ∀ u ∈ news, u.oneCell' = true)
    (h63 : n + l ≤ maxLen) (hbytes : (n + l) * bytes ≤ 140737488355328) (hbase : base ≤ w.heap.size)
    (h : ∀ v' w', w'.ownsRow base e size v' (n + l) (xs ++ news) → w.grownBy w' v.ownBlock → wpList Tryz.prog ops Q rest (a.put o.dst v') w') : wpList Tryz.prog ops Q (o :: rest) a w := by
  rcases news with _ | ⟨u, news⟩
  · have hl0 : l = 0 := by
      rcases Nat.eq_zero_or_pos l with e | e
      · exact e
      · have := Nat.mul_pos e hsz
        simp at hl
        omega
    subst hl0
    refine wpList_plain hgd fun K hK => ?_
    have hr := run_append_emptyT (ty := o.type) ht hi hown ax c
    unfold Oper.wp execOp
    simp only [ho, resolve, invoke, builtin, Sem.run_bind, Sem.run_pure, Result.andThen_ok, List.map_toArray, List.map_cons, List.map_nil, hs, hx, hr]
    exact hK _ _ (h v w (by simpa using hown) (World.grownBy.refl _ _))
  · obtain ⟨ad, rfl, _⟩ := hnews 0 u rfl
    exact wpList_append_twoT hgd s x t t ho base e e i z size bytes ht ht hi hz hsize hby hzs hsz v n xs hs hown ad l c (u :: news) hx hl (fun j y hy => by
      obtain ⟨ad', e, h2⟩ := hnews j y hy
      cases e
      exact h2) h1 h63 hbytes hbase h

def RT (zs : List ByteArray) : Prop := zs.Pairwise fun a b => Op.bytesLess a.toList b.toList = true
theorem less_not {x t : ByteArray} (h : Op.bytesLess x.toList t.toList = false) (hn : ¬ x = t) : Op.bytesLess t.toList x.toList = true := by
  have h1 := less_tri x.toList t.toList
  rw [h] at h1
  have h2 : (t.toList == x.toList) = false := tl_no (fun e => hn e.symm)
  rw [h2] at h1
  simpa using h1
def Put (t : ByteArray) (zs zs' : List ByteArray) : Prop := (t ∈ zs ∧ zs' = zs) ∨ ∃ k, k ≤ zs.length ∧ zs' = zs.take k ++ [t] ++ zs.drop k ∧ (∀ (j : Nat) y, j < k → zs[j]? = some y → Op.bytesLess y.toList t.toList = true) ∧ ∀ y, zs[k]? = some y → Op.bytesLess t.toList y.toList = true
theorem Put.mem {t : ByteArray} {zs zs' : List ByteArray} (h : Put t zs zs') (s : ByteArray) : s ∈ zs' ↔ s ∈ zs ∨ s = t := by
  rcases h with ⟨h, rfl⟩ | ⟨k, _, rfl, _, _⟩
  · exact ⟨.inl, fun h1 => h1.elim id (fun e => e ▸ h)⟩
  · have h1 : s ∈ zs ↔ s ∈ zs.take k ∨ s ∈ zs.drop k := by rw [← List.mem_append, List.take_append_drop]
    rw [List.mem_append, List.mem_append, List.mem_singleton, h1]
    constructor
    · rintro ((h | h) | h)
      · exact .inl (.inl h)
      · exact .inr h
      · exact .inl (.inr h)
    · rintro ((h | h) | h)
      · exact .inl (.inl h)
      · exact .inr h
      · exact .inl (.inr h)
theorem Put.len {t : ByteArray} {zs zs' : List ByteArray} (h : Put t zs zs') : zs'.length ≤ zs.length + 1 := by
  rcases h with ⟨_, rfl⟩ | ⟨k, hk, rfl, _, _⟩
  · omega
  · simp only [List.length_append, List.length_take, List.length_drop, List.length_singleton]
    omega
theorem Put.ris {t : ByteArray} {zs zs' : List ByteArray} (h : Put t zs zs') (hr : RT zs) : RT zs' := by
  rcases h with ⟨_, rfl⟩ | ⟨k, hk, rfl, hlt, hgt⟩
  · exact hr
  · have h1 : RT (zs.take k ++ zs.drop k) := by rw [List.take_append_drop]; exact hr
    obtain ⟨h2, h3, h4⟩ := List.pairwise_append.1 h1
    have h5 : ∀ a ∈ zs.take k, Op.bytesLess a.toList t.toList = true := fun a ha => by
      obtain ⟨j, hj⟩ := List.getElem?_of_mem ha
      rw [List.getElem?_take] at hj
      split at hj
      · next hjk => exact hlt j a hjk hj
      · cases hj
    have h6 : ∀ a ∈ zs.drop k, Op.bytesLess t.toList a.toList = true := fun a ha => by
      cases hd : zs.drop k with
      | nil => rw [hd] at ha; cases ha
      | cons b r =>
        have hb : zs[k]? = some b := by rw [← Nat.add_zero k, ← List.getElem?_drop, hd]; rfl
        have h7 := hgt b hb
        rw [hd] at ha h3
        rcases List.mem_cons.1 ha with rfl | ha
        · exact h7
        · exact less_trans _ _ _ h7 ((List.pairwise_cons.1 h3).1 a ha)
    refine List.pairwise_append.2 ⟨List.pairwise_append.2 ⟨h2, List.pairwise_singleton _ _, fun a ha b hb => ?_⟩, h3, fun a ha b hb => ?_⟩
    · rw [List.mem_singleton.1 hb]; exact h5 a ha
    · rcases List.mem_append.1 ha with ha | ha
      · exact less_trans _ _ _ (h5 a ha) (h6 b hb)
      · rw [List.mem_singleton.1 ha]; exact h6 b hb
def PutAns (t : ByteArray) (zs : List ByteArray) (w : World) (e : Ending) (w' : World) : Prop := ∃ a' l' c' zs', e = .returned (.slice a' l' c') ∧ TxRow w' a' l' c' zs' ∧ Put t zs zs' ∧ Below w.heap.size w w'
theorem RT.ext : ∀ {xs ys : List ByteArray}, RT xs → RT ys → (∀ s, s ∈ xs ↔ s ∈ ys) → xs = ys
  | [], [], _, _, _ => rfl
  | [], b :: ys, _, _, h => by have := (h b).2 (List.mem_cons_self ..); cases this
  | a :: xs, [], _, _, h => by have := (h a).1 (List.mem_cons_self ..); cases this
  | a :: xs, b :: ys, hx, hy, h => by
    obtain ⟨x1, x2⟩ := List.pairwise_cons.1 hx
    obtain ⟨y1, y2⟩ := List.pairwise_cons.1 hy
    have hab : a = b := by
      rcases List.mem_cons.1 ((h a).1 (List.mem_cons_self ..)) with e | ha
      · exact e
      · rcases List.mem_cons.1 ((h b).2 (List.mem_cons_self ..)) with e | hb
        · exact e.symm
        · have h9 := less_trans _ _ _ (y1 a ha) (x1 b hb)
          rw [less_irr] at h9
          cases h9
    subst hab
    have ne : ∀ {l : List ByteArray}, (∀ s ∈ l, Op.bytesLess a.toList s.toList = true) → ∀ s ∈ l, ¬ s = a := fun hl s hs e => by
      have h9 := hl s hs
      rw [e, less_irr] at h9
      cases h9
    rw [RT.ext x2 y2 (fun s => ⟨fun hs => (List.mem_cons.1 ((h s).1 (List.mem_cons_of_mem _ hs))).resolve_left (ne x1 s hs), fun hs => (List.mem_cons.1 ((h s).2 (List.mem_cons_of_mem _ hs))).resolve_left (ne y1 s hs)⟩)]

theorem take_get {α : Type} {l : List α} {k j : Nat} {u : α} (h : (l.take k)[j]? = some u) : l[j]? = some u := by
  rw [List.getElem?_take] at h
  split at h
  · exact h
  · cases h

set_option maxRecDepth 100000 in
set_option maxHeartbeats 6400000 in
theorem sputT_any (a : Option Addr) (len cap : Nat) (zs : List ByteArray) (t : ByteArray) (w : World) (hr : TxRow w a len cap zs) (hl : len ≤ 64) (ht : t.size ≤ 9223372036854775807) :
    Calls Tryz.prog 52 #[.slice a len cap, .string t] w (PutAns t zs w) := by
  have HR := hidK hr
  have hlc : len ≤ cap := hr.2.1
  have hcm : cap ≤ 9223372036854775807 := hr.2.2.1
  have hzl : zs.length = len := hr.1
  obtain ⟨i0, hi, hz0, hz1, hz2⟩ := info_parts infoStr
  have HI0 := hidK (And.intro hi (And.intro hz0 (And.intro hz1 hz2)))
  clear hi hz0 hz1 hz2
  have HC : Hid (∀ (j : Nat) u, (zs.map Value.string)[j]? = some u → ∃ g o9, a = some ⟨g, o9, none⟩ ∧ g < w.heap.size ∧ w.cell? ⟨g, o9 + j, none⟩ = some u) := fun j u hu => by
    rw [List.getElem?_map, Option.map_eq_some_iff] at hu
    obtain ⟨z, hz, rfl⟩ := hu
    obtain ⟨b, o, x, rfl, hb, hx, hc, hsz⟩ := hr.at (k := j) (by have := (List.getElem?_eq_some_iff.1 hz).1; omega)
    rw [hz] at hx
    cases hx
    exact ⟨b, o, rfl, hb, hc⟩
  have HZS : Hid (∀ (k j : Nat) z, (zs.take k ++ [t] ++ zs.drop k)[j]? = some z → z.size ≤ 9223372036854775807) := fun k j z hz => by
    have h1 := List.mem_of_getElem? hz
    simp only [List.mem_append, List.mem_singleton] at h1
    rcases h1 with (h1 | rfl) | h1
    · obtain ⟨i, hi⟩ := List.getElem?_of_mem (List.mem_of_mem_take h1); exact hr.2.2.2.1 i z hi
    · exact ht
    · obtain ⟨i, hi⟩ := List.getElem?_of_mem (List.mem_of_mem_drop h1); exact hr.2.2.2.1 i z hi
  have HON : Hid (∀ (l : List ByteArray) u, u ∈ l.map Value.string → u.oneCell' = true) := fun l u hu => by obtain ⟨z, _, rfl⟩ := List.mem_map.1 hu; rfl
  have HW : Hid (Below w.heap.size w w) := Below.refl _ _
  clear hr
  go_enter Tryz.func52, Tryz.ntmps52
  go_wp2
  go_loop [5] (fun i => ∃ k : Nat, k ≤ len ∧ i = .int .i64 k ∧ Hid (∀ (j : Nat) y, j < k → zs[j]? = some y → Op.bytesLess y.toList t.toList = true)) (fun i => len - (intOf i).toNat)
  case atStart => exact ⟨0, by omega, rfl, fun j y hj => by omega⟩
  case round =>
    obtain ⟨k, hk, rfl, HE⟩ := hrel
    by_cases hlt : k < len
    · obtain ⟨b, o, x, rfl, hb, hx, hc, hsz⟩ := HR.out.at hlt
      have HX := hidK hx
      clear hx hsz
      have hk1 : (k : Int) < len := by omega
      cases hless : Op.bytesLess x.toList t.toList
      · by_cases he : x = t
        · have HP : Hid (Put t zs zs) := .inl ⟨he ▸ List.mem_of_getElem? HX.out, rfl⟩
          have hq := tl_yes he
          clear he
          go_wp2
          go_ret
          exact ⟨_, _, _, _, rfl, HR.out, HP.out, HW.out⟩
        have HP : Hid (Put t zs (zs.take k ++ [t] ++ zs.drop k)) := .inr ⟨k, by omega, rfl, HE.out, fun y hy => by rw [HX.out] at hy; cases hy; exact less_not hless he⟩
        have hq := tl_no he
        clear he
        have HOW : Hid ((w.alloc (.cells #[] 9)).ownsRow w.heap.size 9 1 (.slice (some ⟨w.heap.size, 0, none⟩) 0 0) 0 []) := World.ownsRow_made w #[] 0 (Nat.le_refl _) (Nat.zero_le _) (by simp)
        have hik : (k : Int) ≤ cap := by omega
        have hkn : k ≤ cap := by omega
        have hcap : ¬ cap = k := by omega
        all_goals (
          go_wp2_with (first | (at_builtin; refine wpList_append_anyT rfl _ _ 30 rfl w.heap.size 9 i0 (.string ⟨#[]⟩) 1 16 Tryz.underlying30 HI0.out.1 HI0.out.2.1 HI0.out.2.2.1 HI0.out.2.2.2 rfl (by decide) _ _ _ rfl (HOW.out) _ k _ ((zs.take k).map Value.string) rfl (by rw [List.length_map, List.length_take]; omega) (fun j u hu => by rw [List.map_take] at hu; obtain ⟨g9, o9, e, hgl, h3⟩ := HC.out j u (take_get hu); cases e <;> exact ⟨_, rfl, by simp only [Addr.add_lit]; exact (cell_below (below1 w _) hgl).trans h3⟩) (HON.out _) (by unfold maxLen; omega) (by omega) (by simp) ?_))
          intro v5 w5 hown5 hgr5
          replace hown5 : w5.ownsRow w.heap.size 9 1 v5 k ((zs.take k).map Value.string) := by simpa using hown5
          have hb5 : Below w.heap.size w w5 := (below1 w (.cells #[] 9)).grown hgr5 (by simp) (fun g hg => by simp [Value.ownBlock] at hg; omega)
          obtain ⟨s1, s2, s3, rfl⟩ := owns_slice hown5
          have HO5 := hidK hown5
          have H5 := hidK hb5
          have hs5 := hb5.size
          clear hown5 hgr5 hb5 HOW
          go_wp2_with (first | (at_builtin; refine wpList_append_anyT rfl _ _ 30 rfl w.heap.size 9 i0 (.string ⟨#[]⟩) 1 16 Tryz.underlying30 HI0.out.1 HI0.out.2.1 HI0.out.2.2.1 HI0.out.2.2.2 rfl (by decide) _ _ _ rfl (HO5.out.alloc _) _ 1 _ [.string t] rfl rfl (fun j u hu => ⟨_, rfl, by rw [Addr.add_lit, Nat.zero_add, cellK (heap_alloc_new w5 _)]; simpa using hu⟩) (by simp [Value.oneCell']) (by unfold maxLen; omega) (by omega) (by simp; omega) ?_))
          intro v6 w6 hown6 hgr6
          have hb6 : Below w.heap.size w w6 := (H5.out.alloc H5.out.size _).grown hgr6 (by simp; omega) (fun g hg => (HO5.out.lt g hg).1)
          obtain ⟨r1, r2, r3, rfl⟩ := owns_slice hown6
          have HO6 := hidK hown6
          have H6 := hidK hb6
          have hs6 := hb6.size
          clear hown6 hgr6 hb6
          go_wp2_with (first | (at_builtin; refine wpList_append_anyT rfl _ _ 30 rfl w.heap.size 9 i0 (.string ⟨#[]⟩) 1 16 Tryz.underlying30 HI0.out.1 HI0.out.2.1 HI0.out.2.2.1 HI0.out.2.2.2 rfl (by decide) _ _ _ rfl (HO6.out) _ (len - k) _ ((zs.drop k).map Value.string) rfl (by rw [List.length_map, List.length_drop]; omega) (fun j u hu => by first | (rw [List.drop_eq_nil_of_le (by omega)] at hu; simp at hu; done) | (rw [List.map_drop, List.getElem?_drop] at hu; obtain ⟨g9, o9, e, hgl, h3⟩ := HC.out _ u hu; cases e <;> exact ⟨_, rfl, by simp only [Addr.add_lit, Nat.add_assoc]; exact (cell_below H6.out hgl).trans h3⟩)) (HON.out _) (by unfold maxLen; omega) (by omega) (by omega) ?_))
          intro v7 w7 hown7 hgr7
          have hb7 : Below w.heap.size w w7 := H6.out.grown hgr7 (by omega) (fun g hg => (HO6.out.lt g hg).1)
          replace hown7 : w7.ownsRow w.heap.size 9 1 v7 (len + 1) ((zs.take k ++ [t] ++ zs.drop k).map Value.string) := by
            have e9 : k + 1 + (len - k) = len + 1 := by omega
            try rw [e9] at hown7
            simpa using hown7
          obtain ⟨a', p', rfl, hT⟩ := TOwn.of_row hown7 (HZS.out k)
          have HT7 := hidK hT
          have HB7 := hidK hb7
          clear hown7 hgr7 hb7 hT hik hkn
          go_wp2
          go_ret
          exact ⟨_, _, _, _, rfl, HT7.out.row, HP.out, HB7.out⟩)
      · go_wp2
        refine ⟨⟨k + 1, by omega, by go_num, fun j z hj hz => ?_⟩, by simp [intOf]; omega⟩
        by_cases e : j = k
        · subst e
          rw [HX.out] at hz
          obtain rfl := Option.some.inj hz
          exact hless
        · exact HE.out j z (by omega) hz
    · have hk1 : ¬ (k : Int) < len := by omega
      have HP : Hid (Put t zs (zs.take k ++ [t] ++ zs.drop k)) := .inr ⟨k, by omega, rfl, HE.out, fun y hy => by have := (List.getElem?_eq_some_iff.1 hy).1; omega⟩
      have HOW : Hid ((w.alloc (.cells #[] 9)).ownsRow w.heap.size 9 1 (.slice (some ⟨w.heap.size, 0, none⟩) 0 0) 0 []) := World.ownsRow_made w #[] 0 (Nat.le_refl _) (Nat.zero_le _) (by simp)
      have hik : (k : Int) ≤ cap := by omega
      have hkn : k ≤ cap := by omega
      rcases a with _ | ⟨b, o, sp⟩
      · have hl0 : len = 0 := Classical.byContradiction fun hne0 => by
          obtain ⟨g9, o9, e, _⟩ := HC.out 0 _ (by rw [List.getElem?_map, List.getElem?_eq_getElem (show 0 < zs.length by omega)]; rfl)
          cases e
        obtain rfl : k = 0 := by omega
        subst hl0
        by_cases hcap : cap = 0
        all_goals (
          go_wp2_with (first | (at_builtin; refine wpList_append_anyT rfl _ _ 30 rfl w.heap.size 9 i0 (.string ⟨#[]⟩) 1 16 Tryz.underlying30 HI0.out.1 HI0.out.2.1 HI0.out.2.2.1 HI0.out.2.2.2 rfl (by decide) _ _ _ rfl (HOW.out) _ 0 _ ((zs.take 0).map Value.string) rfl (by rw [List.length_map, List.length_take]; omega) (fun j u hu => by rw [List.map_take] at hu; obtain ⟨g9, o9, e, hgl, h3⟩ := HC.out j u (take_get hu); cases e <;> exact ⟨_, rfl, by simp only [Addr.add_lit]; exact (cell_below (below1 w _) hgl).trans h3⟩) (HON.out _) (by unfold maxLen; omega) (by omega) (by simp) ?_))
          intro v5 w5 hown5 hgr5
          replace hown5 : w5.ownsRow w.heap.size 9 1 v5 0 ((zs.take 0).map Value.string) := by simpa using hown5
          have hb5 : Below w.heap.size w w5 := (below1 w (.cells #[] 9)).grown hgr5 (by simp) (fun g hg => by simp [Value.ownBlock] at hg; omega)
          obtain ⟨s1, s2, s3, rfl⟩ := owns_slice hown5
          have HO5 := hidK hown5
          have H5 := hidK hb5
          have hs5 := hb5.size
          clear hown5 hgr5 hb5 HOW
          go_wp2_with (first | (at_builtin; refine wpList_append_anyT rfl _ _ 30 rfl w.heap.size 9 i0 (.string ⟨#[]⟩) 1 16 Tryz.underlying30 HI0.out.1 HI0.out.2.1 HI0.out.2.2.1 HI0.out.2.2.2 rfl (by decide) _ _ _ rfl (HO5.out.alloc _) _ 1 _ [.string t] rfl rfl (fun j u hu => ⟨_, rfl, by rw [Addr.add_lit, Nat.zero_add, cellK (heap_alloc_new w5 _)]; simpa using hu⟩) (by simp [Value.oneCell']) (by unfold maxLen; omega) (by omega) (by simp; omega) ?_))
          intro v6 w6 hown6 hgr6
          have hb6 : Below w.heap.size w w6 := (H5.out.alloc H5.out.size _).grown hgr6 (by simp; omega) (fun g hg => (HO5.out.lt g hg).1)
          obtain ⟨r1, r2, r3, rfl⟩ := owns_slice hown6
          have HO6 := hidK hown6
          have H6 := hidK hb6
          have hs6 := hb6.size
          clear hown6 hgr6 hb6
          go_wp2_with (first | (at_builtin; refine wpList_append_anyT rfl _ _ 30 rfl w.heap.size 9 i0 (.string ⟨#[]⟩) 1 16 Tryz.underlying30 HI0.out.1 HI0.out.2.1 HI0.out.2.2.1 HI0.out.2.2.2 rfl (by decide) _ _ _ rfl (HO6.out) _ (0 - 0) _ ((zs.drop 0).map Value.string) rfl (by rw [List.length_map, List.length_drop]; omega) (fun j u hu => by first | (rw [List.drop_eq_nil_of_le (by omega)] at hu; simp at hu; done) | (rw [List.map_drop, List.getElem?_drop] at hu; obtain ⟨g9, o9, e, hgl, h3⟩ := HC.out _ u hu; cases e <;> exact ⟨_, rfl, by simp only [Addr.add_lit, Nat.add_assoc]; exact (cell_below H6.out hgl).trans h3⟩)) (HON.out _) (by unfold maxLen; omega) (by omega) (by omega) ?_))
          intro v7 w7 hown7 hgr7
          have hb7 : Below w.heap.size w w7 := H6.out.grown hgr7 (by omega) (fun g hg => (HO6.out.lt g hg).1)
          replace hown7 : w7.ownsRow w.heap.size 9 1 v7 (0 + 1) ((zs.take 0 ++ [t] ++ zs.drop 0).map Value.string) := by
            have e9 : 0 + 1 + (0 - 0) = 0 + 1 := by omega
            try rw [e9] at hown7
            simpa using hown7
          obtain ⟨a', p', rfl, hT⟩ := TOwn.of_row hown7 (HZS.out 0)
          have HT7 := hidK hT
          have HB7 := hidK hb7
          clear hown7 hgr7 hb7 hT hik hkn
          go_wp2
          go_ret
          exact ⟨_, _, _, _, rfl, HT7.out.row, HP.out, HB7.out⟩)
      by_cases hcap : cap = k
      all_goals (
        go_wp2_with (first | (at_builtin; refine wpList_append_anyT rfl _ _ 30 rfl w.heap.size 9 i0 (.string ⟨#[]⟩) 1 16 Tryz.underlying30 HI0.out.1 HI0.out.2.1 HI0.out.2.2.1 HI0.out.2.2.2 rfl (by decide) _ _ _ rfl (HOW.out) _ k _ ((zs.take k).map Value.string) rfl (by rw [List.length_map, List.length_take]; omega) (fun j u hu => by rw [List.map_take] at hu; obtain ⟨g9, o9, e, hgl, h3⟩ := HC.out j u (take_get hu); cases e <;> exact ⟨_, rfl, by simp only [Addr.add_lit]; exact (cell_below (below1 w _) hgl).trans h3⟩) (HON.out _) (by unfold maxLen; omega) (by omega) (by simp) ?_))
        intro v5 w5 hown5 hgr5
        replace hown5 : w5.ownsRow w.heap.size 9 1 v5 k ((zs.take k).map Value.string) := by simpa using hown5
        have hb5 : Below w.heap.size w w5 := (below1 w (.cells #[] 9)).grown hgr5 (by simp) (fun g hg => by simp [Value.ownBlock] at hg; omega)
        obtain ⟨s1, s2, s3, rfl⟩ := owns_slice hown5
        have HO5 := hidK hown5
        have H5 := hidK hb5
        have hs5 := hb5.size
        clear hown5 hgr5 hb5 HOW
        go_wp2_with (first | (at_builtin; refine wpList_append_anyT rfl _ _ 30 rfl w.heap.size 9 i0 (.string ⟨#[]⟩) 1 16 Tryz.underlying30 HI0.out.1 HI0.out.2.1 HI0.out.2.2.1 HI0.out.2.2.2 rfl (by decide) _ _ _ rfl (HO5.out.alloc _) _ 1 _ [.string t] rfl rfl (fun j u hu => ⟨_, rfl, by rw [Addr.add_lit, Nat.zero_add, cellK (heap_alloc_new w5 _)]; simpa using hu⟩) (by simp [Value.oneCell']) (by unfold maxLen; omega) (by omega) (by simp; omega) ?_))
        intro v6 w6 hown6 hgr6
        have hb6 : Below w.heap.size w w6 := (H5.out.alloc H5.out.size _).grown hgr6 (by simp; omega) (fun g hg => (HO5.out.lt g hg).1)
        obtain ⟨r1, r2, r3, rfl⟩ := owns_slice hown6
        have HO6 := hidK hown6
        have H6 := hidK hb6
        have hs6 := hb6.size
        clear hown6 hgr6 hb6
        go_wp2_with (first | (at_builtin; refine wpList_append_anyT rfl _ _ 30 rfl w.heap.size 9 i0 (.string ⟨#[]⟩) 1 16 Tryz.underlying30 HI0.out.1 HI0.out.2.1 HI0.out.2.2.1 HI0.out.2.2.2 rfl (by decide) _ _ _ rfl (HO6.out) _ (len - k) _ ((zs.drop k).map Value.string) rfl (by rw [List.length_map, List.length_drop]; omega) (fun j u hu => by first | (rw [List.drop_eq_nil_of_le (by omega)] at hu; simp at hu; done) | (rw [List.map_drop, List.getElem?_drop] at hu; obtain ⟨g9, o9, e, hgl, h3⟩ := HC.out _ u hu; cases e <;> exact ⟨_, rfl, by simp only [Addr.add_lit, Nat.add_assoc]; exact (cell_below H6.out hgl).trans h3⟩)) (HON.out _) (by unfold maxLen; omega) (by omega) (by omega) ?_))
        intro v7 w7 hown7 hgr7
        have hb7 : Below w.heap.size w w7 := H6.out.grown hgr7 (by omega) (fun g hg => (HO6.out.lt g hg).1)
        replace hown7 : w7.ownsRow w.heap.size 9 1 v7 (len + 1) ((zs.take k ++ [t] ++ zs.drop k).map Value.string) := by
          have e9 : k + 1 + (len - k) = len + 1 := by omega
          try rw [e9] at hown7
          simpa using hown7
        obtain ⟨a', p', rfl, hT⟩ := TOwn.of_row hown7 (HZS.out k)
        have HT7 := hidK hT
        have HB7 := hidK hb7
        clear hown7 hgr7 hb7 hT hik hkn
        go_wp2
        go_ret
        exact ⟨_, _, _, _, rfl, HT7.out.row, HP.out, HB7.out⟩)

def BdIn (c : Cl) (zs : List ByteArray) (s : ByteArray) : Prop := ∃ (j : Nat) (t : ByteArray) (v : Vd), zs[j]? = some t ∧ IsBd c t v ∧ v.n = s
theorem IsBd.name {c : Cl} {t : ByteArray} {v v' : Vd} (hx : RisBy Xd.n c.xs) (h : IsBd c t v) (h' : IsBd c t v') : v.n = v'.n := by
  obtain ⟨i, j, x, h1, h2, h3, h4⟩ := h
  obtain ⟨i', j', x', k1, k2, k3, k4⟩ := h'
  obtain ⟨_, rfl⟩ := hx.inj h1 k1 (h2.trans k2.symm)
  rw [h4, k4]
theorem BdIn.snoc {c : Cl} {cs : List ByteArray} {t s : ByteArray} : BdIn c (cs ++ [t]) s ↔ BdIn c cs s ∨ ∃ v, IsBd c t v ∧ v.n = s := by
  constructor
  · rintro ⟨j, t', v, h1, h2, h3⟩
    rw [List.getElem?_append] at h1
    split at h1
    · exact .inl ⟨j, t', v, h1, h2, h3⟩
    · have h4 := List.mem_of_getElem? h1
      rw [List.mem_singleton] at h4
      subst h4
      exact .inr ⟨v, h2, h3⟩
  · rintro (⟨j, t', v, h1, h2, h3⟩ | ⟨v, h2, h3⟩)
    · exact ⟨j, t', v, by rw [List.getElem?_append_left (List.getElem?_eq_some_iff.1 h1).1]; exact h1, h2, h3⟩
    · exact ⟨cs.length, t, v, by simp, h2, h3⟩
theorem bdin_yes {c : Cl} {cs zs : List ByteArray} {t : ByteArray} {v : Vd} {s : ByteArray} (hx : RisBy Xd.n c.xs) (hb : IsBd c t v) : ((s ∈ zs ∨ BdIn c cs s) ∨ s = v.n) ↔ (s ∈ zs ∨ BdIn c (cs ++ [t]) s) := by
  rw [BdIn.snoc]
  constructor
  · rintro ((h | h) | rfl)
    · exact .inl h
    · exact .inr (.inl h)
    · exact .inr (.inr ⟨v, hb, rfl⟩)
  · rintro (h | h | ⟨v', h1, rfl⟩)
    · exact .inl (.inl h)
    · exact .inl (.inr h)
    · exact .inr (h1.name hx hb)
theorem bdin_no {c : Cl} {cs zs : List ByteArray} {t s : ByteArray} (hb : ∀ v, ¬ IsBd c t v) : (s ∈ zs ∨ BdIn c cs s) ↔ (s ∈ zs ∨ BdIn c (cs ++ [t]) s) := by
  rw [BdIn.snoc]
  constructor
  · rintro (h | h)
    · exact .inl h
    · exact .inr (.inl h)
  · rintro (h | h | ⟨v', h1, _⟩)
    · exact .inl h
    · exact .inr h
    · exact absurd h1 (hb v')
theorem sbind_yes (d : Ad) (c : Cl) (t : ByteArray) (w : World) (hr : ClRow w d c.raw) (hT : RightI c) {j : Nat} {v : Vd} (hv : c.vs[j]? = some v) (hb : IsBd c t v) :
    Calls Tryz.prog 78 #[.agg #[.slice d.a1 d.l1 d.c1, .slice d.a2 d.l2 d.c2, .slice d.a3 d.l3 d.c3, .slice d.a4 d.l4 d.c4, .slice d.a5 d.l5 d.c5, .int .i64 c.now], .string t] w fun e w' => e = .returned (.int .i64 j) ∧ Below w.heap.size w w' := by
  refine (sbind_any d c t w hr hT.2.1.2.2.2.1.2.2 hT.2.1.2.2.1.2.2 (fun j v hv e => by have h9 := (hT.2.1.2.2.1.2.1 j v hv).1; rw [e] at h9; have h8 := h9.1; revert h8; decide)).mono ?_
  rintro e w' ⟨hb2, ⟨j', v', h1, h2, rfl⟩ | ⟨hno, rfl⟩⟩
  · obtain ⟨rfl, _⟩ := hT.2.1.2.2.1.2.2.inj h1 hv (h2.name hT.2.1.2.2.2.1.2.2 hb)
    exact ⟨rfl, hb2⟩
  · exact absurd hb (hno v)
theorem sbind_no (d : Ad) (c : Cl) (t : ByteArray) (w : World) (hr : ClRow w d c.raw) (hT : RightI c) (hno : ∀ v, ¬ IsBd c t v) :
    Calls Tryz.prog 78 #[.agg #[.slice d.a1 d.l1 d.c1, .slice d.a2 d.l2 d.c2, .slice d.a3 d.l3 d.c3, .slice d.a4 d.l4 d.c4, .slice d.a5 d.l5 d.c5, .int .i64 c.now], .string t] w fun e w' => e = .returned (.int .i64 (-1)) ∧ Below w.heap.size w w' := by
  refine (sbind_any d c t w hr hT.2.1.2.2.2.1.2.2 hT.2.1.2.2.1.2.2 (fun j v hv e => by have h9 := (hT.2.1.2.2.1.2.1 j v hv).1; rw [e] at h9; have h8 := h9.1; revert h8; decide)).mono ?_
  rintro e w' ⟨hb2, ⟨j', v', h1, h2, rfl⟩ | ⟨_, rfl⟩⟩
  · exact absurd h2 (hno v')
  · exact ⟨rfl, hb2⟩
def AddAns (c : Cl) (zs cs : List ByteArray) (w : World) (e : Ending) (w' : World) : Prop := ∃ a' l' c' zs', e = .returned (.slice a' l' c') ∧ TxRow w' a' l' c' zs' ∧ RT zs' ∧ (∀ s, s ∈ zs' ↔ s ∈ zs ∨ BdIn c cs s) ∧ zs'.length ≤ zs.length + cs.length ∧ Below w.heap.size w w'

set_option maxRecDepth 100000 in
set_option maxHeartbeats 6400000 in
theorem saddT_any (d : Ad) (c : Cl) (a : Option Addr) (len cap : Nat) (zs : List ByteArray) (p : Pd) (va : Option Addr) (vl vc : Nat) (w : World) (hr : ClRow w d c.raw) (hT : RightI c) (hz : TxRow w a len cap zs) (hri : RT zs) (hp : TxRow w va vl vc p.zs) (hl : len + vl ≤ 60) :
    Calls Tryz.prog 50 #[.agg #[.slice d.a1 d.l1 d.c1, .slice d.a2 d.l2 d.c2, .slice d.a3 d.l3 d.c3, .slice d.a4 d.l4 d.c4, .slice d.a5 d.l5 d.c5, .int .i64 c.now], .slice a len cap, .agg #[.string p.n, .int .i64 p.c, .string p.z, .slice va vl vc, .string p.d, .int .i64 p.p]] w (AddAns c zs p.zs w) := by
  obtain ⟨a1, l1, y1, a2, l2, y2, a3, l3, y3, a4, l4, y4, a5, l5, y5⟩ := d
  dsimp only
  have HR := hidK hr
  have HT := hidK hT
  have HP := hidK hp
  have hpl : p.zs.length = vl := hp.1
  have hzl : zs.length = len := hz.1
  have HZ0 := hidK hz
  have HRI := hidK hri
  have hm3 : l3 ≤ 9223372036854775807 := Nat.le_trans hr.v.2.1 hr.v.2.2.1
  have hll : c.vs.length = l3 := by simpa using (show (c.vs.map vdF).length = l3 from hr.v.1)
  clear hr hT hp hz hri
  go_enter Tryz.func50, Tryz.ntmps50
  go_wp2
  go_loopw [1, 7] (fun vl0 vi wr => ∃ (k : Nat) (ca : Option Addr) (cl cc : Nat) (ys : List ByteArray), k ≤ vl ∧ vi = .int .i64 k ∧ vl0 = .slice ca cl cc ∧ Hid (TxRow wr ca cl cc ys ∧ RT ys ∧ (∀ s, s ∈ ys ↔ s ∈ zs ∨ BdIn c (p.zs.take k) s) ∧ ys.length ≤ zs.length + k) ∧ Hid (Below ((w.alloc (.cells #[.slice a1 l1 y1, .slice a2 l2 y2, .slice a3 l3 y3, .slice a4 l4 y4, .slice a5 l5 y5, .int .i64 c.now] 38)).alloc (.cells #[.string p.n, .int .i64 p.c, .string p.z, .slice va vl vc, .string p.d, .int .i64 p.p] 89)).heap.size ((w.alloc (.cells #[.slice a1 l1 y1, .slice a2 l2 y2, .slice a3 l3 y3, .slice a4 l4 y4, .slice a5 l5 y5, .int .i64 c.now] 38)).alloc (.cells #[.string p.n, .int .i64 p.c, .string p.z, .slice va vl vc, .string p.d, .int .i64 p.p] 89)) wr)) (fun _ vi _ => vl - (intOf vi).toNat)
  case atStart => exact ⟨0, a, len, cap, zs, by omega, rfl, rfl, ⟨HZ0.out.below (below2 _ _ _), HRI.out, fun s => ⟨.inl, fun h => h.elim id (fun ⟨j, t, v, h, _⟩ => by simp at h)⟩, by omega⟩, Below.refl _ _⟩
  case round =>
    obtain ⟨k, ca, cl, cc, ys, hk, rfl, rfl, HQ, HL⟩ := hrel
    have hb0 := HL.out
    obtain ⟨HA0, HA1, hbx⟩ := slots2 hb0
    have Bk := hidK HA0
    have Bp := hidK HA1
    have HB := hidK hbx
    clear hb0 HA0 HA1 hbx
    have hyl : ys.length = cl := HQ.out.1.1
    have hyb := HQ.out.2.2.2
    by_cases hlt : k < vl
    · have hk1 : (k : Int) < vl := by omega
      obtain ⟨b, o, t, rfl, hb, hx, hc, hsz⟩ := (HP.out.below HB.out).at hlt
      have HX := hidK hx
      clear hx hsz
      have HL2 : Hid (Bw wr wr) := Bw.refl _
      rcases Classical.em (∃ v, IsBd c t v) with ⟨v, hbd⟩ | hno
      · obtain ⟨i9, j, x9, h91, h92, hv, h94⟩ := hbd
        have hbd : IsBd c t v := ⟨i9, j, x9, h91, h92, hv, h94⟩
        have HVJ := hidK hv
        have HBD := hidK hbd
        clear h91 h92 h94 hbd hv
        obtain ⟨k0, k1, k2, k3, k4, k5⟩ := cs6 Bk.out
        have ltk_0 := lt_of_some Bk.out
        obtain ⟨p0, p1, p2, p3, p4, p5⟩ := cs6 Bp.out
        have ltp_0 := lt_of_some Bp.out
        go_wp2_with fail
        clear k0 k1 k2 k3 k4 k5 ltk_0 p0 p1 p2 p3 p4 p5 ltp_0
        have Gk : Hid (wr.heap[w.heap.size]? = some (.cells #[.slice a1 l1 y1, .slice a2 l2 y2, .slice a3 l3 y3, .slice a4 l4 y4, .slice a5 l5 y5, .int .i64 c.now] 38 (0, 0))) := Bk.out
        have Gp : Hid (wr.heap[w.heap.size + 1]? = some (.cells #[.string p.n, .int .i64 p.c, .string p.z, .slice (some ⟨b, o, none⟩) vl vc, .string p.d, .int .i64 p.p] 89 (0, 0))) := Bp.out
        have HW : Hid (Below w.heap.size w wr) := HB.out
        have k0 := fun q : Wd wr => q.slot (o := 0) Gk.out rfl
        have k1 := fun q : Wd wr => q.slot (o := 1) Gk.out rfl
        have k2 := fun q : Wd wr => q.slot (o := 2) Gk.out rfl
        have k3 := fun q : Wd wr => q.slot (o := 3) Gk.out rfl
        have k4 := fun q : Wd wr => q.slot (o := 4) Gk.out rfl
        have k5 := fun q : Wd wr => q.slot (o := 5) Gk.out rfl
        have p0 := fun q : Wd wr => q.slot (o := 0) Gp.out rfl
        have p1 := fun q : Wd wr => q.slot (o := 1) Gp.out rfl
        have p2 := fun q : Wd wr => q.slot (o := 2) Gp.out rfl
        have p3 := fun q : Wd wr => q.slot (o := 3) Gp.out rfl
        have p4 := fun q : Wd wr => q.slot (o := 4) Gp.out rfl
        have p5 := fun q : Wd wr => q.slot (o := 5) Gp.out rfl
        have tc : ∀ q : Wd wr, q.w.cell? ⟨b, o + k, none⟩ = some (.string t) := fun q => (q.cell (hb)).trans (hc)
        have hne0 := Wd.ne wr
        have HC0 := hidK (fun q : Wd wr => sbind_yes ⟨a1, l1, y1, a2, l2, y2, a3, l3, y3, a4, l4, y4, a5, l5, y5⟩ c t q.w (HR.out.below (HW.out.trans (q.b.mono HW.out.size))) HT.out HVJ.out HBD.out)
        go_wp2_with fail
        refine wp_region_wide (by kernel_rfl) (by kernel_rfl) ?_
        repeat (go_big_quiet_step (first | (go_at_call 78; exact Calls.wide (HC0.out _)) | fail))
        refine wpQuiet_nil ?_
        rintro _ ⟨q1, rfl⟩
        have HB1 := upB HW q1.b
        have Ck := upK Gk q1.b
        have Cp := upK Gp q1.b
        have CHL2 := hidK ((HL2.out).below q1.b)
        clear hne0 HW HB HC0 k0 k1 k2 k3 k4 k5 p0 p1 p2 p3 p4 p5 tc Gk Gp Bk Bp HL2 hb hc
        have HB := HB1
        clear HB1
        have HL2 := CHL2
        clear CHL2
        have Bk := Ck
        clear Ck
        have Bp := Cp
        clear Cp
        have hv := HVJ.out
        have hj3 : j < l3 := by have := (List.getElem?_eq_some_iff.1 hv).1; omega
        have hj0 : ¬ (j : Int) < 0 := by omega
        have hj1 : (0 : Int) ≤ j := by omega
        have hj2 : (j : Int) < l3 := by omega
        obtain ⟨b3, o3, y, rfl, hb3, hy, hat⟩ := vd_at (HR.out.v.below HB.out) hj3
        rw [hv] at hy
        obtain rfl := Option.some.inj hy
        obtain ⟨ya, yl, yc, -, hz0, -, -, -, hc0, -, -, -, -, -, -, -⟩ := vd_cells hat
        clear hv hy hat
        obtain ⟨k0, k1, k2, k3, k4, k5⟩ := cs6 Bk.out
        have ltk_1 := lt_of_some Bk.out
        obtain ⟨p0, p1, p2, p3, p4, p5⟩ := cs6 Bp.out
        have ltp_1 := lt_of_some Bp.out
        go_wp2_with fail
        refine (sputT_any ca cl cc ys v.n _ (HQ.out.1.below HL2.out.out) (by omega) hz0).mono ?_
        rintro e w2 ⟨sa, sl, sc, zs2, rfl, htx, hput, hb2⟩
        clear k0 k1 k2 k3 k4 k5 ltk_1 p0 p1 p2 p3 p4 p5 ltp_1
        replace Bk := upK Bk hb2
        replace Bp := upK Bp hb2
        replace HL2 := hidK (HL2.out.below hb2)
        replace HB := upB HB hb2
        clear hb2
        have HTX := hidK htx
        have HPU := hidK hput
        clear htx hput hc0 hz0 hb3
        obtain ⟨k0, k1, k2, k3, k4, k5⟩ := cs6 Bk.out
        have ltk_2 := lt_of_some Bk.out
        obtain ⟨p0, p1, p2, p3, p4, p5⟩ := cs6 Bp.out
        have ltp_2 := lt_of_some Bp.out
        go_wp2
        refine ⟨⟨k + 1, sa, sl, sc, zs2, by omega, by go_num, rfl, ⟨HTX.out, HPU.out.ris HQ.out.2.1, fun s => ?_, by have h9 := HPU.out.len; omega⟩, HL.out.trans (HL2.out.out.mono HL.out.size)⟩, by simp [intOf]; omega⟩
        rw [HPU.out.mem, HQ.out.2.2.1, List.take_add_one, HX.out, Option.toList_some]
        exact bdin_yes HT.out.2.1.2.2.2.1.2.2 HBD.out
      · have HNO : Hid (∀ v, ¬ IsBd c t v) := fun v h => hno ⟨v, h⟩
        clear hno
        obtain ⟨k0, k1, k2, k3, k4, k5⟩ := cs6 Bk.out
        have ltk_0 := lt_of_some Bk.out
        obtain ⟨p0, p1, p2, p3, p4, p5⟩ := cs6 Bp.out
        have ltp_0 := lt_of_some Bp.out
        go_wp2_with fail
        clear k0 k1 k2 k3 k4 k5 ltk_0 p0 p1 p2 p3 p4 p5 ltp_0
        have Gk : Hid (wr.heap[w.heap.size]? = some (.cells #[.slice a1 l1 y1, .slice a2 l2 y2, .slice a3 l3 y3, .slice a4 l4 y4, .slice a5 l5 y5, .int .i64 c.now] 38 (0, 0))) := Bk.out
        have Gp : Hid (wr.heap[w.heap.size + 1]? = some (.cells #[.string p.n, .int .i64 p.c, .string p.z, .slice (some ⟨b, o, none⟩) vl vc, .string p.d, .int .i64 p.p] 89 (0, 0))) := Bp.out
        have HW : Hid (Below w.heap.size w wr) := HB.out
        have k0 := fun q : Wd wr => q.slot (o := 0) Gk.out rfl
        have k1 := fun q : Wd wr => q.slot (o := 1) Gk.out rfl
        have k2 := fun q : Wd wr => q.slot (o := 2) Gk.out rfl
        have k3 := fun q : Wd wr => q.slot (o := 3) Gk.out rfl
        have k4 := fun q : Wd wr => q.slot (o := 4) Gk.out rfl
        have k5 := fun q : Wd wr => q.slot (o := 5) Gk.out rfl
        have p0 := fun q : Wd wr => q.slot (o := 0) Gp.out rfl
        have p1 := fun q : Wd wr => q.slot (o := 1) Gp.out rfl
        have p2 := fun q : Wd wr => q.slot (o := 2) Gp.out rfl
        have p3 := fun q : Wd wr => q.slot (o := 3) Gp.out rfl
        have p4 := fun q : Wd wr => q.slot (o := 4) Gp.out rfl
        have p5 := fun q : Wd wr => q.slot (o := 5) Gp.out rfl
        have tc : ∀ q : Wd wr, q.w.cell? ⟨b, o + k, none⟩ = some (.string t) := fun q => (q.cell (hb)).trans (hc)
        have hne0 := Wd.ne wr
        have HC0 := hidK (fun q : Wd wr => sbind_no ⟨a1, l1, y1, a2, l2, y2, a3, l3, y3, a4, l4, y4, a5, l5, y5⟩ c t q.w (HR.out.below (HW.out.trans (q.b.mono HW.out.size))) HT.out HNO.out)
        go_wp2_with fail
        refine wp_region_wide (by kernel_rfl) (by kernel_rfl) ?_
        repeat (go_big_quiet_step (first | (go_at_call 78; exact Calls.wide (HC0.out _)) | fail))
        refine wpQuiet_nil ?_
        rintro _ ⟨q1, rfl⟩
        have HB1 := upB HW q1.b
        have Ck := upK Gk q1.b
        have Cp := upK Gp q1.b
        have CHL2 := hidK ((HL2.out).below q1.b)
        clear hne0 HW HB HC0 k0 k1 k2 k3 k4 k5 p0 p1 p2 p3 p4 p5 tc Gk Gp Bk Bp HL2 hb hc
        have HB := HB1
        clear HB1
        have HL2 := CHL2
        clear CHL2
        have Bk := Ck
        clear Ck
        have Bp := Cp
        clear Cp
        obtain ⟨k0, k1, k2, k3, k4, k5⟩ := cs6 Bk.out
        have ltk_1 := lt_of_some Bk.out
        obtain ⟨p0, p1, p2, p3, p4, p5⟩ := cs6 Bp.out
        have ltp_1 := lt_of_some Bp.out
        go_wp2
        refine ⟨⟨k + 1, ca, cl, cc, ys, by omega, by go_num, rfl, ⟨HQ.out.1.below HL2.out.out, HQ.out.2.1, fun s => ?_, by omega⟩, HL.out.trans (HL2.out.out.mono HL.out.size)⟩, by simp [intOf]; omega⟩
        rw [HQ.out.2.2.1, List.take_add_one, HX.out, Option.toList_some]
        exact bdin_no HNO.out
    have hk1 : ¬ (k : Int) < vl := by omega
    have HQ2 := HQ
    rw [List.take_of_length_le (show p.zs.length ≤ k by omega)] at HQ2
    obtain ⟨k0, k1, k2, k3, k4, k5⟩ := cs6 Bk.out
    have ltk_0 := lt_of_some Bk.out
    obtain ⟨p0, p1, p2, p3, p4, p5⟩ := cs6 Bp.out
    have ltp_0 := lt_of_some Bp.out
    go_wp2
    go_ret
    exact ⟨_, _, _, ys, rfl, HQ2.out.1, HQ2.out.2.1, HQ2.out.2.2.1, by have := HQ2.out.2.2.2; omega, HB.out⟩

def PBs (c : Cl) (t : ByteArray) (k : Nat) (s : ByteArray) : Prop := ∃ (j : Nat) (p : Pd), j < k ∧ c.ps[j]? = some p ∧ p.d = t ∧ BdIn c p.zs s
def VBs (c : Cl) (t : ByteArray) (k : Nat) (s : ByteArray) : Prop := ∃ (j : Nat) (v : Vd), j < k ∧ c.vs[j]? = some v ∧ InL v.zs t ∧ v.n = s
theorem PBs.yes {c : Cl} {t s : ByteArray} {k : Nat} {p : Pd} (hp : c.ps[k]? = some p) (hd : p.d = t) : PBs c t (k + 1) s ↔ PBs c t k s ∨ BdIn c p.zs s := by
  constructor
  · rintro ⟨j, q, h1, h2, h3, h4⟩
    by_cases e : j = k
    · subst e
      rw [hp] at h2
      obtain rfl := Option.some.inj h2
      exact .inr h4
    · exact .inl ⟨j, q, by omega, h2, h3, h4⟩
  · rintro (⟨j, q, h1, h2, h3, h4⟩ | h)
    · exact ⟨j, q, by omega, h2, h3, h4⟩
    · exact ⟨k, p, by omega, hp, hd, h⟩
theorem PBs.no {c : Cl} {t s : ByteArray} {k : Nat} {p : Pd} (hp : c.ps[k]? = some p) (hd : ¬ p.d = t) : PBs c t (k + 1) s ↔ PBs c t k s := by
  constructor
  · rintro ⟨j, q, h1, h2, h3, h4⟩
    by_cases e : j = k
    · subst e
      rw [hp] at h2
      obtain rfl := Option.some.inj h2
      exact absurd h3 hd
    · exact ⟨j, q, by omega, h2, h3, h4⟩
  · rintro ⟨j, q, h1, h2, h3, h4⟩
    exact ⟨j, q, by omega, h2, h3, h4⟩
theorem VBs.yes {c : Cl} {t s : ByteArray} {k : Nat} {v : Vd} (hp : c.vs[k]? = some v) (hd : InL v.zs t) : VBs c t (k + 1) s ↔ VBs c t k s ∨ s = v.n := by
  constructor
  · rintro ⟨j, q, h1, h2, h3, h4⟩
    by_cases e : j = k
    · subst e
      rw [hp] at h2
      obtain rfl := Option.some.inj h2
      exact .inr h4.symm
    · exact .inl ⟨j, q, by omega, h2, h3, h4⟩
  · rintro (⟨j, q, h1, h2, h3, h4⟩ | h)
    · exact ⟨j, q, by omega, h2, h3, h4⟩
    · exact ⟨k, v, by omega, hp, hd, h.symm⟩
theorem VBs.no {c : Cl} {t s : ByteArray} {k : Nat} {v : Vd} (hp : c.vs[k]? = some v) (hd : ¬ InL v.zs t) : VBs c t (k + 1) s ↔ VBs c t k s := by
  constructor
  · rintro ⟨j, q, h1, h2, h3, h4⟩
    by_cases e : j = k
    · subst e
      rw [hp] at h2
      obtain rfl := Option.some.inj h2
      exact absurd h3 hd
    · exact ⟨j, q, by omega, h2, h3, h4⟩
  · rintro ⟨j, q, h1, h2, h3, h4⟩
    exact ⟨j, q, by omega, h2, h3, h4⟩
def AdF (c : Cl) (zs cs : List ByteArray) : Fact := fun v w => ∃ a' l' c' zs', v = .slice a' l' c' ∧ TxRow w a' l' c' zs' ∧ RT zs' ∧ (∀ s, s ∈ zs' ↔ s ∈ zs ∨ BdIn c cs s) ∧ zs'.length ≤ zs.length + cs.length
theorem AdF.mono {c : Cl} {zs cs : List ByteArray} : Fact.Mono (AdF c zs cs) := by
  rintro v w w' ⟨a', l', c', zs', h1, h2, h3⟩ hb
  exact ⟨a', l', c', zs', h1, h2.below hb, h3⟩
def DisAns (c : Cl) (t : ByteArray) (w : World) (e : Ending) (w' : World) : Prop := ∃ a' l' c' zs', e = .returned (.slice a' l' c') ∧ TxRow w' a' l' c' zs' ∧ RT zs' ∧ (∀ s, s ∈ zs' ↔ PBs c t c.ps.length s ∨ VBs c t c.vs.length s) ∧ Below w.heap.size w w'

set_option maxRecDepth 100000 in
set_option maxHeartbeats 6400000 in
theorem sdskT_any (d : Ad) (c : Cl) (t : ByteArray) (w : World) (hr : ClRow w d c.raw) (hT : RightI c) :
    Calls Tryz.prog 20 #[.agg #[.slice d.a1 d.l1 d.c1, .slice d.a2 d.l2 d.c2, .slice d.a3 d.l3 d.c3, .slice d.a4 d.l4 d.c4, .slice d.a5 d.l5 d.c5, .int .i64 c.now], .string t] w (DisAns c t w) := by
  obtain ⟨a1, l1, y1, a2, l2, y2, a3, l3, y3, a4, l4, y4, a5, l5, y5⟩ := d
  dsimp only
  have HR := hidK hr
  have hl1 : c.ns.length = l1 := by simpa using (show (c.ns.map ndF).length = l1 from hr.n.1)
  have hm1 : l1 ≤ 9223372036854775807 := Nat.le_trans hr.n.2.1 hr.n.2.2.1
  have hl2 : c.ks.length = l2 := by simpa using (show (c.ks.map kdF).length = l2 from hr.k.1)
  have hm2 : l2 ≤ 9223372036854775807 := Nat.le_trans hr.k.2.1 hr.k.2.2.1
  have hl3 : c.vs.length = l3 := by simpa using (show (c.vs.map vdF).length = l3 from hr.v.1)
  have hm3 : l3 ≤ 9223372036854775807 := Nat.le_trans hr.v.2.1 hr.v.2.2.1
  have hl4 : c.xs.length = l4 := by simpa using (show (c.xs.map xdF).length = l4 from hr.x.1)
  have hm4 : l4 ≤ 9223372036854775807 := Nat.le_trans hr.x.2.1 hr.x.2.2.1
  have hl5 : c.ps.length = l5 := by simpa using (show (c.ps.map pdF).length = l5 from hr.p.1)
  have hm5 : l5 ≤ 9223372036854775807 := Nat.le_trans hr.p.2.1 hr.p.2.2.1
  clear hr
  have HT := hidK hT
  clear hT
  have h58 : c.ps.length ≤ 8 := by have := HT.out.sm.p; omega
  have h38 : c.vs.length ≤ 8 := by have := HT.out.sm.v; omega
  go_enter Tryz.func20, Tryz.ntmps20
  go_wp2
  go_loopw [5, 6] (fun vo vi wr => ∃ (k : Nat) (ca : Option Addr) (cl cc : Nat) (ys : List ByteArray), k ≤ l5 ∧ vi = .int .i64 k ∧ vo = .slice ca cl cc ∧ Hid (TxRow wr ca cl cc ys ∧ RT ys ∧ (∀ s, s ∈ ys ↔ PBs c t k s) ∧ ys.length ≤ 3 * k) ∧ Hid (Below (w.heap.size + 1) (w.alloc (.cells #[.slice a1 l1 y1, .slice a2 l2 y2, .slice a3 l3 y3, .slice a4 l4 y4, .slice a5 l5 y5, .int .i64 c.now] 38)) wr)) (fun _ vi _ => l5 - (intOf vi).toNat)
  case atStart => exact ⟨0, _, 0, 0, [], by omega, rfl, rfl, ⟨⟨rfl, Nat.le_refl _, by omega, fun j x hx => by simp at hx, .inl rfl⟩, List.Pairwise.nil, fun s => ⟨fun h => by simp at h, fun ⟨j, p, h, _⟩ => by omega⟩, by simp⟩, by first | exact Below.refl _ _ | exact (below1 _ _).mono (by simp)⟩
  case round =>
    obtain ⟨k, ca, cl, cc, ys, hk, rfl, rfl, HQ, HL⟩ := hrel
    have Bk := hidK ((HL.out.block w.heap.size (by omega)).trans (heap_alloc_new w (.cells #[.slice a1 l1 y1, .slice a2 l2 y2, .slice a3 l3 y3, .slice a4 l4 y4, .slice a5 l5 y5, .int .i64 c.now] 38)))
    have HB := hidK ((below1 w (.cells #[.slice a1 l1 y1, .slice a2 l2 y2, .slice a3 l3 y3, .slice a4 l4 y4, .slice a5 l5 y5, .int .i64 c.now] 38)).trans (HL.out.mono (by omega)))
    have hyl : ys.length = cl := HQ.out.1.1
    have hyb := HQ.out.2.2.2
    by_cases hlt : k < l5
    · obtain ⟨b, o, x, rfl, hb, hx, hat⟩ := pd_at (HR.out.p.below HB.out) hlt
      obtain ⟨va, vl, vc, hvr, z0, z2, z4, c0, c1, c2, c3, c4, c5⟩ := pd_cells hat
      have HXx := hidK hx
      have HTx := hidK hvr
      have HZx0 := hidK z0
      have HZx2 := hidK z2
      have HZx4 := hidK z4
      clear hat hx z0 z2 z4 hvr
      have hbw := hb
      clear hb
      have hk1 : (k : Int) < l5 := by omega
      have HL2 : Hid (Bw wr wr) := Bw.refl _
      by_cases he : x.d = t
      · have hq := tl_yes he
        have HHE := hidK he
        clear he
        obtain ⟨k0, k1, k2, k3, k4, k5⟩ := cs6 Bk.out
        have ltk_0 := lt_of_some Bk.out
        go_wp2_with fail
        have hv3 : vl ≤ 3 := by have h9 : (x.zs.length : Int) ≤ 3 := (HT.out.2.1.2.2.2.2.2.1 k x HXx.out).2.2.2.1.1; have h8 : x.zs.length = vl := HTx.out.1; omega
        have HCS := hidK (And.intro c0 (And.intro c1 (And.intro c2 (And.intro c3 (And.intro c4 c5)))))
        have HBW := hidK hbw
        clear c0 c1 c2 c3 c4 c5 hbw
        clear k0 k1 k2 k3 k4 k5 ltk_0
        rename_i K0 hK0
        refine wp_region_grow_last (by kernel_rfl) rfl rfl (by kernel_rfl) ?_
        refine' Grow.stepC _ rfl ?_ ?_
        rotate_left 1
        · refine Obl.plain rfl ?_
          intro ac wg K hsz hW hf hK; clear hsz
          have e2 := hf 2 (by decide)
          simp [slotFact, List.lookup] at e2
          clear hf
          obtain ⟨k0, k1, k2, k3, k4, k5⟩ := cs6 ((hW.block _ (lt_of_some Bk.out)).trans Bk.out)
          go_simp
          refine hK _ _ (Below.refl _ _) ?_
          with_reducible rfl
        refine' Grow.stepC _ rfl ?_ ?_
        rotate_left 1
        · refine Obl.plain rfl ?_
          intro ac wg K hsz hW hf hK; clear hsz
          have e5 := hf 5 (by decide)
          simp [slotFact, List.lookup] at e5
          clear hf
          go_simp
          refine hK _ _ (Below.refl _ _) ?_
          with_reducible rfl
        refine' Grow.stepC _ rfl ?_ ?_
        rotate_left 1
        · refine Obl.plain rfl ?_
          intro ac wg K hsz hW hf hK; clear hsz
          have e2 := hf 2 (by decide)
          simp [slotFact, List.lookup] at e2
          clear hf
          go_simp
          refine hK _ _ (Below.refl _ _) ?_
          with_reducible rfl
        refine' Grow.stepC _ rfl ?_ ?_
        rotate_left 1
        · refine Obl.plain rfl ?_
          intro ac wg K hsz hW hf hK; clear hsz
          have e26 := hf 26 (by decide)
          simp [slotFact, List.lookup] at e26
          clear hf
          obtain ⟨k0, k1, k2, k3, k4, k5⟩ := cs6 ((hW.block _ (lt_of_some Bk.out)).trans Bk.out)
          go_simp
          refine hK _ _ (Below.refl _ _) ?_
          with_reducible rfl
        refine' Grow.stepC _ rfl ?_ ?_
        rotate_left 1
        · refine Obl.plain rfl ?_
          intro ac wg K hsz hW hf hK; clear hsz
          have e6 := hf 6 (by decide)
          simp [slotFact, List.lookup] at e6
          clear hf
          go_simp
          refine hK _ _ (Below.refl _ _) ?_
          with_reducible rfl
        refine' Grow.stepC _ rfl ?_ ?_
        rotate_left 1
        · refine Obl.plain rfl ?_
          intro ac wg K hsz hW hf hK; clear hsz
          have e27 := hf 27 (by decide)
          simp [slotFact, List.lookup] at e27
          have e28 := hf 28 (by decide)
          simp [slotFact, List.lookup] at e28
          clear hf
          have hk1 : (k : Int) < l5 := by omega
          go_simp
          refine hK _ _ (Below.refl _ _) ?_
          with_reducible rfl
        refine' Grow.stepC _ rfl ?_ ?_
        rotate_left 1
        · refine Obl.plain rfl ?_
          intro ac wg K hsz hW hf hK; clear hsz
          have e29 := hf 29 (by decide)
          simp [slotFact, List.lookup] at e29
          clear hf
          obtain ⟨d0, d1, d2, d3, d4, d5⟩ := HCS.out
          replace d0 := (cell_below hW HBW.out).trans d0
          replace d1 := (cell_below hW HBW.out).trans d1
          replace d2 := (cell_below hW HBW.out).trans d2
          replace d3 := (cell_below hW HBW.out).trans d3
          replace d4 := (cell_below hW HBW.out).trans d4
          replace d5 := (cell_below hW HBW.out).trans d5
          go_simp
          refine hK _ _ (Below.refl _ _) ?_
          with_reducible rfl
        refine Grow.step (AdF c ys x.zs) rfl (AdF.mono) ?_ ?_
        · refine Obl.plain rfl ?_
          intro ac wg K hsz hW hf hK; clear hsz
          have e24 := hf 24 (by decide)
          simp [slotFact, List.lookup] at e24
          have e25 := hf 25 (by decide)
          simp [slotFact, List.lookup] at e25
          have e30 := hf 30 (by decide)
          simp [slotFact, List.lookup] at e30
          clear hf
          go_simp
          refine (saddT_any ⟨a1, l1, y1, a2, l2, y2, a3, l3, y3, a4, l4, y4, (some ⟨b, o, none⟩), l5, y5⟩ c ca cl cc ys x va vl vc _ (HR.out.below (HB.out.trans (hW.mono HB.out.size))) HT.out (HQ.out.1.below hW) HQ.out.2.1 (HTx.out.below hW) (by omega)).mono ?_
          rintro e w6 ⟨sa, sl, sc, zs2, rfl, htx, hri2, hmm2, hl2, hb6⟩
          exact hK _ _ hb6 ⟨sa, sl, sc, zs2, rfl, htx, hri2, hmm2, hl2⟩
        refine Grow.done ?_
        intro q w1 hW hf
        simp only [List.forall_mem_cons] at hf
        obtain ⟨⟨sa, sl, sc, zs2, h31, htx, hri2, hmm2, hl2⟩, -⟩ := hf
        have hb2 := hW
        intro K hK
        rw [if_pos (by rfl)]
        simp only [putsAll, List.foldr, Act.put, List.setIfInBounds_toArray, List.set_cons_zero, List.set_cons_succ, h31]
        simp only [List.getLast]
        go_simp
        refine hK _ _ ?_
        refine hK0 _ _ ?_
        clear hK hK0 K K0
        replace Bk := upK Bk hb2
        replace HL2 := hidK (HL2.out.below hb2)
        replace HB := upB HB hb2
        clear hb2
        clear hW HCS HBW
        have HTX := hidK (And.intro htx (And.intro hri2 hmm2))
        have hxz : x.zs.length = vl := HTx.out.1
        clear htx hri2 hmm2
        obtain ⟨k0, k1, k2, k3, k4, k5⟩ := cs6 Bk.out
        have ltk_1 := lt_of_some Bk.out
        go_wp2
        refine ⟨⟨k + 1, sa, sl, sc, zs2, by omega, by go_num, rfl, ⟨HTX.out.1, HTX.out.2.1, fun s => ?_, by omega⟩, HL.out.trans (HL2.out.out.mono (by have h8 := HL.out.size; rw [size1] at h8; exact h8))⟩, by simp [intOf]; omega⟩
        rw [HTX.out.2.2, HQ.out.2.2.1, PBs.yes HXx.out HHE.out]
      have hq := tl_no he
      have HHE := hidK he
      clear he
      obtain ⟨k0, k1, k2, k3, k4, k5⟩ := cs6 Bk.out
      have ltk_0 := lt_of_some Bk.out
      go_wp2
      refine ⟨⟨k + 1, ca, cl, cc, ys, by omega, by go_num, rfl, ⟨HQ.out.1, HQ.out.2.1, fun s => ?_, by omega⟩, HL.out⟩, by simp [intOf]; omega⟩
      rw [HQ.out.2.2.1, PBs.no HXx.out HHE.out]
    have hkl : k = l5 := by omega
    have hk1 : ¬ (k : Int) < l5 := by omega
    clear hlt HL
    obtain ⟨W1, hW1⟩ : ∃ W1, W1 = wr := ⟨_, rfl⟩
    subst hW1
    obtain ⟨k0, k1, k2, k3, k4, k5⟩ := cs6 Bk.out
    have ltk_0 := lt_of_some Bk.out
    go_wp2
    clear k0 k1 k2 k3 k4 k5 ltk_0
    go_loopw [5, 7] (fun vo vi wr => ∃ (m2 : Nat) (ca : Option Addr) (cl cc : Nat) (ys : List ByteArray), m2 ≤ l3 ∧ vi = .int .i64 m2 ∧ vo = .slice ca cl cc ∧ Hid (TxRow wr ca cl cc ys ∧ RT ys ∧ (∀ s, s ∈ ys ↔ PBs c t k s ∨ VBs c t m2 s) ∧ ys.length ≤ 3 * k + m2) ∧ Hid (Below W1.heap.size W1 wr)) (fun _ vi _ => l3 - (intOf vi).toNat)
    case atStart => exact ⟨0, _, _, _, ys, by omega, rfl, rfl, ⟨HQ.out.1, HQ.out.2.1, fun s => by rw [HQ.out.2.2.1]; exact ⟨.inl, fun h => h.elim id (fun ⟨j, p, h, _⟩ => by omega)⟩, by omega⟩, Below.refl _ _⟩
    case round =>
      clear HQ hyl hyb
      obtain ⟨m2, ca, cl, cc, ys, hmm2, rfl, rfl, HQ, HL⟩ := hrel
      replace Bk := hidK ((HL.out.block _ (lt_of_some Bk.out)).trans Bk.out)
      replace HB := hidK (HB.out.trans (HL.out.mono HB.out.size))
      have hyl : ys.length = cl := HQ.out.1.1
      have hyb := HQ.out.2.2.2
      by_cases hlt : m2 < l3
      · obtain ⟨b, o, x, rfl, hb, hx, hat⟩ := vd_at (HR.out.v.below HB.out) hlt
        obtain ⟨va, vl, vc, hvr, z0, z2, z3, z5, c0, c1, c2, c3, c4, c5, c6, c7⟩ := vd_cells hat
        have HXx := hidK hx
        have HTx := hidK hvr
        have HZx0 := hidK z0
        have HZx2 := hidK z2
        have HZx3 := hidK z3
        have HZx5 := hidK z5
        clear hat hx z0 z2 z3 z5 hvr
        have hbw := hb
        clear hb
        have hk3 : (m2 : Int) < l3 := by omega
        have HL2 : Hid (Bw wr wr) := Bw.refl _
        obtain ⟨k0, k1, k2, k3, k4, k5⟩ := cs6 Bk.out
        have ltk_0 := lt_of_some Bk.out
        go_wp2_with fail
        refine (shas_any va vl vc x.zs t _ HTx.out).mono ?_
        rintro e w1 ⟨r, rfl, hh, hb2⟩
        have hc0 := (cell_below hb2 hbw).trans c0
        have hbw1 : b < w1.heap.size := Nat.lt_of_lt_of_le hbw hb2.size
        clear c0 c1 c2 c3 c4 c5 c6 c7 hbw
        clear k0 k1 k2 k3 k4 k5 ltk_0
        replace Bk := upK Bk hb2
        replace HL2 := hidK (HL2.out.below hb2)
        replace HB := upB HB hb2
        clear hb2
        cases r
        · have HHN : Hid (¬ InL x.zs t) := fun h => (by have h9 := hh.2 h; cases h9)
          clear hh
          obtain ⟨k0, k1, k2, k3, k4, k5⟩ := cs6 Bk.out
          have ltk_1 := lt_of_some Bk.out
          go_wp2
          refine ⟨⟨m2 + 1, ca, cl, cc, ys, by omega, by go_num, rfl, ⟨HQ.out.1.below HL2.out.out, HQ.out.2.1, fun s => ?_, by omega⟩, HL.out.trans (HL2.out.out.mono HL.out.size)⟩, by simp [intOf]; omega⟩
          rw [HQ.out.2.2.1, VBs.no HXx.out HHN.out]
        have HHN : Hid (InL x.zs t) := hh.1 (by first | trivial | rfl)
        clear hh
        obtain ⟨k0, k1, k2, k3, k4, k5⟩ := cs6 Bk.out
        have ltk_1 := lt_of_some Bk.out
        go_wp2_with fail
        refine (sputT_any ca cl cc ys x.n _ (HQ.out.1.below HL2.out.out) (by omega) HZx0.out).mono ?_
        rintro e w2 ⟨sa, sl, sc, zs2, rfl, htx, hput, hb2⟩
        clear k0 k1 k2 k3 k4 k5 ltk_1
        replace Bk := upK Bk hb2
        replace HL2 := hidK (HL2.out.below hb2)
        replace HB := upB HB hb2
        clear hb2
        have HTX := hidK htx
        have HPU := hidK hput
        clear htx hput hc0 hbw1
        obtain ⟨k0, k1, k2, k3, k4, k5⟩ := cs6 Bk.out
        have ltk_2 := lt_of_some Bk.out
        go_wp2
        refine ⟨⟨m2 + 1, sa, sl, sc, zs2, by omega, by go_num, rfl, ⟨HTX.out, HPU.out.ris HQ.out.2.1, fun s => ?_, by have h9 := HPU.out.len; omega⟩, HL.out.trans (HL2.out.out.mono HL.out.size)⟩, by simp [intOf]; omega⟩
        rw [HPU.out.mem, HQ.out.2.2.1, VBs.yes HXx.out HHN.out, or_assoc]
      have hk3 : ¬ (m2 : Int) < l3 := by omega
      have hkl2 : m2 = l3 := by omega
      obtain ⟨k0, k1, k2, k3, k4, k5⟩ := cs6 Bk.out
      have ltk_0 := lt_of_some Bk.out
      go_wp2
      go_ret
      exact ⟨_, _, _, ys, rfl, HQ.out.1, HQ.out.2.1, by rw [hl5, hl3, ← hkl, ← hkl2]; exact HQ.out.2.2.1, HB.out⟩

theorem RisBy.rt {α : Type} {nm : α → ByteArray} {xs : List α} (h : RisBy nm xs) : RT (xs.map nm) := by
  unfold RT
  rw [List.pairwise_iff_getElem]
  intro i j hi hj hij
  rw [List.getElem_map, List.getElem_map]
  rw [List.length_map] at hi hj
  exact h.lt hij (List.getElem?_eq_getElem hi) (List.getElem?_eq_getElem hj)
theorem dskL.rt {c : Cl} {t : ByteArray} (h : RisBy Vd.n c.vs) : RT (dskL c t c.vs) := List.Pairwise.sublist (List.filter_sublist.map _) h.rt
theorem name_ne {x : ByteArray} (h : NameOk x) : ¬ x = ⟨#[]⟩ := fun e => by
  rw [e] at h
  have h8 := h.1
  revert h8
  decide
theorem dsk_same {c : Cl} {t : ByteArray} {zs : List ByteArray} (hT : RightI c) (hr : RT zs) (hm : ∀ s, s ∈ zs ↔ PBs c t c.ps.length s ∨ VBs c t c.vs.length s) : zs = dskL c t c.vs := by
  have hv := hT.2.1.2.2.1.2.2
  have hx := hT.2.1.2.2.2.1.2.2
  refine hr.ext (dskL.rt hv) (fun s => ?_)
  rw [hm]
  unfold dskL
  rw [List.mem_map]
  constructor
  · rintro (⟨j, p, _, hp, hd, k, cl, v, hk, hb, rfl⟩ | ⟨j, v, _, h2, h3, rfl⟩)
    · obtain ⟨i, jv, x, h1, h2, h3, h4⟩ := hb
      have hne : ¬ x.v = ⟨#[]⟩ := by rw [← h4]; exact name_ne (hT.2.1.2.2.1.2.1 jv v h3).1
      obtain ⟨i', j', x', v', k1, k2, k3, k4, k5, k6, _⟩ := (hT.2.2.1.2 i x h1).2.resolve_left hne
      obtain ⟨_, rfl⟩ := hv.inj k3 h3 (k4.trans h4.symm)
      refine ⟨v', List.mem_filter.2 ⟨List.mem_of_getElem? h3, ?_⟩, rfl⟩
      unfold onB
      rw [Bool.or_eq_true]
      refine .inr (wantB_iff.2 ⟨j, p, hp, hd, k, ?_⟩)
      rw [hk, k6, h2]
    · refine ⟨v, List.mem_filter.2 ⟨List.mem_of_getElem? h2, ?_⟩, rfl⟩
      unfold onB
      rw [Bool.or_eq_true]
      exact .inl (inB_iff.2 h3)
  · rintro ⟨v, h1, rfl⟩
    obtain ⟨h2, h3⟩ := List.mem_filter.1 h1
    obtain ⟨jv, hj⟩ := List.getElem?_of_mem h2
    unfold onB at h3
    rw [Bool.or_eq_true] at h3
    rcases h3 with h3 | h3
    · exact .inr ⟨jv, v, (List.getElem?_eq_some_iff.1 hj).1, hj, inB_iff.1 h3, rfl⟩
    · obtain ⟨j, p, hp, hd, k, hk⟩ := wantB_iff.1 h3
      have hz := (hT.2.1.2.2.2.2.2.1 j p hp).2.2.2.1.2
      have hne : ¬ v.m = ⟨#[]⟩ := name_ne (hz k v.m hk).1
      obtain ⟨i', j', x', v', k1, k2, k3, k4, k5, k6, _⟩ := (hT.2.2.1.1 jv v hj).2.resolve_left hne
      exact .inl ⟨j, p, (List.getElem?_eq_some_iff.1 hp).1, hp, hd, k, v.m, v, hk, ⟨i', jv, x', k1, k2, hj, k5.symm⟩, rfl⟩
theorem DskIs.few {c : Cl} {t : ByteArray} {zs : List ByteArray} (h : DskIs c t zs) : zs.length ≤ c.vs.length := by
  rcases h with ⟨_, rfl⟩ | ⟨_, rfl⟩
  · unfold dskL
    rw [List.length_map]
    exact List.length_filter_le _ _
  · simp
def DskS (c : Cl) (t : ByteArray) (w : World) (e : Ending) (w' : World) : Prop := ∃ a l p zs, e = .returned (.slice a l p) ∧ DskIs c t zs ∧ TxRow w' a l p zs ∧ Below w.heap.size w w'

set_option maxRecDepth 100000 in
set_option maxHeartbeats 3200000 in
theorem sdisks_any (d : Ad) (c : Cl) (t : ByteArray) (w : World) (hr : ClRow w d c.raw) :
    Calls Tryz.prog 5 #[.agg #[.slice d.a1 d.l1 d.c1, .slice d.a2 d.l2 d.c2, .slice d.a3 d.l3 d.c3, .slice d.a4 d.l4 d.c4, .slice d.a5 d.l5 d.c5, .int .i64 c.now], .string t] w (DskS c t w) := by
  have HR := hidK hr
  have HB := hidK (Below.refl w.heap.size w)
  clear hr
  by_cases hl : 8000 < t.size
  · have HV : Hid (DskIs c t []) := .inr ⟨fun h => h.1 hl, rfl⟩
    go_enter Tryz.func5, Tryz.ntmps5
    go_wp2
    go_ret
    exact ⟨_, _, _, [], rfl, HV.out, ⟨rfl, Nat.le_refl _, by decide, fun j x hx => by simp at hx, .inl rfl⟩, below2 _ _ _⟩
  go_enter Tryz.func5, Tryz.ntmps5
  go_wp2_with fail
  refine (sright_any d c _ (HR.out.below (HB.out.trans ((below1 _ _).mono HB.out.size)))).mono ?_
  rintro e w1 ⟨r, rfl, hi, hb⟩
  obtain ⟨HA0, hbx⟩ := slots1 hb
  have Bk := hidK HA0
  replace HB := upB HB hbx
  clear hb hbx HA0
  have HI := hidK hi
  clear hi
  cases r
  · have HV : Hid (DskIs c t []) := .inr ⟨fun h => (by have h9 := HI.out.2 h.2.1; cases h9), rfl⟩
    obtain ⟨k0, k1, k2, k3, k4, k5⟩ := cs6 Bk.out
    have ltk_1 := lt_of_some Bk.out
    go_wp2
    go_ret
    exact ⟨_, _, _, [], rfl, HV.out, ⟨rfl, Nat.le_refl _, by decide, fun j x hx => by simp at hx, .inl rfl⟩, HB.out.alloc HB.out.size _⟩
  have HT := hidK (HI.out.1 (by first | trivial | rfl))
  clear HI
  obtain ⟨k0, k1, k2, k3, k4, k5⟩ := cs6 Bk.out
  have ltk_1 := lt_of_some Bk.out
  go_wp2_with fail
  refine (sxnd_any d c.now c.ns t _ (HR.out.n.below HB.out)).mono ?_
  rintro e w2 ⟨hb, hf⟩
  clear k0 k1 k2 k3 k4 k5 ltk_1
  replace Bk := upK Bk hb
  replace HB := upB HB hb
  clear hb
  rcases hf with ⟨i, n, hn, hnn, rfl⟩ | ⟨hno, rfl⟩
  rotate_left
  · have HV : Hid (DskIs c t []) := .inr ⟨fun h => (by rw [hit_no hno] at h; cases h.2.2), rfl⟩
    obtain ⟨k0, k1, k2, k3, k4, k5⟩ := cs6 Bk.out
    have ltk_2 := lt_of_some Bk.out
    go_wp2
    go_ret
    exact ⟨_, _, _, [], rfl, HV.out, ⟨rfl, Nat.le_refl _, by decide, fun j x hx => by simp at hx, .inl rfl⟩, HB.out.alloc HB.out.size _⟩
  have hi0 : ¬ (i : Int) < 0 := by omega
  have HOK : Hid (¬ 8000 < t.size ∧ RightI c ∧ hit Nd.n c.ns t = true) := ⟨hl, HT.out, (hit_at HT.out.2.1.1.2.2 hn hnn).2⟩
  clear hn hnn
  obtain ⟨k0, k1, k2, k3, k4, k5⟩ := cs6 Bk.out
  have ltk_2 := lt_of_some Bk.out
  go_wp2_with fail
  refine (sdskT_any d c t _ (HR.out.below HB.out) HT.out).mono ?_
  rintro e w3 ⟨a, l, p, zs, rfl, htx, hri, hm, hb⟩
  clear k0 k1 k2 k3 k4 k5 ltk_2
  replace Bk := upK Bk hb
  replace HB := upB HB hb
  clear hb
  have HV : Hid (DskIs c t zs) := .inl ⟨HOK.out, dsk_same HT.out hri hm⟩
  have HTX := hidK htx
  clear htx hri hm
  obtain ⟨k0, k1, k2, k3, k4, k5⟩ := cs6 Bk.out
  have ltk_3 := lt_of_some Bk.out
  go_wp2
  go_ret
  exact ⟨_, _, _, zs, rfl, HV.out, HTX.out, HB.out⟩

end Rc
end Go.Proofs.YtclhdmpfponjdaaGreatDoor
