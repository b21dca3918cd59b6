import Derived.Test.YtfapjochclhfpaaGreatDoorA3
import Derived.WalkKit
import Derived.LaidEql
import Derived.Stop.Asserts
import Derived.RowKitTokens
import Derived.Test.YtfapjochclhfpaaGreatDoorRows
import Derived.WalkSpells
import Derived.RegionTactic
/-
  Whether pods are where they may be, as the specification asks it.
-/
namespace Go.Proofs.YtfapjochclhfpaaGreatDoor
open Go.RowKit
namespace Rc
open Mk

def PSa (c : Cl) (p : Pd) : Prop := p.d = ⟨#[]⟩ ∨ ∃ (i : Nat) (n : Nd), c.ns[i]? = some n ∧ n.n = p.d ∧ (p.z = ⟨#[]⟩ ∨ n.z = p.z)
def PSb1 (c : Cl) (p : Pd) (t : ByteArray) : Prop := (∃ (i : Nat) (x : Xd), c.xs[i]? = some x ∧ x.n = t) ∧ (p.d = ⟨#[]⟩ ∨ ∃ (v : Vd) (i : Nat) (n : Nd), IsBd c t v ∧ c.ns[i]? = some n ∧ n.n = p.d ∧ v.z = n.z)
def PSb (c : Cl) (p : Pd) : Prop := ∀ (j : Nat) t, p.zs[j]? = some t → PSb1 c p t
def PSc (c : Cl) (k : Nat) (p : Pd) : Prop := ∀ (j : Nat) q, j < k → c.ps[j]? = some q → PairS c q p
def PS (c : Cl) (k : Nat) (p : Pd) : Prop := PSa c p ∧ PSb c p ∧ PSc c k p
def PlacedS (c : Cl) : Prop := (∀ (k : Nat) p, c.ps[k]? = some p → PS c k p) ∧ ∀ (j : Nat) n, c.ns[j]? = some n → cpuOf n.n c.ps ≤ n.c

set_option maxRecDepth 100000 in
set_option maxHeartbeats 12800000 in
theorem splaced_any (d : Ad) (c : Cl) (w : World) (hr : ClRow w d c.raw) (hn : RisBy Nd.n c.ns) (hx : RisBy Xd.n c.xs) (hv : RisBy Vd.n c.vs) (hne : ∀ (j : Nat) v, c.vs[j]? = some v → ¬ v.n = ⟨#[]⟩) (hps8 : c.ps.length ≤ 8) (hpc : ∀ (j : Nat) p, c.ps[j]? = some p → 0 ≤ p.c ∧ p.c ≤ 1000000) :
    Calls Tryz.prog 74 #[.agg #[.slice d.a1 d.l1 d.c1, .slice d.a2 d.l2 d.c2, .slice d.a3 d.l3 d.c3, .slice d.a4 d.l4 d.c4, .slice d.a5 d.l5 d.c5, .int .i64 c.now]] w (BoolB (PlacedS c) w) := by
  obtain ⟨a1, l1, y1, a2, l2, y2, a3, l3, y3, a4, l4, y4, a5, l5, y5⟩ := d
  dsimp only
  have HR := hidK hr
  have hl1 : c.ns.length = l1 := by simpa using (show (c.ns.map ndF).length = l1 from hr.n.1)
  have hm1 : l1 ≤ 9223372036854775807 := Nat.le_trans hr.n.2.1 hr.n.2.2.1
  have hl2 : c.ks.length = l2 := by simpa using (show (c.ks.map kdF).length = l2 from hr.k.1)
  have hm2 : l2 ≤ 9223372036854775807 := Nat.le_trans hr.k.2.1 hr.k.2.2.1
  have hl3 : c.vs.length = l3 := by simpa using (show (c.vs.map vdF).length = l3 from hr.v.1)
  have hm3 : l3 ≤ 9223372036854775807 := Nat.le_trans hr.v.2.1 hr.v.2.2.1
  have hl4 : c.xs.length = l4 := by simpa using (show (c.xs.map xdF).length = l4 from hr.x.1)
  have hm4 : l4 ≤ 9223372036854775807 := Nat.le_trans hr.x.2.1 hr.x.2.2.1
  have hl5 : c.ps.length = l5 := by simpa using (show (c.ps.map pdF).length = l5 from hr.p.1)
  have hm5 : l5 ≤ 9223372036854775807 := Nat.le_trans hr.p.2.1 hr.p.2.2.1
  clear hr
  have HNR := hidK hn
  have HX := hidK hx
  have HV := hidK hv
  have HNE := hidK hne
  have HL5 := hidK hps8
  have HPC := hidK hpc
  clear hn hx hv hne hps8 hpc
  go_enter Tryz.func74, Tryz.ntmps74
  go_wp2
  go_loopw [3] (fun i wr => ∃ k : Nat, k ≤ l5 ∧ i = .int .i64 k ∧ Hid (∀ (j : Nat) z, j < k → c.ps[j]? = some z → PS c j z) ∧ Hid (Below w.heap.size w wr) ∧ Hid (wr.heap[w.heap.size]? = some (.cells #[.slice a1 l1 y1, .slice a2 l2 y2, .slice a3 l3 y3, .slice a4 l4 y4, .slice a5 l5 y5, .int .i64 c.now] 39 (0, 0)))) (fun i _ => l5 - (intOf i).toNat)
  case atStart => exact ⟨0, by omega, rfl, fun _ _ h => absurd h (by omega), below1 _ _, Array.getElem?_push_size⟩
  case round =>
    obtain ⟨k, hk, rfl, HQ, HB, Bk⟩ := hrel
    have pk : wr.cell? ⟨w.heap.size, 4, none⟩ = some (.slice a5 l5 y5) := cellK Bk.out 4
    by_cases hlt : k < l5
    · obtain ⟨b, o, p, rfl, hb, hx, hat⟩ := pd_at (HR.out.p.below HB.out) hlt
      obtain ⟨va, vl, vc, hvr, z0, z2, z4, c0, c1, c2, c3, c4, c5⟩ := pd_cells hat
      have HXp := hidK hx
      have HTp := hidK hvr
      have HZp0 := hidK z0
      have HZp2 := hidK z2
      have HZp4 := hidK z4
      clear hat hx z0 z2 z4 hvr
      have hvl : p.zs.length = vl := HTp.out.1
      have hvc : vl ≤ 9223372036854775807 := Nat.le_trans HTp.out.2.1 HTp.out.2.2.1
      have HVL := hidK hvl
      clear hvl
      obtain ⟨k0, k1, k2, k3, k4, k5⟩ := cs6 Bk.out
      have ltk_0 := lt_of_some Bk.out
      go_wp2_with fail
      refine (sxnd_any ⟨a1, l1, y1, a2, l2, y2, a3, l3, y3, a4, l4, y4, (some ⟨b, o, none⟩), l5, y5⟩ c.now c.ns p.d _ (HR.out.n.below (HB.out.trans ((below1 _ _).mono HB.out.size)))).mono ?_
      rintro e w1 ⟨hb2, hf⟩
      clear k0 k1 k2 k3 k4 k5 ltk_0
      obtain ⟨HA0, hbx⟩ := slots1 hb2
      replace Bk := upK Bk hbx
      have Br := hidK HA0
      replace HTp := hidK (HTp.out.below hbx)
      replace HB := upB HB hbx
      clear hb2 hbx HA0
      clear pk hb c0 c1 c2 c3 c4 c5
      by_cases he : p.d = ⟨#[]⟩
      · have hq := isE_y he
        have HEm := hidK he
        clear he
        obtain ⟨r5, hre⟩ : ∃ r : Int, e = .returned (.int .i64 r) := by rcases hf with ⟨j, y, _, _, h⟩ | ⟨_, h⟩ <;> exact ⟨_, h⟩
        subst hre
        clear hf
        have Gk : Hid (w1.heap[w.heap.size]? = some (.cells #[.slice a1 l1 y1, .slice a2 l2 y2, .slice a3 l3 y3, .slice a4 l4 y4, .slice (some ⟨b, o, none⟩) l5 y5, .int .i64 c.now] 39 (0, 0))) := Bk.out
        have Gr : Hid (w1.heap[wr.heap.size]? = some (.cells #[.string p.n, .int .i64 p.c, .string p.z, .slice va vl vc, .string p.d, .int .i64 p.p] 118 (0, 0))) := Br.out
        have HW : Hid (Below w.heap.size w w1) := HB.out
        have k0 := fun q : Wd w1 => q.slot (o := 0) Gk.out rfl
        have r0 := fun q : Wd w1 => q.slot (o := 0) Gr.out rfl
        have r1 := fun q : Wd w1 => q.slot (o := 1) Gr.out rfl
        have r2 := fun q : Wd w1 => q.slot (o := 2) Gr.out rfl
        have r3 := fun q : Wd w1 => q.slot (o := 3) Gr.out rfl
        have r4 := fun q : Wd w1 => q.slot (o := 4) Gr.out rfl
        have r5 := fun q : Wd w1 => q.slot (o := 5) Gr.out rfl
        have hne0 := Wd.ne w1
        go_wp2_with fail
        refine wp_region_wide (by kernel_rfl) (by kernel_rfl) ?_
        repeat (go_big_quiet_step (first | fail))
        refine wpQuiet_nil ?_
        rintro _ ⟨q0, rfl⟩
        have HB2 := upB HW q0.b
        have Ck := upK Gk q0.b
        have Cr := upK Gr q0.b
        have CHTp := hidK ((HTp.out).below q0.b)
        clear hne0 HW HB k0 r0 r1 r2 r3 r4 r5 Gk Gr Bk Br HTp
        have HB := HB2
        clear HB2
        have HTp := CHTp
        clear CHTp
        have Bk := Ck
        clear Ck
        have Br := Cr
        clear Cr
        have HPa : Hid (PSa c p) := .inl HEm.out
        obtain ⟨gb, hgb⟩ : ∃ gb, gb = wr.heap.size := ⟨_, rfl⟩
        rw [← hgb] at Br
        have pr3 : q0.w.cell? ⟨gb, 3, none⟩ = some (.slice va vl vc) := cellK Br.out 3
        rw [hgb] at pr3
        go_wp2
        rw [← hgb]
        clear pr3 hgb
        have KV := Bk
        have GV := Br
        have BV := HB
        have TV := HTp
        clear Bk Br HB HTp
        obtain ⟨W, hW⟩ : ∃ W, W = q0.w := ⟨_, rfl⟩
        rw [← hW] at KV GV BV TV ⊢
        clear hW
        go_loopw [6] (fun i wr => ∃ kq : Nat, kq ≤ vl ∧ i = .int .i64 kq ∧ Hid (∀ (j : Nat) t, j < kq → p.zs[j]? = some t → PSb1 c p t) ∧ Hid (Below W.heap.size W wr)) (fun i _ => vl - (intOf i).toNat)
        case atStart => exact ⟨0, by omega, rfl, fun _ _ h => absurd h (by omega), Below.refl _ _⟩
        case round =>
          obtain ⟨kq, hkq, rfl, HQ2, HBW⟩ := hrel
          have HB := hidK (BV.out.trans (HBW.out.mono BV.out.size))
          have Bk := upK KV HBW.out
          have Br := upK GV HBW.out
          have pr3 : wr.cell? ⟨gb, 3, none⟩ = some (.slice va vl vc) := cellK Br.out 3
          by_cases hlt2 : kq < vl
          · obtain ⟨b2, o2, t, rfl, hb, hxt, hc, hsz⟩ := (TV.out.below HBW.out).at hlt2
            have HXt := hidK hxt
            clear hxt hsz
            have hcase : (∃ v, IsBd c t v) ∨ (∀ v, ¬ IsBd c t v) := by
              by_cases h : ∃ v, IsBd c t v
              · exact .inl h
              · exact .inr (fun v hv => h ⟨v, hv⟩)
            rcases hcase with ⟨v, hbd⟩ | hbd
            · obtain ⟨j3, hj3⟩ := hbd.at
              have hl3' : j3 < l3 := by have h1 := (List.getElem?_eq_some_iff.1 hj3).1; omega
              obtain ⟨b3, o3, v', rfl, hb3, hv', hat⟩ := vd_at HR.out.v hl3'
              rw [hj3] at hv'
              obtain rfl := Option.some.inj hv'
              obtain ⟨xa, xl, xc, hvr, z0, z2, z3, z5, d0, d1, d2, d3, d4, d5, d6, d7⟩ := vd_cells hat
              have HJ := hidK hj3
              have HD := hidK hbd
              have HC2 := hidK d2
              have HB3 := hidK hb3
              have hj31 : decide ((j3 : Int) < 0) = false := by simp
              clear hv' hat hvr z0 z2 z3 z5 d0 d1 d2 d3 d4 d5 d6 d7 hj3 hbd hb3
              have Gk : Hid (wr.heap[w.heap.size]? = some (.cells #[.slice a1 l1 y1, .slice a2 l2 y2, .slice (some ⟨b3, o3, none⟩) l3 y3, .slice a4 l4 y4, .slice (some ⟨b, o, none⟩) l5 y5, .int .i64 c.now] 39 (0, 0))) := Bk.out
              have Gr : Hid (wr.heap[gb]? = some (.cells #[.string p.n, .int .i64 p.c, .string p.z, .slice (some ⟨b2, o2, none⟩) vl vc, .string p.d, .int .i64 p.p] 118 (0, 0))) := Br.out
              have HW : Hid (Below w.heap.size w wr) := HB.out
              have k0 := fun q : Wd wr => q.slot (o := 0) Gk.out rfl
              have k1 := fun q : Wd wr => q.slot (o := 1) Gk.out rfl
              have k2 := fun q : Wd wr => q.slot (o := 2) Gk.out rfl
              have k3 := fun q : Wd wr => q.slot (o := 3) Gk.out rfl
              have k4 := fun q : Wd wr => q.slot (o := 4) Gk.out rfl
              have k5 := fun q : Wd wr => q.slot (o := 5) Gk.out rfl
              have r3 := fun q : Wd wr => q.slot (o := 3) Gr.out rfl
              have tw : ∀ q : Wd wr, q.w.cell? ⟨b2, o2 + kq, none⟩ = some (.string t) := fun q => (q.cell (hb)).trans (hc)
              have hne0 := Wd.ne wr
              have HC0 := hidK (fun q : Wd wr => sbind_hit ⟨a1, l1, y1, a2, l2, y2, (some ⟨b3, o3, none⟩), l3, y3, a4, l4, y4, (some ⟨b, o, none⟩), l5, y5⟩ c t q.w (HR.out.below (HW.out.trans (q.b.mono HW.out.size))) HX.out HV.out HNE.out HJ.out HD.out)
              go_wp2_with fail
              refine wp_region_wide (by kernel_rfl) (by kernel_rfl) ?_
              repeat (go_big_quiet_step (first | (go_at_call 58; exact Calls.wide (HC0.out _)) | fail))
              refine wpQuiet_nil ?_
              rintro _ ⟨q1, rfl⟩
              have HB1 := upB HW q1.b
              have Ck := upK Gk q1.b
              have Cr := upK Gr q1.b
              clear hne0 HW HB HC0 k0 k1 k2 k3 k4 k5 r3 tw Gk Gr Bk Br pr3
              have HB := HB1
              clear HB1
              have Bk := Ck
              clear Ck
              have Br := Cr
              clear Cr
              have hc1 := (q1.cell hb).trans hc
              have hb1 : b2 < q1.w.heap.size := Nat.lt_of_lt_of_le hb q1.b.size
              have HBW1 := upB HBW q1.b
              clear hc hb HBW
              by_cases hg : ∃ (i : Nat) (x : Xd), c.xs[i]? = some x ∧ x.n = t
              rotate_left
              · have HG := hidK hg
                clear hg
                have Gk : Hid (q1.w.heap[w.heap.size]? = some (.cells #[.slice a1 l1 y1, .slice a2 l2 y2, .slice (some ⟨b3, o3, none⟩) l3 y3, .slice a4 l4 y4, .slice (some ⟨b, o, none⟩) l5 y5, .int .i64 c.now] 39 (0, 0))) := Bk.out
                have Gr : Hid (q1.w.heap[gb]? = some (.cells #[.string p.n, .int .i64 p.c, .string p.z, .slice (some ⟨b2, o2, none⟩) vl vc, .string p.d, .int .i64 p.p] 118 (0, 0))) := Br.out
                have HW : Hid (Below w.heap.size w q1.w) := HB.out
                have k0 := fun q : Wd q1.w => q.slot (o := 0) Gk.out rfl
                have k1 := fun q : Wd q1.w => q.slot (o := 1) Gk.out rfl
                have k2 := fun q : Wd q1.w => q.slot (o := 2) Gk.out rfl
                have k3 := fun q : Wd q1.w => q.slot (o := 3) Gk.out rfl
                have k4 := fun q : Wd q1.w => q.slot (o := 4) Gk.out rfl
                have k5 := fun q : Wd q1.w => q.slot (o := 5) Gk.out rfl
                have r0 := fun q : Wd q1.w => q.slot (o := 0) Gr.out rfl
                have r1 := fun q : Wd q1.w => q.slot (o := 1) Gr.out rfl
                have r2 := fun q : Wd q1.w => q.slot (o := 2) Gr.out rfl
                have r3 := fun q : Wd q1.w => q.slot (o := 3) Gr.out rfl
                have r4 := fun q : Wd q1.w => q.slot (o := 4) Gr.out rfl
                have r5 := fun q : Wd q1.w => q.slot (o := 5) Gr.out rfl
                have tw : ∀ q : Wd q1.w, q.w.cell? ⟨b2, o2 + kq, none⟩ = some (.string t) := fun q => (q.cell (hb1)).trans (hc1)
                have hne0 := Wd.ne q1.w
                have HC0 := hidK (fun q : Wd q1.w => sxxd_miss ⟨a1, l1, y1, a2, l2, y2, (some ⟨b3, o3, none⟩), l3, y3, a4, l4, y4, (some ⟨b, o, none⟩), l5, y5⟩ c.now c.xs t q.w (HR.out.x.below (HW.out.trans (q.b.mono HW.out.size))) (fun i x h1 h2 => HG.out ⟨i, x, h1, h2⟩))
                go_wp2_with fail
                refine wp_region_wide (by kernel_rfl) (by kernel_rfl) ?_
                repeat (go_big_quiet_step (first | (go_at_call 30; exact Calls.wide (HC0.out _)) | fail))
                refine wpQuiet_nil ?_
                rintro _ ⟨q2, rfl⟩
                have HB2 := upB HW q2.b
                have Ck := upK Gk q2.b
                have Cr := upK Gr q2.b
                clear hne0 HW HB HC0 k0 k1 k2 k3 k4 k5 r0 r1 r2 r3 r4 r5 tw Gk Gr Bk Br hc1 hb1
                have HB := HB2
                clear HB2
                have Bk := Ck
                clear Ck
                have Br := Cr
                clear Cr
                go_wp2
                go_ret
                refine BoolB.f (fun h => ?_) HB.out
                have h9 := (h.1 k p HXp.out).2.1 kq t HXt.out
                exact HG.out h9.1
              obtain ⟨i4, x4, g1, g2⟩ := hg
              have HG1 := hidK g1
              have HG2 := hidK g2
              have hi41 : decide ((i4 : Int) < 0) = false := by simp
              clear g1 g2
              have Gk : Hid (q1.w.heap[w.heap.size]? = some (.cells #[.slice a1 l1 y1, .slice a2 l2 y2, .slice (some ⟨b3, o3, none⟩) l3 y3, .slice a4 l4 y4, .slice (some ⟨b, o, none⟩) l5 y5, .int .i64 c.now] 39 (0, 0))) := Bk.out
              have Gr : Hid (q1.w.heap[gb]? = some (.cells #[.string p.n, .int .i64 p.c, .string p.z, .slice (some ⟨b2, o2, none⟩) vl vc, .string p.d, .int .i64 p.p] 118 (0, 0))) := Br.out
              have HW : Hid (Below w.heap.size w q1.w) := HB.out
              have k0 := fun q : Wd q1.w => q.slot (o := 0) Gk.out rfl
              have k1 := fun q : Wd q1.w => q.slot (o := 1) Gk.out rfl
              have k2 := fun q : Wd q1.w => q.slot (o := 2) Gk.out rfl
              have k3 := fun q : Wd q1.w => q.slot (o := 3) Gk.out rfl
              have k4 := fun q : Wd q1.w => q.slot (o := 4) Gk.out rfl
              have k5 := fun q : Wd q1.w => q.slot (o := 5) Gk.out rfl
              have r0 := fun q : Wd q1.w => q.slot (o := 0) Gr.out rfl
              have r1 := fun q : Wd q1.w => q.slot (o := 1) Gr.out rfl
              have r2 := fun q : Wd q1.w => q.slot (o := 2) Gr.out rfl
              have r3 := fun q : Wd q1.w => q.slot (o := 3) Gr.out rfl
              have r4 := fun q : Wd q1.w => q.slot (o := 4) Gr.out rfl
              have r5 := fun q : Wd q1.w => q.slot (o := 5) Gr.out rfl
              have tw : ∀ q : Wd q1.w, q.w.cell? ⟨b2, o2 + kq, none⟩ = some (.string t) := fun q => (q.cell (hb1)).trans (hc1)
              have hne0 := Wd.ne q1.w
              have HC0 := hidK (fun q : Wd q1.w => sxxd_hit ⟨a1, l1, y1, a2, l2, y2, (some ⟨b3, o3, none⟩), l3, y3, a4, l4, y4, (some ⟨b, o, none⟩), l5, y5⟩ c.now c.xs t q.w (HR.out.x.below (HW.out.trans (q.b.mono HW.out.size))) HX.out HG1.out HG2.out)
              go_wp2_with fail
              refine wp_region_wide (by kernel_rfl) (by kernel_rfl) ?_
              repeat (go_big_quiet_step (first | (go_at_call 30; exact Calls.wide (HC0.out _)) | fail))
              refine wpQuiet_nil ?_
              rintro _ ⟨q2, rfl⟩
              have HB2 := upB HW q2.b
              have Ck := upK Gk q2.b
              have Cr := upK Gr q2.b
              clear hne0 HW HB HC0 k0 k1 k2 k3 k4 k5 r0 r1 r2 r3 r4 r5 tw Gk Gr Bk Br hc1 hb1
              have HB := HB2
              clear HB2
              have Bk := Ck
              clear Ck
              have Br := Cr
              clear Cr
              go_wp2_with fail
              refine ⟨⟨kq + 1, by omega, by go_num, fun j s hj hs => ?_, HBW1.out.trans (q2.b.mono HBW1.out.size)⟩, by simp [intOf]; omega⟩
              by_cases e : j = kq
              · subst e
                rw [HXt.out] at hs
                obtain rfl := Option.some.inj hs
                exact ⟨⟨i4, x4, HG1.out, HG2.out⟩, .inl HEm.out⟩
              · exact HQ2.out j s (by omega) hs
            · have HD := hidK hbd
              clear hbd
              have Gk : Hid (wr.heap[w.heap.size]? = some (.cells #[.slice a1 l1 y1, .slice a2 l2 y2, .slice a3 l3 y3, .slice a4 l4 y4, .slice (some ⟨b, o, none⟩) l5 y5, .int .i64 c.now] 39 (0, 0))) := Bk.out
              have Gr : Hid (wr.heap[gb]? = some (.cells #[.string p.n, .int .i64 p.c, .string p.z, .slice (some ⟨b2, o2, none⟩) vl vc, .string p.d, .int .i64 p.p] 118 (0, 0))) := Br.out
              have HW : Hid (Below w.heap.size w wr) := HB.out
              have k0 := fun q : Wd wr => q.slot (o := 0) Gk.out rfl
              have k1 := fun q : Wd wr => q.slot (o := 1) Gk.out rfl
              have k2 := fun q : Wd wr => q.slot (o := 2) Gk.out rfl
              have k3 := fun q : Wd wr => q.slot (o := 3) Gk.out rfl
              have k4 := fun q : Wd wr => q.slot (o := 4) Gk.out rfl
              have k5 := fun q : Wd wr => q.slot (o := 5) Gk.out rfl
              have r3 := fun q : Wd wr => q.slot (o := 3) Gr.out rfl
              have tw : ∀ q : Wd wr, q.w.cell? ⟨b2, o2 + kq, none⟩ = some (.string t) := fun q => (q.cell (hb)).trans (hc)
              have hne0 := Wd.ne wr
              have HC0 := hidK (fun q : Wd wr => sbind_miss ⟨a1, l1, y1, a2, l2, y2, a3, l3, y3, a4, l4, y4, (some ⟨b, o, none⟩), l5, y5⟩ c t q.w (HR.out.below (HW.out.trans (q.b.mono HW.out.size))) HX.out HV.out HNE.out HD.out)
              go_wp2_with fail
              refine wp_region_wide (by kernel_rfl) (by kernel_rfl) ?_
              repeat (go_big_quiet_step (first | (go_at_call 58; exact Calls.wide (HC0.out _)) | fail))
              refine wpQuiet_nil ?_
              rintro _ ⟨q1, rfl⟩
              have HB1 := upB HW q1.b
              have Ck := upK Gk q1.b
              have Cr := upK Gr q1.b
              clear hne0 HW HB HC0 k0 k1 k2 k3 k4 k5 r3 tw Gk Gr Bk Br pr3
              have HB := HB1
              clear HB1
              have Bk := Ck
              clear Ck
              have Br := Cr
              clear Cr
              have hc1 := (q1.cell hb).trans hc
              have hb1 : b2 < q1.w.heap.size := Nat.lt_of_lt_of_le hb q1.b.size
              have HBW1 := upB HBW q1.b
              clear hc hb HBW
              by_cases hg : ∃ (i : Nat) (x : Xd), c.xs[i]? = some x ∧ x.n = t
              rotate_left
              · have HG := hidK hg
                clear hg
                have Gk : Hid (q1.w.heap[w.heap.size]? = some (.cells #[.slice a1 l1 y1, .slice a2 l2 y2, .slice a3 l3 y3, .slice a4 l4 y4, .slice (some ⟨b, o, none⟩) l5 y5, .int .i64 c.now] 39 (0, 0))) := Bk.out
                have Gr : Hid (q1.w.heap[gb]? = some (.cells #[.string p.n, .int .i64 p.c, .string p.z, .slice (some ⟨b2, o2, none⟩) vl vc, .string p.d, .int .i64 p.p] 118 (0, 0))) := Br.out
                have HW : Hid (Below w.heap.size w q1.w) := HB.out
                have k0 := fun q : Wd q1.w => q.slot (o := 0) Gk.out rfl
                have k1 := fun q : Wd q1.w => q.slot (o := 1) Gk.out rfl
                have k2 := fun q : Wd q1.w => q.slot (o := 2) Gk.out rfl
                have k3 := fun q : Wd q1.w => q.slot (o := 3) Gk.out rfl
                have k4 := fun q : Wd q1.w => q.slot (o := 4) Gk.out rfl
                have k5 := fun q : Wd q1.w => q.slot (o := 5) Gk.out rfl
                have r0 := fun q : Wd q1.w => q.slot (o := 0) Gr.out rfl
                have r1 := fun q : Wd q1.w => q.slot (o := 1) Gr.out rfl
                have r2 := fun q : Wd q1.w => q.slot (o := 2) Gr.out rfl
                have r3 := fun q : Wd q1.w => q.slot (o := 3) Gr.out rfl
                have r4 := fun q : Wd q1.w => q.slot (o := 4) Gr.out rfl
                have r5 := fun q : Wd q1.w => q.slot (o := 5) Gr.out rfl
                have tw : ∀ q : Wd q1.w, q.w.cell? ⟨b2, o2 + kq, none⟩ = some (.string t) := fun q => (q.cell (hb1)).trans (hc1)
                have hne0 := Wd.ne q1.w
                have HC0 := hidK (fun q : Wd q1.w => sxxd_miss ⟨a1, l1, y1, a2, l2, y2, a3, l3, y3, a4, l4, y4, (some ⟨b, o, none⟩), l5, y5⟩ c.now c.xs t q.w (HR.out.x.below (HW.out.trans (q.b.mono HW.out.size))) (fun i x h1 h2 => HG.out ⟨i, x, h1, h2⟩))
                go_wp2_with fail
                refine wp_region_wide (by kernel_rfl) (by kernel_rfl) ?_
                repeat (go_big_quiet_step (first | (go_at_call 30; exact Calls.wide (HC0.out _)) | fail))
                refine wpQuiet_nil ?_
                rintro _ ⟨q2, rfl⟩
                have HB2 := upB HW q2.b
                have Ck := upK Gk q2.b
                have Cr := upK Gr q2.b
                clear hne0 HW HB HC0 k0 k1 k2 k3 k4 k5 r0 r1 r2 r3 r4 r5 tw Gk Gr Bk Br hc1 hb1
                have HB := HB2
                clear HB2
                have Bk := Ck
                clear Ck
                have Br := Cr
                clear Cr
                go_wp2
                go_ret
                refine BoolB.f (fun h => ?_) HB.out
                have h9 := (h.1 k p HXp.out).2.1 kq t HXt.out
                exact HG.out h9.1
              obtain ⟨i4, x4, g1, g2⟩ := hg
              have HG1 := hidK g1
              have HG2 := hidK g2
              have hi41 : decide ((i4 : Int) < 0) = false := by simp
              clear g1 g2
              have Gk : Hid (q1.w.heap[w.heap.size]? = some (.cells #[.slice a1 l1 y1, .slice a2 l2 y2, .slice a3 l3 y3, .slice a4 l4 y4, .slice (some ⟨b, o, none⟩) l5 y5, .int .i64 c.now] 39 (0, 0))) := Bk.out
              have Gr : Hid (q1.w.heap[gb]? = some (.cells #[.string p.n, .int .i64 p.c, .string p.z, .slice (some ⟨b2, o2, none⟩) vl vc, .string p.d, .int .i64 p.p] 118 (0, 0))) := Br.out
              have HW : Hid (Below w.heap.size w q1.w) := HB.out
              have k0 := fun q : Wd q1.w => q.slot (o := 0) Gk.out rfl
              have k1 := fun q : Wd q1.w => q.slot (o := 1) Gk.out rfl
              have k2 := fun q : Wd q1.w => q.slot (o := 2) Gk.out rfl
              have k3 := fun q : Wd q1.w => q.slot (o := 3) Gk.out rfl
              have k4 := fun q : Wd q1.w => q.slot (o := 4) Gk.out rfl
              have k5 := fun q : Wd q1.w => q.slot (o := 5) Gk.out rfl
              have r0 := fun q : Wd q1.w => q.slot (o := 0) Gr.out rfl
              have r1 := fun q : Wd q1.w => q.slot (o := 1) Gr.out rfl
              have r2 := fun q : Wd q1.w => q.slot (o := 2) Gr.out rfl
              have r3 := fun q : Wd q1.w => q.slot (o := 3) Gr.out rfl
              have r4 := fun q : Wd q1.w => q.slot (o := 4) Gr.out rfl
              have r5 := fun q : Wd q1.w => q.slot (o := 5) Gr.out rfl
              have tw : ∀ q : Wd q1.w, q.w.cell? ⟨b2, o2 + kq, none⟩ = some (.string t) := fun q => (q.cell (hb1)).trans (hc1)
              have hne0 := Wd.ne q1.w
              have HC0 := hidK (fun q : Wd q1.w => sxxd_hit ⟨a1, l1, y1, a2, l2, y2, a3, l3, y3, a4, l4, y4, (some ⟨b, o, none⟩), l5, y5⟩ c.now c.xs t q.w (HR.out.x.below (HW.out.trans (q.b.mono HW.out.size))) HX.out HG1.out HG2.out)
              go_wp2_with fail
              refine wp_region_wide (by kernel_rfl) (by kernel_rfl) ?_
              repeat (go_big_quiet_step (first | (go_at_call 30; exact Calls.wide (HC0.out _)) | fail))
              refine wpQuiet_nil ?_
              rintro _ ⟨q2, rfl⟩
              have HB2 := upB HW q2.b
              have Ck := upK Gk q2.b
              have Cr := upK Gr q2.b
              clear hne0 HW HB HC0 k0 k1 k2 k3 k4 k5 r0 r1 r2 r3 r4 r5 tw Gk Gr Bk Br hc1 hb1
              have HB := HB2
              clear HB2
              have Bk := Ck
              clear Ck
              have Br := Cr
              clear Cr
              go_wp2_with fail
              refine ⟨⟨kq + 1, by omega, by go_num, fun j s hj hs => ?_, HBW1.out.trans (q2.b.mono HBW1.out.size)⟩, by simp [intOf]; omega⟩
              by_cases e : j = kq
              · subst e
                rw [HXt.out] at hs
                obtain rfl := Option.some.inj hs
                exact ⟨⟨i4, x4, HG1.out, HG2.out⟩, .inl HEm.out⟩
              · exact HQ2.out j s (by omega) hs
          · obtain rfl : vl = kq := by omega
            have HQb : Hid (PSb c p) := fun j t ht => HQ2.out j t (by have h1 := (List.getElem?_eq_some_iff.1 ht).1; have h2 := HVL.out; omega) ht
            clear HQ2
            have TV2 := hidK (TV.out.below HBW.out)
            have KV2 := Bk
            have GV2 := Br
            have BV2 := HB
            clear KV GV BV TV Bk Br HB HBW
            obtain ⟨W2, hW⟩ : ∃ W2, W2 = wr := ⟨_, rfl⟩
            rw [← hW] at KV2 GV2 BV2 TV2
            go_wp2
            clear pr3
            rw [← hW]
            clear hW
            go_loopw [8] (fun i wr => ∃ kz : Nat, kz ≤ k ∧ i = .int .i64 kz ∧ Hid (∀ (j : Nat) q, j < kz → c.ps[j]? = some q → PairS c q p) ∧ Hid (Below W2.heap.size W2 wr)) (fun i _ => k - (intOf i).toNat)
            case atStart => exact ⟨0, by omega, rfl, fun _ _ h => absurd h (by omega), Below.refl _ _⟩
            case round =>
              obtain ⟨kz, hkz, rfl, HQ3, HBW⟩ := hrel
              have HB := hidK (BV2.out.trans (HBW.out.mono BV2.out.size))
              have Bk := upK KV2 HBW.out
              have Br := upK GV2 HBW.out
              have HTp := hidK (TV2.out.below HBW.out)
              by_cases hlt3 : kz < k
              · obtain ⟨b', o', pq, e', hb', hqq, hatq⟩ := pd_at (HR.out.p.below HB.out) (show kz < l5 by omega)
                cases e'
                obtain ⟨qa, ql, qc, hqr, z0, z2, z4, d0, d1, d2, d3, d4, d5⟩ := pd_cells hatq
                have HXq := hidK hqq
                have HTq := hidK hqr
                clear hatq hqq hqr z0 z2 z4
                by_cases hpr : PairS c pq p
                · have HPr := hidK hpr
                  clear hpr
                  have Gk : Hid (wr.heap[w.heap.size]? = some (.cells #[.slice a1 l1 y1, .slice a2 l2 y2, .slice a3 l3 y3, .slice a4 l4 y4, .slice (some ⟨b, o, none⟩) l5 y5, .int .i64 c.now] 39 (0, 0))) := Bk.out
                  have Gr : Hid (wr.heap[gb]? = some (.cells #[.string p.n, .int .i64 p.c, .string p.z, .slice va vl vc, .string p.d, .int .i64 p.p] 118 (0, 0))) := Br.out
                  have HW : Hid (Below w.heap.size w wr) := HB.out
                  have k0 := fun q : Wd wr => q.slot (o := 0) Gk.out rfl
                  have k1 := fun q : Wd wr => q.slot (o := 1) Gk.out rfl
                  have k2 := fun q : Wd wr => q.slot (o := 2) Gk.out rfl
                  have k3 := fun q : Wd wr => q.slot (o := 3) Gk.out rfl
                  have k4 := fun q : Wd wr => q.slot (o := 4) Gk.out rfl
                  have k5 := fun q : Wd wr => q.slot (o := 5) Gk.out rfl
                  have r0 := fun q : Wd wr => q.slot (o := 0) Gr.out rfl
                  have r1 := fun q : Wd wr => q.slot (o := 1) Gr.out rfl
                  have r2 := fun q : Wd wr => q.slot (o := 2) Gr.out rfl
                  have r3 := fun q : Wd wr => q.slot (o := 3) Gr.out rfl
                  have r4 := fun q : Wd wr => q.slot (o := 4) Gr.out rfl
                  have r5 := fun q : Wd wr => q.slot (o := 5) Gr.out rfl
                  have q0 : ∀ q : Wd wr, q.w.cell? ⟨b, o + kz * 6, none⟩ = some (.string pq.n) := fun q => (q.cell (hb')).trans (d0)
                  have q1 : ∀ q : Wd wr, q.w.cell? ⟨b, o + kz * 6 + 1, none⟩ = some (.int .i64 pq.c) := fun q => (q.cell (hb')).trans (d1)
                  have q2 : ∀ q : Wd wr, q.w.cell? ⟨b, o + kz * 6 + 2, none⟩ = some (.string pq.z) := fun q => (q.cell (hb')).trans (d2)
                  have q3 : ∀ q : Wd wr, q.w.cell? ⟨b, o + kz * 6 + 3, none⟩ = some (.slice qa ql qc) := fun q => (q.cell (hb')).trans (d3)
                  have q4 : ∀ q : Wd wr, q.w.cell? ⟨b, o + kz * 6 + 4, none⟩ = some (.string pq.d) := fun q => (q.cell (hb')).trans (d4)
                  have q5 : ∀ q : Wd wr, q.w.cell? ⟨b, o + kz * 6 + 5, none⟩ = some (.int .i64 pq.p) := fun q => (q.cell (hb')).trans (d5)
                  have hne0 := Wd.ne wr
                  have HC0 := hidK (fun qw : Wd wr => (spair_any ⟨a1, l1, y1, a2, l2, y2, a3, l3, y3, a4, l4, y4, (some ⟨b, o, none⟩), l5, y5⟩ c pq p qa ql qc va vl vc qw.w (HR.out.below (HW.out.trans (qw.b.mono HW.out.size))) HX.out HV.out HNE.out (HTq.out.below qw.b) (HTp.out.below qw.b)).mono (fun _ _ h => BoolB.yes h HPr.out))
                  go_wp2_with fail
                  refine wp_region_wide (by kernel_rfl) (by kernel_rfl) ?_
                  repeat (go_big_quiet_step (first | (go_at_call 127; exact Calls.wide (HC0.out _)) | fail))
                  refine wpQuiet_nil ?_
                  rintro _ ⟨q9, rfl⟩
                  have HB1 := upB HW q9.b
                  have Ck := upK Gk q9.b
                  have Cr := upK Gr q9.b
                  clear hne0 HW HB HC0 k0 k1 k2 k3 k4 k5 r0 r1 r2 r3 r4 r5 q0 q1 q2 q3 q4 q5 Gk Gr Bk Br d0 d1 d2 d3 d4 d5
                  have HB := HB1
                  clear HB1
                  have Bk := Ck
                  clear Ck
                  have Br := Cr
                  clear Cr
                  go_wp2_with fail
                  refine ⟨⟨kz + 1, by omega, by go_num, fun j s hj hs => ?_, HBW.out.trans (q9.b.mono HBW.out.size)⟩, by simp [intOf]; omega⟩
                  by_cases e : j = kz
                  · subst e
                    rw [HXq.out] at hs
                    obtain rfl := Option.some.inj hs
                    exact HPr.out
                  · exact HQ3.out j s (by omega) hs
                · have HPr := hidK hpr
                  clear hpr
                  have Gk : Hid (wr.heap[w.heap.size]? = some (.cells #[.slice a1 l1 y1, .slice a2 l2 y2, .slice a3 l3 y3, .slice a4 l4 y4, .slice (some ⟨b, o, none⟩) l5 y5, .int .i64 c.now] 39 (0, 0))) := Bk.out
                  have Gr : Hid (wr.heap[gb]? = some (.cells #[.string p.n, .int .i64 p.c, .string p.z, .slice va vl vc, .string p.d, .int .i64 p.p] 118 (0, 0))) := Br.out
                  have HW : Hid (Below w.heap.size w wr) := HB.out
                  have k0 := fun q : Wd wr => q.slot (o := 0) Gk.out rfl
                  have k1 := fun q : Wd wr => q.slot (o := 1) Gk.out rfl
                  have k2 := fun q : Wd wr => q.slot (o := 2) Gk.out rfl
                  have k3 := fun q : Wd wr => q.slot (o := 3) Gk.out rfl
                  have k4 := fun q : Wd wr => q.slot (o := 4) Gk.out rfl
                  have k5 := fun q : Wd wr => q.slot (o := 5) Gk.out rfl
                  have r0 := fun q : Wd wr => q.slot (o := 0) Gr.out rfl
                  have r1 := fun q : Wd wr => q.slot (o := 1) Gr.out rfl
                  have r2 := fun q : Wd wr => q.slot (o := 2) Gr.out rfl
                  have r3 := fun q : Wd wr => q.slot (o := 3) Gr.out rfl
                  have r4 := fun q : Wd wr => q.slot (o := 4) Gr.out rfl
                  have r5 := fun q : Wd wr => q.slot (o := 5) Gr.out rfl
                  have q0 : ∀ q : Wd wr, q.w.cell? ⟨b, o + kz * 6, none⟩ = some (.string pq.n) := fun q => (q.cell (hb')).trans (d0)
                  have q1 : ∀ q : Wd wr, q.w.cell? ⟨b, o + kz * 6 + 1, none⟩ = some (.int .i64 pq.c) := fun q => (q.cell (hb')).trans (d1)
                  have q2 : ∀ q : Wd wr, q.w.cell? ⟨b, o + kz * 6 + 2, none⟩ = some (.string pq.z) := fun q => (q.cell (hb')).trans (d2)
                  have q3 : ∀ q : Wd wr, q.w.cell? ⟨b, o + kz * 6 + 3, none⟩ = some (.slice qa ql qc) := fun q => (q.cell (hb')).trans (d3)
                  have q4 : ∀ q : Wd wr, q.w.cell? ⟨b, o + kz * 6 + 4, none⟩ = some (.string pq.d) := fun q => (q.cell (hb')).trans (d4)
                  have q5 : ∀ q : Wd wr, q.w.cell? ⟨b, o + kz * 6 + 5, none⟩ = some (.int .i64 pq.p) := fun q => (q.cell (hb')).trans (d5)
                  have hne0 := Wd.ne wr
                  have HC0 := hidK (fun qw : Wd wr => (spair_any ⟨a1, l1, y1, a2, l2, y2, a3, l3, y3, a4, l4, y4, (some ⟨b, o, none⟩), l5, y5⟩ c pq p qa ql qc va vl vc qw.w (HR.out.below (HW.out.trans (qw.b.mono HW.out.size))) HX.out HV.out HNE.out (HTq.out.below qw.b) (HTp.out.below qw.b)).mono (fun _ _ h => BoolB.no h HPr.out))
                  go_wp2_with fail
                  refine wp_region_wide (by kernel_rfl) (by kernel_rfl) ?_
                  repeat (go_big_quiet_step (first | (go_at_call 127; exact Calls.wide (HC0.out _)) | fail))
                  refine wpQuiet_nil ?_
                  rintro _ ⟨q9, rfl⟩
                  have HB1 := upB HW q9.b
                  have Ck := upK Gk q9.b
                  have Cr := upK Gr q9.b
                  clear hne0 HW HB HC0 k0 k1 k2 k3 k4 k5 r0 r1 r2 r3 r4 r5 q0 q1 q2 q3 q4 q5 Gk Gr Bk Br d0 d1 d2 d3 d4 d5
                  have HB := HB1
                  clear HB1
                  have Bk := Ck
                  clear Ck
                  have Br := Cr
                  clear Cr
                  go_wp2
                  go_ret
                  exact BoolB.f (fun h => HPr.out ((h.1 k p HXp.out).2.2 kz pq hlt3 HXq.out)) HB.out
              · obtain rfl : k = kz := by omega
                go_wp2_with fail
                refine ⟨⟨k + 1, by omega, by go_num, fun j z hj hz => ?_, HB.out, Bk.out⟩, by simp [intOf]; omega⟩
                by_cases e : j = k
                · subst e
                  rw [HXp.out] at hz
                  obtain rfl := Option.some.inj hz
                  exact ⟨HPa.out, HQb.out, fun j2 q2 hj2 hq2 => HQ3.out j2 q2 hj2 hq2⟩
                · exact HQ.out j z (by omega) hz
      have hq := isE_no he
      have HEm := hidK he
      clear he
      rcases hf with ⟨j1, n, h1, h2, rfl⟩ | ⟨hh, rfl⟩
      rotate_left
      · have HH := hidK hh
        clear hh
        have Gk : Hid (w1.heap[w.heap.size]? = some (.cells #[.slice a1 l1 y1, .slice a2 l2 y2, .slice a3 l3 y3, .slice a4 l4 y4, .slice (some ⟨b, o, none⟩) l5 y5, .int .i64 c.now] 39 (0, 0))) := Bk.out
        have Gr : Hid (w1.heap[wr.heap.size]? = some (.cells #[.string p.n, .int .i64 p.c, .string p.z, .slice va vl vc, .string p.d, .int .i64 p.p] 118 (0, 0))) := Br.out
        have HW : Hid (Below w.heap.size w w1) := HB.out
        have k0 := fun q : Wd w1 => q.slot (o := 0) Gk.out rfl
        have r0 := fun q : Wd w1 => q.slot (o := 0) Gr.out rfl
        have r1 := fun q : Wd w1 => q.slot (o := 1) Gr.out rfl
        have r2 := fun q : Wd w1 => q.slot (o := 2) Gr.out rfl
        have r3 := fun q : Wd w1 => q.slot (o := 3) Gr.out rfl
        have r4 := fun q : Wd w1 => q.slot (o := 4) Gr.out rfl
        have r5 := fun q : Wd w1 => q.slot (o := 5) Gr.out rfl
        have hne0 := Wd.ne w1
        go_wp2_with fail
        refine wp_region_wide (by kernel_rfl) (by kernel_rfl) ?_
        repeat (go_big_quiet_step (first | fail))
        refine wpQuiet_nil ?_
        rintro _ ⟨q0, rfl⟩
        have HB2 := upB HW q0.b
        have Ck := upK Gk q0.b
        have Cr := upK Gr q0.b
        have CHTp := hidK ((HTp.out).below q0.b)
        clear hne0 HW HB k0 r0 r1 r2 r3 r4 r5 Gk Gr Bk Br HTp
        have HB := HB2
        clear HB2
        have HTp := CHTp
        clear CHTp
        have Bk := Ck
        clear Ck
        have Br := Cr
        clear Cr
        go_wp2
        go_ret
        refine BoolB.f (fun h => ?_) HB.out
        rcases (h.1 k p HXp.out).1 with h2 | ⟨i, n, h2, h3, _⟩
        · exact HEm.out h2
        · exact HH.out i n h2 h3
      have hl1' : j1 < l1 := by have h3 := (List.getElem?_eq_some_iff.1 h1).1; omega
      obtain ⟨b1, o1, n', rfl, hb1n, hn', hat⟩ := nd_at HR.out.n hl1'
      rw [h1] at hn'
      obtain rfl := Option.some.inj hn'
      obtain ⟨na, nl, nc, hnr, z0, z1, d0, d1, d2, d3, d4, d5, d6⟩ := nd_cells hat
      have HJn := hidK h1
      have HNn := hidK h2
      have HCn := hidK d1
      have HBn := hidK hb1n
      have hj11 : decide ((j1 : Int) < 0) = false := by simp
      have hbn : b1 < w1.heap.size := Nat.lt_of_lt_of_le hb1n HB.out.size
      have n1 := (cell_below HB.out hb1n).trans d1
      clear hn' hat hnr z0 z1 d0 d1 d2 d3 d4 d5 d6 h1 h2 hb1n
      by_cases hz0 : p.z = ⟨#[]⟩
      · have hq2 := isE_y hz0
        have HPa : Hid (PSa c p) := .inr ⟨j1, n, HJn.out, HNn.out, .inl hz0⟩
        clear hz0
        have Gk : Hid (w1.heap[w.heap.size]? = some (.cells #[.slice (some ⟨b1, o1, none⟩) l1 y1, .slice a2 l2 y2, .slice a3 l3 y3, .slice a4 l4 y4, .slice (some ⟨b, o, none⟩) l5 y5, .int .i64 c.now] 39 (0, 0))) := Bk.out
        have Gr : Hid (w1.heap[wr.heap.size]? = some (.cells #[.string p.n, .int .i64 p.c, .string p.z, .slice va vl vc, .string p.d, .int .i64 p.p] 118 (0, 0))) := Br.out
        have HW : Hid (Below w.heap.size w w1) := HB.out
        have k0 := fun q : Wd w1 => q.slot (o := 0) Gk.out rfl
        have r0 := fun q : Wd w1 => q.slot (o := 0) Gr.out rfl
        have r1 := fun q : Wd w1 => q.slot (o := 1) Gr.out rfl
        have r2 := fun q : Wd w1 => q.slot (o := 2) Gr.out rfl
        have r3 := fun q : Wd w1 => q.slot (o := 3) Gr.out rfl
        have r4 := fun q : Wd w1 => q.slot (o := 4) Gr.out rfl
        have r5 := fun q : Wd w1 => q.slot (o := 5) Gr.out rfl
        have nw : ∀ q : Wd w1, q.w.cell? ⟨b1, o1 + j1 * 7 + 1, none⟩ = some (.string n.z) := fun q => (q.cell (hbn)).trans (n1)
        have hne0 := Wd.ne w1
        go_wp2_with fail
        refine wp_region_wide (by kernel_rfl) (by kernel_rfl) ?_
        repeat (go_big_quiet_step (first | fail))
        refine wpQuiet_nil ?_
        rintro _ ⟨q0, rfl⟩
        have HB2 := upB HW q0.b
        have Ck := upK Gk q0.b
        have Cr := upK Gr q0.b
        have CHTp := hidK ((HTp.out).below q0.b)
        clear hne0 HW HB k0 r0 r1 r2 r3 r4 r5 nw Gk Gr Bk Br HTp hbn n1
        have HB := HB2
        clear HB2
        have HTp := CHTp
        clear CHTp
        have Bk := Ck
        clear Ck
        have Br := Cr
        clear Cr
        clear hq2
        obtain ⟨gb, hgb⟩ : ∃ gb, gb = wr.heap.size := ⟨_, rfl⟩
        rw [← hgb] at Br
        have pr3 : q0.w.cell? ⟨gb, 3, none⟩ = some (.slice va vl vc) := cellK Br.out 3
        rw [hgb] at pr3
        go_wp2
        rw [← hgb]
        clear pr3 hgb
        have KV := Bk
        have GV := Br
        have BV := HB
        have TV := HTp
        clear Bk Br HB HTp
        obtain ⟨W, hW⟩ : ∃ W, W = q0.w := ⟨_, rfl⟩
        rw [← hW] at KV GV BV TV ⊢
        clear hW
        go_loopw [6] (fun i wr => ∃ kq : Nat, kq ≤ vl ∧ i = .int .i64 kq ∧ Hid (∀ (j : Nat) t, j < kq → p.zs[j]? = some t → PSb1 c p t) ∧ Hid (Below W.heap.size W wr)) (fun i _ => vl - (intOf i).toNat)
        case atStart => exact ⟨0, by omega, rfl, fun _ _ h => absurd h (by omega), Below.refl _ _⟩
        case round =>
          obtain ⟨kq, hkq, rfl, HQ2, HBW⟩ := hrel
          have HB := hidK (BV.out.trans (HBW.out.mono BV.out.size))
          have Bk := upK KV HBW.out
          have Br := upK GV HBW.out
          have pr3 : wr.cell? ⟨gb, 3, none⟩ = some (.slice va vl vc) := cellK Br.out 3
          by_cases hlt2 : kq < vl
          · obtain ⟨b2, o2, t, rfl, hb, hxt, hc, hsz⟩ := (TV.out.below HBW.out).at hlt2
            have HXt := hidK hxt
            clear hxt hsz
            have hcase : (∃ v, IsBd c t v) ∨ (∀ v, ¬ IsBd c t v) := by
              by_cases h : ∃ v, IsBd c t v
              · exact .inl h
              · exact .inr (fun v hv => h ⟨v, hv⟩)
            rcases hcase with ⟨v, hbd⟩ | hbd
            · obtain ⟨j3, hj3⟩ := hbd.at
              have hl3' : j3 < l3 := by have h1 := (List.getElem?_eq_some_iff.1 hj3).1; omega
              obtain ⟨b3, o3, v', rfl, hb3, hv', hat⟩ := vd_at HR.out.v hl3'
              rw [hj3] at hv'
              obtain rfl := Option.some.inj hv'
              obtain ⟨xa, xl, xc, hvr, z0, z2, z3, z5, d0, d1, d2, d3, d4, d5, d6, d7⟩ := vd_cells hat
              have HJ := hidK hj3
              have HD := hidK hbd
              have HC2 := hidK d2
              have HB3 := hidK hb3
              have hj31 : decide ((j3 : Int) < 0) = false := by simp
              clear hv' hat hvr z0 z2 z3 z5 d0 d1 d2 d3 d4 d5 d6 d7 hj3 hbd hb3
              have Gk : Hid (wr.heap[w.heap.size]? = some (.cells #[.slice (some ⟨b1, o1, none⟩) l1 y1, .slice a2 l2 y2, .slice (some ⟨b3, o3, none⟩) l3 y3, .slice a4 l4 y4, .slice (some ⟨b, o, none⟩) l5 y5, .int .i64 c.now] 39 (0, 0))) := Bk.out
              have Gr : Hid (wr.heap[gb]? = some (.cells #[.string p.n, .int .i64 p.c, .string p.z, .slice (some ⟨b2, o2, none⟩) vl vc, .string p.d, .int .i64 p.p] 118 (0, 0))) := Br.out
              have HW : Hid (Below w.heap.size w wr) := HB.out
              have k0 := fun q : Wd wr => q.slot (o := 0) Gk.out rfl
              have k1 := fun q : Wd wr => q.slot (o := 1) Gk.out rfl
              have k2 := fun q : Wd wr => q.slot (o := 2) Gk.out rfl
              have k3 := fun q : Wd wr => q.slot (o := 3) Gk.out rfl
              have k4 := fun q : Wd wr => q.slot (o := 4) Gk.out rfl
              have k5 := fun q : Wd wr => q.slot (o := 5) Gk.out rfl
              have r3 := fun q : Wd wr => q.slot (o := 3) Gr.out rfl
              have tw : ∀ q : Wd wr, q.w.cell? ⟨b2, o2 + kq, none⟩ = some (.string t) := fun q => (q.cell (hb)).trans (hc)
              have hne0 := Wd.ne wr
              have HC0 := hidK (fun q : Wd wr => sbind_hit ⟨(some ⟨b1, o1, none⟩), l1, y1, a2, l2, y2, (some ⟨b3, o3, none⟩), l3, y3, a4, l4, y4, (some ⟨b, o, none⟩), l5, y5⟩ c t q.w (HR.out.below (HW.out.trans (q.b.mono HW.out.size))) HX.out HV.out HNE.out HJ.out HD.out)
              go_wp2_with fail
              refine wp_region_wide (by kernel_rfl) (by kernel_rfl) ?_
              repeat (go_big_quiet_step (first | (go_at_call 58; exact Calls.wide (HC0.out _)) | fail))
              refine wpQuiet_nil ?_
              rintro _ ⟨q1, rfl⟩
              have HB1 := upB HW q1.b
              have Ck := upK Gk q1.b
              have Cr := upK Gr q1.b
              clear hne0 HW HB HC0 k0 k1 k2 k3 k4 k5 r3 tw Gk Gr Bk Br pr3
              have HB := HB1
              clear HB1
              have Bk := Ck
              clear Ck
              have Br := Cr
              clear Cr
              have hc1 := (q1.cell hb).trans hc
              have hb1 : b2 < q1.w.heap.size := Nat.lt_of_lt_of_le hb q1.b.size
              have HBW1 := upB HBW q1.b
              clear hc hb HBW
              by_cases hg : ∃ (i : Nat) (x : Xd), c.xs[i]? = some x ∧ x.n = t
              rotate_left
              · have HG := hidK hg
                clear hg
                have Gk : Hid (q1.w.heap[w.heap.size]? = some (.cells #[.slice (some ⟨b1, o1, none⟩) l1 y1, .slice a2 l2 y2, .slice (some ⟨b3, o3, none⟩) l3 y3, .slice a4 l4 y4, .slice (some ⟨b, o, none⟩) l5 y5, .int .i64 c.now] 39 (0, 0))) := Bk.out
                have Gr : Hid (q1.w.heap[gb]? = some (.cells #[.string p.n, .int .i64 p.c, .string p.z, .slice (some ⟨b2, o2, none⟩) vl vc, .string p.d, .int .i64 p.p] 118 (0, 0))) := Br.out
                have HW : Hid (Below w.heap.size w q1.w) := HB.out
                have k0 := fun q : Wd q1.w => q.slot (o := 0) Gk.out rfl
                have k1 := fun q : Wd q1.w => q.slot (o := 1) Gk.out rfl
                have k2 := fun q : Wd q1.w => q.slot (o := 2) Gk.out rfl
                have k3 := fun q : Wd q1.w => q.slot (o := 3) Gk.out rfl
                have k4 := fun q : Wd q1.w => q.slot (o := 4) Gk.out rfl
                have k5 := fun q : Wd q1.w => q.slot (o := 5) Gk.out rfl
                have r0 := fun q : Wd q1.w => q.slot (o := 0) Gr.out rfl
                have r1 := fun q : Wd q1.w => q.slot (o := 1) Gr.out rfl
                have r2 := fun q : Wd q1.w => q.slot (o := 2) Gr.out rfl
                have r3 := fun q : Wd q1.w => q.slot (o := 3) Gr.out rfl
                have r4 := fun q : Wd q1.w => q.slot (o := 4) Gr.out rfl
                have r5 := fun q : Wd q1.w => q.slot (o := 5) Gr.out rfl
                have tw : ∀ q : Wd q1.w, q.w.cell? ⟨b2, o2 + kq, none⟩ = some (.string t) := fun q => (q.cell (hb1)).trans (hc1)
                have hne0 := Wd.ne q1.w
                have HC0 := hidK (fun q : Wd q1.w => sxxd_miss ⟨(some ⟨b1, o1, none⟩), l1, y1, a2, l2, y2, (some ⟨b3, o3, none⟩), l3, y3, a4, l4, y4, (some ⟨b, o, none⟩), l5, y5⟩ c.now c.xs t q.w (HR.out.x.below (HW.out.trans (q.b.mono HW.out.size))) (fun i x h1 h2 => HG.out ⟨i, x, h1, h2⟩))
                go_wp2_with fail
                refine wp_region_wide (by kernel_rfl) (by kernel_rfl) ?_
                repeat (go_big_quiet_step (first | (go_at_call 30; exact Calls.wide (HC0.out _)) | fail))
                refine wpQuiet_nil ?_
                rintro _ ⟨q2, rfl⟩
                have HB2 := upB HW q2.b
                have Ck := upK Gk q2.b
                have Cr := upK Gr q2.b
                clear hne0 HW HB HC0 k0 k1 k2 k3 k4 k5 r0 r1 r2 r3 r4 r5 tw Gk Gr Bk Br hc1 hb1
                have HB := HB2
                clear HB2
                have Bk := Ck
                clear Ck
                have Br := Cr
                clear Cr
                go_wp2
                go_ret
                refine BoolB.f (fun h => ?_) HB.out
                have h9 := (h.1 k p HXp.out).2.1 kq t HXt.out
                exact HG.out h9.1
              obtain ⟨i4, x4, g1, g2⟩ := hg
              have HG1 := hidK g1
              have HG2 := hidK g2
              have hi41 : decide ((i4 : Int) < 0) = false := by simp
              clear g1 g2
              have hbv : b3 < q1.w.heap.size := Nat.lt_of_lt_of_le HB3.out HB.out.size
              have v2 := (cell_below HB.out HB3.out).trans HC2.out
              have hbn : b1 < q1.w.heap.size := Nat.lt_of_lt_of_le HBn.out HB.out.size
              have n1 := (cell_below HB.out HBn.out).trans HCn.out
              by_cases hz : v.z = n.z
              · have hzq := tl_yes hz
                have HZ := hidK hz
                clear hz
                have Gk : Hid (q1.w.heap[w.heap.size]? = some (.cells #[.slice (some ⟨b1, o1, none⟩) l1 y1, .slice a2 l2 y2, .slice (some ⟨b3, o3, none⟩) l3 y3, .slice a4 l4 y4, .slice (some ⟨b, o, none⟩) l5 y5, .int .i64 c.now] 39 (0, 0))) := Bk.out
                have Gr : Hid (q1.w.heap[gb]? = some (.cells #[.string p.n, .int .i64 p.c, .string p.z, .slice (some ⟨b2, o2, none⟩) vl vc, .string p.d, .int .i64 p.p] 118 (0, 0))) := Br.out
                have HW : Hid (Below w.heap.size w q1.w) := HB.out
                have k0 := fun q : Wd q1.w => q.slot (o := 0) Gk.out rfl
                have k1 := fun q : Wd q1.w => q.slot (o := 1) Gk.out rfl
                have k2 := fun q : Wd q1.w => q.slot (o := 2) Gk.out rfl
                have k3 := fun q : Wd q1.w => q.slot (o := 3) Gk.out rfl
                have k4 := fun q : Wd q1.w => q.slot (o := 4) Gk.out rfl
                have k5 := fun q : Wd q1.w => q.slot (o := 5) Gk.out rfl
                have r0 := fun q : Wd q1.w => q.slot (o := 0) Gr.out rfl
                have r1 := fun q : Wd q1.w => q.slot (o := 1) Gr.out rfl
                have r2 := fun q : Wd q1.w => q.slot (o := 2) Gr.out rfl
                have r3 := fun q : Wd q1.w => q.slot (o := 3) Gr.out rfl
                have r4 := fun q : Wd q1.w => q.slot (o := 4) Gr.out rfl
                have r5 := fun q : Wd q1.w => q.slot (o := 5) Gr.out rfl
                have tw : ∀ q : Wd q1.w, q.w.cell? ⟨b2, o2 + kq, none⟩ = some (.string t) := fun q => (q.cell (hb1)).trans (hc1)
                have vw : ∀ q : Wd q1.w, q.w.cell? ⟨b3, o3 + j3 * 8 + 2, none⟩ = some (.string v.z) := fun q => (q.cell (hbv)).trans (v2)
                have nw : ∀ q : Wd q1.w, q.w.cell? ⟨b1, o1 + j1 * 7 + 1, none⟩ = some (.string n.z) := fun q => (q.cell (hbn)).trans (n1)
                have hne0 := Wd.ne q1.w
                have HC0 := hidK (fun q : Wd q1.w => sxxd_hit ⟨(some ⟨b1, o1, none⟩), l1, y1, a2, l2, y2, (some ⟨b3, o3, none⟩), l3, y3, a4, l4, y4, (some ⟨b, o, none⟩), l5, y5⟩ c.now c.xs t q.w (HR.out.x.below (HW.out.trans (q.b.mono HW.out.size))) HX.out HG1.out HG2.out)
                go_wp2_with fail
                refine wp_region_wide (by kernel_rfl) (by kernel_rfl) ?_
                repeat (go_big_quiet_step (first | (go_at_call 30; exact Calls.wide (HC0.out _)) | fail))
                refine wpQuiet_nil ?_
                rintro _ ⟨q2, rfl⟩
                have HB2 := upB HW q2.b
                have Ck := upK Gk q2.b
                have Cr := upK Gr q2.b
                clear hne0 HW HB HC0 k0 k1 k2 k3 k4 k5 r0 r1 r2 r3 r4 r5 tw vw nw Gk Gr Bk Br hc1 hb1 hbv v2 hbn n1
                have HB := HB2
                clear HB2
                have Bk := Ck
                clear Ck
                have Br := Cr
                clear Cr
                clear hzq
                go_wp2_with fail
                refine ⟨⟨kq + 1, by omega, by go_num, fun j s hj hs => ?_, HBW1.out.trans (q2.b.mono HBW1.out.size)⟩, by simp [intOf]; omega⟩
                by_cases e : j = kq
                · subst e
                  rw [HXt.out] at hs
                  obtain rfl := Option.some.inj hs
                  exact ⟨⟨i4, x4, HG1.out, HG2.out⟩, .inr ⟨v, j1, n, HD.out, HJn.out, HNn.out, HZ.out⟩⟩
                · exact HQ2.out j s (by omega) hs
              · have hzq := tl_no hz
                have HZ := hidK hz
                clear hz
                have Gk : Hid (q1.w.heap[w.heap.size]? = some (.cells #[.slice (some ⟨b1, o1, none⟩) l1 y1, .slice a2 l2 y2, .slice (some ⟨b3, o3, none⟩) l3 y3, .slice a4 l4 y4, .slice (some ⟨b, o, none⟩) l5 y5, .int .i64 c.now] 39 (0, 0))) := Bk.out
                have Gr : Hid (q1.w.heap[gb]? = some (.cells #[.string p.n, .int .i64 p.c, .string p.z, .slice (some ⟨b2, o2, none⟩) vl vc, .string p.d, .int .i64 p.p] 118 (0, 0))) := Br.out
                have HW : Hid (Below w.heap.size w q1.w) := HB.out
                have k0 := fun q : Wd q1.w => q.slot (o := 0) Gk.out rfl
                have k1 := fun q : Wd q1.w => q.slot (o := 1) Gk.out rfl
                have k2 := fun q : Wd q1.w => q.slot (o := 2) Gk.out rfl
                have k3 := fun q : Wd q1.w => q.slot (o := 3) Gk.out rfl
                have k4 := fun q : Wd q1.w => q.slot (o := 4) Gk.out rfl
                have k5 := fun q : Wd q1.w => q.slot (o := 5) Gk.out rfl
                have r0 := fun q : Wd q1.w => q.slot (o := 0) Gr.out rfl
                have r1 := fun q : Wd q1.w => q.slot (o := 1) Gr.out rfl
                have r2 := fun q : Wd q1.w => q.slot (o := 2) Gr.out rfl
                have r3 := fun q : Wd q1.w => q.slot (o := 3) Gr.out rfl
                have r4 := fun q : Wd q1.w => q.slot (o := 4) Gr.out rfl
                have r5 := fun q : Wd q1.w => q.slot (o := 5) Gr.out rfl
                have tw : ∀ q : Wd q1.w, q.w.cell? ⟨b2, o2 + kq, none⟩ = some (.string t) := fun q => (q.cell (hb1)).trans (hc1)
                have vw : ∀ q : Wd q1.w, q.w.cell? ⟨b3, o3 + j3 * 8 + 2, none⟩ = some (.string v.z) := fun q => (q.cell (hbv)).trans (v2)
                have nw : ∀ q : Wd q1.w, q.w.cell? ⟨b1, o1 + j1 * 7 + 1, none⟩ = some (.string n.z) := fun q => (q.cell (hbn)).trans (n1)
                have hne0 := Wd.ne q1.w
                have HC0 := hidK (fun q : Wd q1.w => sxxd_hit ⟨(some ⟨b1, o1, none⟩), l1, y1, a2, l2, y2, (some ⟨b3, o3, none⟩), l3, y3, a4, l4, y4, (some ⟨b, o, none⟩), l5, y5⟩ c.now c.xs t q.w (HR.out.x.below (HW.out.trans (q.b.mono HW.out.size))) HX.out HG1.out HG2.out)
                go_wp2_with fail
                refine wp_region_wide (by kernel_rfl) (by kernel_rfl) ?_
                repeat (go_big_quiet_step (first | (go_at_call 30; exact Calls.wide (HC0.out _)) | fail))
                refine wpQuiet_nil ?_
                rintro _ ⟨q2, rfl⟩
                have HB2 := upB HW q2.b
                have Ck := upK Gk q2.b
                have Cr := upK Gr q2.b
                clear hne0 HW HB HC0 k0 k1 k2 k3 k4 k5 r0 r1 r2 r3 r4 r5 tw vw nw Gk Gr Bk Br hc1 hb1 hbv v2 hbn n1
                have HB := HB2
                clear HB2
                have Bk := Ck
                clear Ck
                have Br := Cr
                clear Cr
                go_wp2
                go_ret
                refine BoolB.f (fun h => ?_) HB.out
                have h9 := (h.1 k p HXp.out).2.1 kq t HXt.out
                rcases h9.2 with h2 | ⟨v', i, n', h2, h3, h4, h5⟩
                · exact HEm.out h2
                · obtain rfl := IsBd.inj HX.out HV.out HD.out h2
                  obtain ⟨_, rfl⟩ := HNR.out.inj h3 HJn.out (h4.trans HNn.out.symm)
                  exact HZ.out h5
            · have HD := hidK hbd
              clear hbd
              have Gk : Hid (wr.heap[w.heap.size]? = some (.cells #[.slice (some ⟨b1, o1, none⟩) l1 y1, .slice a2 l2 y2, .slice a3 l3 y3, .slice a4 l4 y4, .slice (some ⟨b, o, none⟩) l5 y5, .int .i64 c.now] 39 (0, 0))) := Bk.out
              have Gr : Hid (wr.heap[gb]? = some (.cells #[.string p.n, .int .i64 p.c, .string p.z, .slice (some ⟨b2, o2, none⟩) vl vc, .string p.d, .int .i64 p.p] 118 (0, 0))) := Br.out
              have HW : Hid (Below w.heap.size w wr) := HB.out
              have k0 := fun q : Wd wr => q.slot (o := 0) Gk.out rfl
              have k1 := fun q : Wd wr => q.slot (o := 1) Gk.out rfl
              have k2 := fun q : Wd wr => q.slot (o := 2) Gk.out rfl
              have k3 := fun q : Wd wr => q.slot (o := 3) Gk.out rfl
              have k4 := fun q : Wd wr => q.slot (o := 4) Gk.out rfl
              have k5 := fun q : Wd wr => q.slot (o := 5) Gk.out rfl
              have r3 := fun q : Wd wr => q.slot (o := 3) Gr.out rfl
              have tw : ∀ q : Wd wr, q.w.cell? ⟨b2, o2 + kq, none⟩ = some (.string t) := fun q => (q.cell (hb)).trans (hc)
              have hne0 := Wd.ne wr
              have HC0 := hidK (fun q : Wd wr => sbind_miss ⟨(some ⟨b1, o1, none⟩), l1, y1, a2, l2, y2, a3, l3, y3, a4, l4, y4, (some ⟨b, o, none⟩), l5, y5⟩ c t q.w (HR.out.below (HW.out.trans (q.b.mono HW.out.size))) HX.out HV.out HNE.out HD.out)
              go_wp2_with fail
              refine wp_region_wide (by kernel_rfl) (by kernel_rfl) ?_
              repeat (go_big_quiet_step (first | (go_at_call 58; exact Calls.wide (HC0.out _)) | fail))
              refine wpQuiet_nil ?_
              rintro _ ⟨q1, rfl⟩
              have HB1 := upB HW q1.b
              have Ck := upK Gk q1.b
              have Cr := upK Gr q1.b
              clear hne0 HW HB HC0 k0 k1 k2 k3 k4 k5 r3 tw Gk Gr Bk Br pr3
              have HB := HB1
              clear HB1
              have Bk := Ck
              clear Ck
              have Br := Cr
              clear Cr
              have hc1 := (q1.cell hb).trans hc
              have hb1 : b2 < q1.w.heap.size := Nat.lt_of_lt_of_le hb q1.b.size
              have HBW1 := upB HBW q1.b
              clear hc hb HBW
              by_cases hg : ∃ (i : Nat) (x : Xd), c.xs[i]? = some x ∧ x.n = t
              rotate_left
              · have HG := hidK hg
                clear hg
                have Gk : Hid (q1.w.heap[w.heap.size]? = some (.cells #[.slice (some ⟨b1, o1, none⟩) l1 y1, .slice a2 l2 y2, .slice a3 l3 y3, .slice a4 l4 y4, .slice (some ⟨b, o, none⟩) l5 y5, .int .i64 c.now] 39 (0, 0))) := Bk.out
                have Gr : Hid (q1.w.heap[gb]? = some (.cells #[.string p.n, .int .i64 p.c, .string p.z, .slice (some ⟨b2, o2, none⟩) vl vc, .string p.d, .int .i64 p.p] 118 (0, 0))) := Br.out
                have HW : Hid (Below w.heap.size w q1.w) := HB.out
                have k0 := fun q : Wd q1.w => q.slot (o := 0) Gk.out rfl
                have k1 := fun q : Wd q1.w => q.slot (o := 1) Gk.out rfl
                have k2 := fun q : Wd q1.w => q.slot (o := 2) Gk.out rfl
                have k3 := fun q : Wd q1.w => q.slot (o := 3) Gk.out rfl
                have k4 := fun q : Wd q1.w => q.slot (o := 4) Gk.out rfl
                have k5 := fun q : Wd q1.w => q.slot (o := 5) Gk.out rfl
                have r0 := fun q : Wd q1.w => q.slot (o := 0) Gr.out rfl
                have r1 := fun q : Wd q1.w => q.slot (o := 1) Gr.out rfl
                have r2 := fun q : Wd q1.w => q.slot (o := 2) Gr.out rfl
                have r3 := fun q : Wd q1.w => q.slot (o := 3) Gr.out rfl
                have r4 := fun q : Wd q1.w => q.slot (o := 4) Gr.out rfl
                have r5 := fun q : Wd q1.w => q.slot (o := 5) Gr.out rfl
                have tw : ∀ q : Wd q1.w, q.w.cell? ⟨b2, o2 + kq, none⟩ = some (.string t) := fun q => (q.cell (hb1)).trans (hc1)
                have hne0 := Wd.ne q1.w
                have HC0 := hidK (fun q : Wd q1.w => sxxd_miss ⟨(some ⟨b1, o1, none⟩), l1, y1, a2, l2, y2, a3, l3, y3, a4, l4, y4, (some ⟨b, o, none⟩), l5, y5⟩ c.now c.xs t q.w (HR.out.x.below (HW.out.trans (q.b.mono HW.out.size))) (fun i x h1 h2 => HG.out ⟨i, x, h1, h2⟩))
                go_wp2_with fail
                refine wp_region_wide (by kernel_rfl) (by kernel_rfl) ?_
                repeat (go_big_quiet_step (first | (go_at_call 30; exact Calls.wide (HC0.out _)) | fail))
                refine wpQuiet_nil ?_
                rintro _ ⟨q2, rfl⟩
                have HB2 := upB HW q2.b
                have Ck := upK Gk q2.b
                have Cr := upK Gr q2.b
                clear hne0 HW HB HC0 k0 k1 k2 k3 k4 k5 r0 r1 r2 r3 r4 r5 tw Gk Gr Bk Br hc1 hb1
                have HB := HB2
                clear HB2
                have Bk := Ck
                clear Ck
                have Br := Cr
                clear Cr
                go_wp2
                go_ret
                refine BoolB.f (fun h => ?_) HB.out
                have h9 := (h.1 k p HXp.out).2.1 kq t HXt.out
                exact HG.out h9.1
              obtain ⟨i4, x4, g1, g2⟩ := hg
              have HG1 := hidK g1
              have HG2 := hidK g2
              have hi41 : decide ((i4 : Int) < 0) = false := by simp
              clear g1 g2
              have Gk : Hid (q1.w.heap[w.heap.size]? = some (.cells #[.slice (some ⟨b1, o1, none⟩) l1 y1, .slice a2 l2 y2, .slice a3 l3 y3, .slice a4 l4 y4, .slice (some ⟨b, o, none⟩) l5 y5, .int .i64 c.now] 39 (0, 0))) := Bk.out
              have Gr : Hid (q1.w.heap[gb]? = some (.cells #[.string p.n, .int .i64 p.c, .string p.z, .slice (some ⟨b2, o2, none⟩) vl vc, .string p.d, .int .i64 p.p] 118 (0, 0))) := Br.out
              have HW : Hid (Below w.heap.size w q1.w) := HB.out
              have k0 := fun q : Wd q1.w => q.slot (o := 0) Gk.out rfl
              have k1 := fun q : Wd q1.w => q.slot (o := 1) Gk.out rfl
              have k2 := fun q : Wd q1.w => q.slot (o := 2) Gk.out rfl
              have k3 := fun q : Wd q1.w => q.slot (o := 3) Gk.out rfl
              have k4 := fun q : Wd q1.w => q.slot (o := 4) Gk.out rfl
              have k5 := fun q : Wd q1.w => q.slot (o := 5) Gk.out rfl
              have r0 := fun q : Wd q1.w => q.slot (o := 0) Gr.out rfl
              have r1 := fun q : Wd q1.w => q.slot (o := 1) Gr.out rfl
              have r2 := fun q : Wd q1.w => q.slot (o := 2) Gr.out rfl
              have r3 := fun q : Wd q1.w => q.slot (o := 3) Gr.out rfl
              have r4 := fun q : Wd q1.w => q.slot (o := 4) Gr.out rfl
              have r5 := fun q : Wd q1.w => q.slot (o := 5) Gr.out rfl
              have tw : ∀ q : Wd q1.w, q.w.cell? ⟨b2, o2 + kq, none⟩ = some (.string t) := fun q => (q.cell (hb1)).trans (hc1)
              have hne0 := Wd.ne q1.w
              have HC0 := hidK (fun q : Wd q1.w => sxxd_hit ⟨(some ⟨b1, o1, none⟩), l1, y1, a2, l2, y2, a3, l3, y3, a4, l4, y4, (some ⟨b, o, none⟩), l5, y5⟩ c.now c.xs t q.w (HR.out.x.below (HW.out.trans (q.b.mono HW.out.size))) HX.out HG1.out HG2.out)
              go_wp2_with fail
              refine wp_region_wide (by kernel_rfl) (by kernel_rfl) ?_
              repeat (go_big_quiet_step (first | (go_at_call 30; exact Calls.wide (HC0.out _)) | fail))
              refine wpQuiet_nil ?_
              rintro _ ⟨q2, rfl⟩
              have HB2 := upB HW q2.b
              have Ck := upK Gk q2.b
              have Cr := upK Gr q2.b
              clear hne0 HW HB HC0 k0 k1 k2 k3 k4 k5 r0 r1 r2 r3 r4 r5 tw Gk Gr Bk Br hc1 hb1
              have HB := HB2
              clear HB2
              have Bk := Ck
              clear Ck
              have Br := Cr
              clear Cr
              go_wp2
              go_ret
              refine BoolB.f (fun h => ?_) HB.out
              have h9 := (h.1 k p HXp.out).2.1 kq t HXt.out
              rcases h9.2 with h2 | ⟨v', i, n', h2, _⟩
              · exact HEm.out h2
              · exact HD.out v' h2
          · obtain rfl : vl = kq := by omega
            have HQb : Hid (PSb c p) := fun j t ht => HQ2.out j t (by have h1 := (List.getElem?_eq_some_iff.1 ht).1; have h2 := HVL.out; omega) ht
            clear HQ2
            have TV2 := hidK (TV.out.below HBW.out)
            have KV2 := Bk
            have GV2 := Br
            have BV2 := HB
            clear KV GV BV TV Bk Br HB HBW
            obtain ⟨W2, hW⟩ : ∃ W2, W2 = wr := ⟨_, rfl⟩
            rw [← hW] at KV2 GV2 BV2 TV2
            go_wp2
            clear pr3
            rw [← hW]
            clear hW
            go_loopw [8] (fun i wr => ∃ kz : Nat, kz ≤ k ∧ i = .int .i64 kz ∧ Hid (∀ (j : Nat) q, j < kz → c.ps[j]? = some q → PairS c q p) ∧ Hid (Below W2.heap.size W2 wr)) (fun i _ => k - (intOf i).toNat)
            case atStart => exact ⟨0, by omega, rfl, fun _ _ h => absurd h (by omega), Below.refl _ _⟩
            case round =>
              obtain ⟨kz, hkz, rfl, HQ3, HBW⟩ := hrel
              have HB := hidK (BV2.out.trans (HBW.out.mono BV2.out.size))
              have Bk := upK KV2 HBW.out
              have Br := upK GV2 HBW.out
              have HTp := hidK (TV2.out.below HBW.out)
              by_cases hlt3 : kz < k
              · obtain ⟨b', o', pq, e', hb', hqq, hatq⟩ := pd_at (HR.out.p.below HB.out) (show kz < l5 by omega)
                cases e'
                obtain ⟨qa, ql, qc, hqr, z0, z2, z4, d0, d1, d2, d3, d4, d5⟩ := pd_cells hatq
                have HXq := hidK hqq
                have HTq := hidK hqr
                clear hatq hqq hqr z0 z2 z4
                by_cases hpr : PairS c pq p
                · have HPr := hidK hpr
                  clear hpr
                  have Gk : Hid (wr.heap[w.heap.size]? = some (.cells #[.slice (some ⟨b1, o1, none⟩) l1 y1, .slice a2 l2 y2, .slice a3 l3 y3, .slice a4 l4 y4, .slice (some ⟨b, o, none⟩) l5 y5, .int .i64 c.now] 39 (0, 0))) := Bk.out
                  have Gr : Hid (wr.heap[gb]? = some (.cells #[.string p.n, .int .i64 p.c, .string p.z, .slice va vl vc, .string p.d, .int .i64 p.p] 118 (0, 0))) := Br.out
                  have HW : Hid (Below w.heap.size w wr) := HB.out
                  have k0 := fun q : Wd wr => q.slot (o := 0) Gk.out rfl
                  have k1 := fun q : Wd wr => q.slot (o := 1) Gk.out rfl
                  have k2 := fun q : Wd wr => q.slot (o := 2) Gk.out rfl
                  have k3 := fun q : Wd wr => q.slot (o := 3) Gk.out rfl
                  have k4 := fun q : Wd wr => q.slot (o := 4) Gk.out rfl
                  have k5 := fun q : Wd wr => q.slot (o := 5) Gk.out rfl
                  have r0 := fun q : Wd wr => q.slot (o := 0) Gr.out rfl
                  have r1 := fun q : Wd wr => q.slot (o := 1) Gr.out rfl
                  have r2 := fun q : Wd wr => q.slot (o := 2) Gr.out rfl
                  have r3 := fun q : Wd wr => q.slot (o := 3) Gr.out rfl
                  have r4 := fun q : Wd wr => q.slot (o := 4) Gr.out rfl
                  have r5 := fun q : Wd wr => q.slot (o := 5) Gr.out rfl
                  have q0 : ∀ q : Wd wr, q.w.cell? ⟨b, o + kz * 6, none⟩ = some (.string pq.n) := fun q => (q.cell (hb')).trans (d0)
                  have q1 : ∀ q : Wd wr, q.w.cell? ⟨b, o + kz * 6 + 1, none⟩ = some (.int .i64 pq.c) := fun q => (q.cell (hb')).trans (d1)
                  have q2 : ∀ q : Wd wr, q.w.cell? ⟨b, o + kz * 6 + 2, none⟩ = some (.string pq.z) := fun q => (q.cell (hb')).trans (d2)
                  have q3 : ∀ q : Wd wr, q.w.cell? ⟨b, o + kz * 6 + 3, none⟩ = some (.slice qa ql qc) := fun q => (q.cell (hb')).trans (d3)
                  have q4 : ∀ q : Wd wr, q.w.cell? ⟨b, o + kz * 6 + 4, none⟩ = some (.string pq.d) := fun q => (q.cell (hb')).trans (d4)
                  have q5 : ∀ q : Wd wr, q.w.cell? ⟨b, o + kz * 6 + 5, none⟩ = some (.int .i64 pq.p) := fun q => (q.cell (hb')).trans (d5)
                  have hne0 := Wd.ne wr
                  have HC0 := hidK (fun qw : Wd wr => (spair_any ⟨(some ⟨b1, o1, none⟩), l1, y1, a2, l2, y2, a3, l3, y3, a4, l4, y4, (some ⟨b, o, none⟩), l5, y5⟩ c pq p qa ql qc va vl vc qw.w (HR.out.below (HW.out.trans (qw.b.mono HW.out.size))) HX.out HV.out HNE.out (HTq.out.below qw.b) (HTp.out.below qw.b)).mono (fun _ _ h => BoolB.yes h HPr.out))
                  go_wp2_with fail
                  refine wp_region_wide (by kernel_rfl) (by kernel_rfl) ?_
                  repeat (go_big_quiet_step (first | (go_at_call 127; exact Calls.wide (HC0.out _)) | fail))
                  refine wpQuiet_nil ?_
                  rintro _ ⟨q9, rfl⟩
                  have HB1 := upB HW q9.b
                  have Ck := upK Gk q9.b
                  have Cr := upK Gr q9.b
                  clear hne0 HW HB HC0 k0 k1 k2 k3 k4 k5 r0 r1 r2 r3 r4 r5 q0 q1 q2 q3 q4 q5 Gk Gr Bk Br d0 d1 d2 d3 d4 d5
                  have HB := HB1
                  clear HB1
                  have Bk := Ck
                  clear Ck
                  have Br := Cr
                  clear Cr
                  go_wp2_with fail
                  refine ⟨⟨kz + 1, by omega, by go_num, fun j s hj hs => ?_, HBW.out.trans (q9.b.mono HBW.out.size)⟩, by simp [intOf]; omega⟩
                  by_cases e : j = kz
                  · subst e
                    rw [HXq.out] at hs
                    obtain rfl := Option.some.inj hs
                    exact HPr.out
                  · exact HQ3.out j s (by omega) hs
                · have HPr := hidK hpr
                  clear hpr
                  have Gk : Hid (wr.heap[w.heap.size]? = some (.cells #[.slice (some ⟨b1, o1, none⟩) l1 y1, .slice a2 l2 y2, .slice a3 l3 y3, .slice a4 l4 y4, .slice (some ⟨b, o, none⟩) l5 y5, .int .i64 c.now] 39 (0, 0))) := Bk.out
                  have Gr : Hid (wr.heap[gb]? = some (.cells #[.string p.n, .int .i64 p.c, .string p.z, .slice va vl vc, .string p.d, .int .i64 p.p] 118 (0, 0))) := Br.out
                  have HW : Hid (Below w.heap.size w wr) := HB.out
                  have k0 := fun q : Wd wr => q.slot (o := 0) Gk.out rfl
                  have k1 := fun q : Wd wr => q.slot (o := 1) Gk.out rfl
                  have k2 := fun q : Wd wr => q.slot (o := 2) Gk.out rfl
                  have k3 := fun q : Wd wr => q.slot (o := 3) Gk.out rfl
                  have k4 := fun q : Wd wr => q.slot (o := 4) Gk.out rfl
                  have k5 := fun q : Wd wr => q.slot (o := 5) Gk.out rfl
                  have r0 := fun q : Wd wr => q.slot (o := 0) Gr.out rfl
                  have r1 := fun q : Wd wr => q.slot (o := 1) Gr.out rfl
                  have r2 := fun q : Wd wr => q.slot (o := 2) Gr.out rfl
                  have r3 := fun q : Wd wr => q.slot (o := 3) Gr.out rfl
                  have r4 := fun q : Wd wr => q.slot (o := 4) Gr.out rfl
                  have r5 := fun q : Wd wr => q.slot (o := 5) Gr.out rfl
                  have q0 : ∀ q : Wd wr, q.w.cell? ⟨b, o + kz * 6, none⟩ = some (.string pq.n) := fun q => (q.cell (hb')).trans (d0)
                  have q1 : ∀ q : Wd wr, q.w.cell? ⟨b, o + kz * 6 + 1, none⟩ = some (.int .i64 pq.c) := fun q => (q.cell (hb')).trans (d1)
                  have q2 : ∀ q : Wd wr, q.w.cell? ⟨b, o + kz * 6 + 2, none⟩ = some (.string pq.z) := fun q => (q.cell (hb')).trans (d2)
                  have q3 : ∀ q : Wd wr, q.w.cell? ⟨b, o + kz * 6 + 3, none⟩ = some (.slice qa ql qc) := fun q => (q.cell (hb')).trans (d3)
                  have q4 : ∀ q : Wd wr, q.w.cell? ⟨b, o + kz * 6 + 4, none⟩ = some (.string pq.d) := fun q => (q.cell (hb')).trans (d4)
                  have q5 : ∀ q : Wd wr, q.w.cell? ⟨b, o + kz * 6 + 5, none⟩ = some (.int .i64 pq.p) := fun q => (q.cell (hb')).trans (d5)
                  have hne0 := Wd.ne wr
                  have HC0 := hidK (fun qw : Wd wr => (spair_any ⟨(some ⟨b1, o1, none⟩), l1, y1, a2, l2, y2, a3, l3, y3, a4, l4, y4, (some ⟨b, o, none⟩), l5, y5⟩ c pq p qa ql qc va vl vc qw.w (HR.out.below (HW.out.trans (qw.b.mono HW.out.size))) HX.out HV.out HNE.out (HTq.out.below qw.b) (HTp.out.below qw.b)).mono (fun _ _ h => BoolB.no h HPr.out))
                  go_wp2_with fail
                  refine wp_region_wide (by kernel_rfl) (by kernel_rfl) ?_
                  repeat (go_big_quiet_step (first | (go_at_call 127; exact Calls.wide (HC0.out _)) | fail))
                  refine wpQuiet_nil ?_
                  rintro _ ⟨q9, rfl⟩
                  have HB1 := upB HW q9.b
                  have Ck := upK Gk q9.b
                  have Cr := upK Gr q9.b
                  clear hne0 HW HB HC0 k0 k1 k2 k3 k4 k5 r0 r1 r2 r3 r4 r5 q0 q1 q2 q3 q4 q5 Gk Gr Bk Br d0 d1 d2 d3 d4 d5
                  have HB := HB1
                  clear HB1
                  have Bk := Ck
                  clear Ck
                  have Br := Cr
                  clear Cr
                  go_wp2
                  go_ret
                  exact BoolB.f (fun h => HPr.out ((h.1 k p HXp.out).2.2 kz pq hlt3 HXq.out)) HB.out
              · obtain rfl : k = kz := by omega
                go_wp2_with fail
                refine ⟨⟨k + 1, by omega, by go_num, fun j z hj hz => ?_, HB.out, Bk.out⟩, by simp [intOf]; omega⟩
                by_cases e : j = k
                · subst e
                  rw [HXp.out] at hz
                  obtain rfl := Option.some.inj hz
                  exact ⟨HPa.out, HQb.out, fun j2 q2 hj2 hq2 => HQ3.out j2 q2 hj2 hq2⟩
                · exact HQ.out j z (by omega) hz
      have hq2 := isE_no hz0
      by_cases hz1 : n.z = p.z
      · have hq3 := tl_yes hz1
        have HPa : Hid (PSa c p) := .inr ⟨j1, n, HJn.out, HNn.out, .inr hz1⟩
        clear hz0 hz1
        have Gk : Hid (w1.heap[w.heap.size]? = some (.cells #[.slice (some ⟨b1, o1, none⟩) l1 y1, .slice a2 l2 y2, .slice a3 l3 y3, .slice a4 l4 y4, .slice (some ⟨b, o, none⟩) l5 y5, .int .i64 c.now] 39 (0, 0))) := Bk.out
        have Gr : Hid (w1.heap[wr.heap.size]? = some (.cells #[.string p.n, .int .i64 p.c, .string p.z, .slice va vl vc, .string p.d, .int .i64 p.p] 118 (0, 0))) := Br.out
        have HW : Hid (Below w.heap.size w w1) := HB.out
        have k0 := fun q : Wd w1 => q.slot (o := 0) Gk.out rfl
        have r0 := fun q : Wd w1 => q.slot (o := 0) Gr.out rfl
        have r1 := fun q : Wd w1 => q.slot (o := 1) Gr.out rfl
        have r2 := fun q : Wd w1 => q.slot (o := 2) Gr.out rfl
        have r3 := fun q : Wd w1 => q.slot (o := 3) Gr.out rfl
        have r4 := fun q : Wd w1 => q.slot (o := 4) Gr.out rfl
        have r5 := fun q : Wd w1 => q.slot (o := 5) Gr.out rfl
        have nw : ∀ q : Wd w1, q.w.cell? ⟨b1, o1 + j1 * 7 + 1, none⟩ = some (.string n.z) := fun q => (q.cell (hbn)).trans (n1)
        have hne0 := Wd.ne w1
        go_wp2_with fail
        refine wp_region_wide (by kernel_rfl) (by kernel_rfl) ?_
        repeat (go_big_quiet_step (first | fail))
        refine wpQuiet_nil ?_
        rintro _ ⟨q0, rfl⟩
        have HB2 := upB HW q0.b
        have Ck := upK Gk q0.b
        have Cr := upK Gr q0.b
        have CHTp := hidK ((HTp.out).below q0.b)
        clear hne0 HW HB k0 r0 r1 r2 r3 r4 r5 nw Gk Gr Bk Br HTp hbn n1
        have HB := HB2
        clear HB2
        have HTp := CHTp
        clear CHTp
        have Bk := Ck
        clear Ck
        have Br := Cr
        clear Cr
        clear hq2 hq3
        obtain ⟨gb, hgb⟩ : ∃ gb, gb = wr.heap.size := ⟨_, rfl⟩
        rw [← hgb] at Br
        have pr3 : q0.w.cell? ⟨gb, 3, none⟩ = some (.slice va vl vc) := cellK Br.out 3
        rw [hgb] at pr3
        go_wp2
        rw [← hgb]
        clear pr3 hgb
        have KV := Bk
        have GV := Br
        have BV := HB
        have TV := HTp
        clear Bk Br HB HTp
        obtain ⟨W, hW⟩ : ∃ W, W = q0.w := ⟨_, rfl⟩
        rw [← hW] at KV GV BV TV ⊢
        clear hW
        go_loopw [6] (fun i wr => ∃ kq : Nat, kq ≤ vl ∧ i = .int .i64 kq ∧ Hid (∀ (j : Nat) t, j < kq → p.zs[j]? = some t → PSb1 c p t) ∧ Hid (Below W.heap.size W wr)) (fun i _ => vl - (intOf i).toNat)
        case atStart => exact ⟨0, by omega, rfl, fun _ _ h => absurd h (by omega), Below.refl _ _⟩
        case round =>
          obtain ⟨kq, hkq, rfl, HQ2, HBW⟩ := hrel
          have HB := hidK (BV.out.trans (HBW.out.mono BV.out.size))
          have Bk := upK KV HBW.out
          have Br := upK GV HBW.out
          have pr3 : wr.cell? ⟨gb, 3, none⟩ = some (.slice va vl vc) := cellK Br.out 3
          by_cases hlt2 : kq < vl
          · obtain ⟨b2, o2, t, rfl, hb, hxt, hc, hsz⟩ := (TV.out.below HBW.out).at hlt2
            have HXt := hidK hxt
            clear hxt hsz
            have hcase : (∃ v, IsBd c t v) ∨ (∀ v, ¬ IsBd c t v) := by
              by_cases h : ∃ v, IsBd c t v
              · exact .inl h
              · exact .inr (fun v hv => h ⟨v, hv⟩)
            rcases hcase with ⟨v, hbd⟩ | hbd
            · obtain ⟨j3, hj3⟩ := hbd.at
              have hl3' : j3 < l3 := by have h1 := (List.getElem?_eq_some_iff.1 hj3).1; omega
              obtain ⟨b3, o3, v', rfl, hb3, hv', hat⟩ := vd_at HR.out.v hl3'
              rw [hj3] at hv'
              obtain rfl := Option.some.inj hv'
              obtain ⟨xa, xl, xc, hvr, z0, z2, z3, z5, d0, d1, d2, d3, d4, d5, d6, d7⟩ := vd_cells hat
              have HJ := hidK hj3
              have HD := hidK hbd
              have HC2 := hidK d2
              have HB3 := hidK hb3
              have hj31 : decide ((j3 : Int) < 0) = false := by simp
              clear hv' hat hvr z0 z2 z3 z5 d0 d1 d2 d3 d4 d5 d6 d7 hj3 hbd hb3
              have Gk : Hid (wr.heap[w.heap.size]? = some (.cells #[.slice (some ⟨b1, o1, none⟩) l1 y1, .slice a2 l2 y2, .slice (some ⟨b3, o3, none⟩) l3 y3, .slice a4 l4 y4, .slice (some ⟨b, o, none⟩) l5 y5, .int .i64 c.now] 39 (0, 0))) := Bk.out
              have Gr : Hid (wr.heap[gb]? = some (.cells #[.string p.n, .int .i64 p.c, .string p.z, .slice (some ⟨b2, o2, none⟩) vl vc, .string p.d, .int .i64 p.p] 118 (0, 0))) := Br.out
              have HW : Hid (Below w.heap.size w wr) := HB.out
              have k0 := fun q : Wd wr => q.slot (o := 0) Gk.out rfl
              have k1 := fun q : Wd wr => q.slot (o := 1) Gk.out rfl
              have k2 := fun q : Wd wr => q.slot (o := 2) Gk.out rfl
              have k3 := fun q : Wd wr => q.slot (o := 3) Gk.out rfl
              have k4 := fun q : Wd wr => q.slot (o := 4) Gk.out rfl
              have k5 := fun q : Wd wr => q.slot (o := 5) Gk.out rfl
              have r3 := fun q : Wd wr => q.slot (o := 3) Gr.out rfl
              have tw : ∀ q : Wd wr, q.w.cell? ⟨b2, o2 + kq, none⟩ = some (.string t) := fun q => (q.cell (hb)).trans (hc)
              have hne0 := Wd.ne wr
              have HC0 := hidK (fun q : Wd wr => sbind_hit ⟨(some ⟨b1, o1, none⟩), l1, y1, a2, l2, y2, (some ⟨b3, o3, none⟩), l3, y3, a4, l4, y4, (some ⟨b, o, none⟩), l5, y5⟩ c t q.w (HR.out.below (HW.out.trans (q.b.mono HW.out.size))) HX.out HV.out HNE.out HJ.out HD.out)
              go_wp2_with fail
              refine wp_region_wide (by kernel_rfl) (by kernel_rfl) ?_
              repeat (go_big_quiet_step (first | (go_at_call 58; exact Calls.wide (HC0.out _)) | fail))
              refine wpQuiet_nil ?_
              rintro _ ⟨q1, rfl⟩
              have HB1 := upB HW q1.b
              have Ck := upK Gk q1.b
              have Cr := upK Gr q1.b
              clear hne0 HW HB HC0 k0 k1 k2 k3 k4 k5 r3 tw Gk Gr Bk Br pr3
              have HB := HB1
              clear HB1
              have Bk := Ck
              clear Ck
              have Br := Cr
              clear Cr
              have hc1 := (q1.cell hb).trans hc
              have hb1 : b2 < q1.w.heap.size := Nat.lt_of_lt_of_le hb q1.b.size
              have HBW1 := upB HBW q1.b
              clear hc hb HBW
              by_cases hg : ∃ (i : Nat) (x : Xd), c.xs[i]? = some x ∧ x.n = t
              rotate_left
              · have HG := hidK hg
                clear hg
                have Gk : Hid (q1.w.heap[w.heap.size]? = some (.cells #[.slice (some ⟨b1, o1, none⟩) l1 y1, .slice a2 l2 y2, .slice (some ⟨b3, o3, none⟩) l3 y3, .slice a4 l4 y4, .slice (some ⟨b, o, none⟩) l5 y5, .int .i64 c.now] 39 (0, 0))) := Bk.out
                have Gr : Hid (q1.w.heap[gb]? = some (.cells #[.string p.n, .int .i64 p.c, .string p.z, .slice (some ⟨b2, o2, none⟩) vl vc, .string p.d, .int .i64 p.p] 118 (0, 0))) := Br.out
                have HW : Hid (Below w.heap.size w q1.w) := HB.out
                have k0 := fun q : Wd q1.w => q.slot (o := 0) Gk.out rfl
                have k1 := fun q : Wd q1.w => q.slot (o := 1) Gk.out rfl
                have k2 := fun q : Wd q1.w => q.slot (o := 2) Gk.out rfl
                have k3 := fun q : Wd q1.w => q.slot (o := 3) Gk.out rfl
                have k4 := fun q : Wd q1.w => q.slot (o := 4) Gk.out rfl
                have k5 := fun q : Wd q1.w => q.slot (o := 5) Gk.out rfl
                have r0 := fun q : Wd q1.w => q.slot (o := 0) Gr.out rfl
                have r1 := fun q : Wd q1.w => q.slot (o := 1) Gr.out rfl
                have r2 := fun q : Wd q1.w => q.slot (o := 2) Gr.out rfl
                have r3 := fun q : Wd q1.w => q.slot (o := 3) Gr.out rfl
                have r4 := fun q : Wd q1.w => q.slot (o := 4) Gr.out rfl
                have r5 := fun q : Wd q1.w => q.slot (o := 5) Gr.out rfl
                have tw : ∀ q : Wd q1.w, q.w.cell? ⟨b2, o2 + kq, none⟩ = some (.string t) := fun q => (q.cell (hb1)).trans (hc1)
                have hne0 := Wd.ne q1.w
                have HC0 := hidK (fun q : Wd q1.w => sxxd_miss ⟨(some ⟨b1, o1, none⟩), l1, y1, a2, l2, y2, (some ⟨b3, o3, none⟩), l3, y3, a4, l4, y4, (some ⟨b, o, none⟩), l5, y5⟩ c.now c.xs t q.w (HR.out.x.below (HW.out.trans (q.b.mono HW.out.size))) (fun i x h1 h2 => HG.out ⟨i, x, h1, h2⟩))
                go_wp2_with fail
                refine wp_region_wide (by kernel_rfl) (by kernel_rfl) ?_
                repeat (go_big_quiet_step (first | (go_at_call 30; exact Calls.wide (HC0.out _)) | fail))
                refine wpQuiet_nil ?_
                rintro _ ⟨q2, rfl⟩
                have HB2 := upB HW q2.b
                have Ck := upK Gk q2.b
                have Cr := upK Gr q2.b
                clear hne0 HW HB HC0 k0 k1 k2 k3 k4 k5 r0 r1 r2 r3 r4 r5 tw Gk Gr Bk Br hc1 hb1
                have HB := HB2
                clear HB2
                have Bk := Ck
                clear Ck
                have Br := Cr
                clear Cr
                go_wp2
                go_ret
                refine BoolB.f (fun h => ?_) HB.out
                have h9 := (h.1 k p HXp.out).2.1 kq t HXt.out
                exact HG.out h9.1
              obtain ⟨i4, x4, g1, g2⟩ := hg
              have HG1 := hidK g1
              have HG2 := hidK g2
              have hi41 : decide ((i4 : Int) < 0) = false := by simp
              clear g1 g2
              have hbv : b3 < q1.w.heap.size := Nat.lt_of_lt_of_le HB3.out HB.out.size
              have v2 := (cell_below HB.out HB3.out).trans HC2.out
              have hbn : b1 < q1.w.heap.size := Nat.lt_of_lt_of_le HBn.out HB.out.size
              have n1 := (cell_below HB.out HBn.out).trans HCn.out
              by_cases hz : v.z = n.z
              · have hzq := tl_yes hz
                have HZ := hidK hz
                clear hz
                have Gk : Hid (q1.w.heap[w.heap.size]? = some (.cells #[.slice (some ⟨b1, o1, none⟩) l1 y1, .slice a2 l2 y2, .slice (some ⟨b3, o3, none⟩) l3 y3, .slice a4 l4 y4, .slice (some ⟨b, o, none⟩) l5 y5, .int .i64 c.now] 39 (0, 0))) := Bk.out
                have Gr : Hid (q1.w.heap[gb]? = some (.cells #[.string p.n, .int .i64 p.c, .string p.z, .slice (some ⟨b2, o2, none⟩) vl vc, .string p.d, .int .i64 p.p] 118 (0, 0))) := Br.out
                have HW : Hid (Below w.heap.size w q1.w) := HB.out
                have k0 := fun q : Wd q1.w => q.slot (o := 0) Gk.out rfl
                have k1 := fun q : Wd q1.w => q.slot (o := 1) Gk.out rfl
                have k2 := fun q : Wd q1.w => q.slot (o := 2) Gk.out rfl
                have k3 := fun q : Wd q1.w => q.slot (o := 3) Gk.out rfl
                have k4 := fun q : Wd q1.w => q.slot (o := 4) Gk.out rfl
                have k5 := fun q : Wd q1.w => q.slot (o := 5) Gk.out rfl
                have r0 := fun q : Wd q1.w => q.slot (o := 0) Gr.out rfl
                have r1 := fun q : Wd q1.w => q.slot (o := 1) Gr.out rfl
                have r2 := fun q : Wd q1.w => q.slot (o := 2) Gr.out rfl
                have r3 := fun q : Wd q1.w => q.slot (o := 3) Gr.out rfl
                have r4 := fun q : Wd q1.w => q.slot (o := 4) Gr.out rfl
                have r5 := fun q : Wd q1.w => q.slot (o := 5) Gr.out rfl
                have tw : ∀ q : Wd q1.w, q.w.cell? ⟨b2, o2 + kq, none⟩ = some (.string t) := fun q => (q.cell (hb1)).trans (hc1)
                have vw : ∀ q : Wd q1.w, q.w.cell? ⟨b3, o3 + j3 * 8 + 2, none⟩ = some (.string v.z) := fun q => (q.cell (hbv)).trans (v2)
                have nw : ∀ q : Wd q1.w, q.w.cell? ⟨b1, o1 + j1 * 7 + 1, none⟩ = some (.string n.z) := fun q => (q.cell (hbn)).trans (n1)
                have hne0 := Wd.ne q1.w
                have HC0 := hidK (fun q : Wd q1.w => sxxd_hit ⟨(some ⟨b1, o1, none⟩), l1, y1, a2, l2, y2, (some ⟨b3, o3, none⟩), l3, y3, a4, l4, y4, (some ⟨b, o, none⟩), l5, y5⟩ c.now c.xs t q.w (HR.out.x.below (HW.out.trans (q.b.mono HW.out.size))) HX.out HG1.out HG2.out)
                go_wp2_with fail
                refine wp_region_wide (by kernel_rfl) (by kernel_rfl) ?_
                repeat (go_big_quiet_step (first | (go_at_call 30; exact Calls.wide (HC0.out _)) | fail))
                refine wpQuiet_nil ?_
                rintro _ ⟨q2, rfl⟩
                have HB2 := upB HW q2.b
                have Ck := upK Gk q2.b
                have Cr := upK Gr q2.b
                clear hne0 HW HB HC0 k0 k1 k2 k3 k4 k5 r0 r1 r2 r3 r4 r5 tw vw nw Gk Gr Bk Br hc1 hb1 hbv v2 hbn n1
                have HB := HB2
                clear HB2
                have Bk := Ck
                clear Ck
                have Br := Cr
                clear Cr
                clear hzq
                go_wp2_with fail
                refine ⟨⟨kq + 1, by omega, by go_num, fun j s hj hs => ?_, HBW1.out.trans (q2.b.mono HBW1.out.size)⟩, by simp [intOf]; omega⟩
                by_cases e : j = kq
                · subst e
                  rw [HXt.out] at hs
                  obtain rfl := Option.some.inj hs
                  exact ⟨⟨i4, x4, HG1.out, HG2.out⟩, .inr ⟨v, j1, n, HD.out, HJn.out, HNn.out, HZ.out⟩⟩
                · exact HQ2.out j s (by omega) hs
              · have hzq := tl_no hz
                have HZ := hidK hz
                clear hz
                have Gk : Hid (q1.w.heap[w.heap.size]? = some (.cells #[.slice (some ⟨b1, o1, none⟩) l1 y1, .slice a2 l2 y2, .slice (some ⟨b3, o3, none⟩) l3 y3, .slice a4 l4 y4, .slice (some ⟨b, o, none⟩) l5 y5, .int .i64 c.now] 39 (0, 0))) := Bk.out
                have Gr : Hid (q1.w.heap[gb]? = some (.cells #[.string p.n, .int .i64 p.c, .string p.z, .slice (some ⟨b2, o2, none⟩) vl vc, .string p.d, .int .i64 p.p] 118 (0, 0))) := Br.out
                have HW : Hid (Below w.heap.size w q1.w) := HB.out
                have k0 := fun q : Wd q1.w => q.slot (o := 0) Gk.out rfl
                have k1 := fun q : Wd q1.w => q.slot (o := 1) Gk.out rfl
                have k2 := fun q : Wd q1.w => q.slot (o := 2) Gk.out rfl
                have k3 := fun q : Wd q1.w => q.slot (o := 3) Gk.out rfl
                have k4 := fun q : Wd q1.w => q.slot (o := 4) Gk.out rfl
                have k5 := fun q : Wd q1.w => q.slot (o := 5) Gk.out rfl
                have r0 := fun q : Wd q1.w => q.slot (o := 0) Gr.out rfl
                have r1 := fun q : Wd q1.w => q.slot (o := 1) Gr.out rfl
                have r2 := fun q : Wd q1.w => q.slot (o := 2) Gr.out rfl
                have r3 := fun q : Wd q1.w => q.slot (o := 3) Gr.out rfl
                have r4 := fun q : Wd q1.w => q.slot (o := 4) Gr.out rfl
                have r5 := fun q : Wd q1.w => q.slot (o := 5) Gr.out rfl
                have tw : ∀ q : Wd q1.w, q.w.cell? ⟨b2, o2 + kq, none⟩ = some (.string t) := fun q => (q.cell (hb1)).trans (hc1)
                have vw : ∀ q : Wd q1.w, q.w.cell? ⟨b3, o3 + j3 * 8 + 2, none⟩ = some (.string v.z) := fun q => (q.cell (hbv)).trans (v2)
                have nw : ∀ q : Wd q1.w, q.w.cell? ⟨b1, o1 + j1 * 7 + 1, none⟩ = some (.string n.z) := fun q => (q.cell (hbn)).trans (n1)
                have hne0 := Wd.ne q1.w
                have HC0 := hidK (fun q : Wd q1.w => sxxd_hit ⟨(some ⟨b1, o1, none⟩), l1, y1, a2, l2, y2, (some ⟨b3, o3, none⟩), l3, y3, a4, l4, y4, (some ⟨b, o, none⟩), l5, y5⟩ c.now c.xs t q.w (HR.out.x.below (HW.out.trans (q.b.mono HW.out.size))) HX.out HG1.out HG2.out)
                go_wp2_with fail
                refine wp_region_wide (by kernel_rfl) (by kernel_rfl) ?_
                repeat (go_big_quiet_step (first | (go_at_call 30; exact Calls.wide (HC0.out _)) | fail))
                refine wpQuiet_nil ?_
                rintro _ ⟨q2, rfl⟩
                have HB2 := upB HW q2.b
                have Ck := upK Gk q2.b
                have Cr := upK Gr q2.b
                clear hne0 HW HB HC0 k0 k1 k2 k3 k4 k5 r0 r1 r2 r3 r4 r5 tw vw nw Gk Gr Bk Br hc1 hb1 hbv v2 hbn n1
                have HB := HB2
                clear HB2
                have Bk := Ck
                clear Ck
                have Br := Cr
                clear Cr
                go_wp2
                go_ret
                refine BoolB.f (fun h => ?_) HB.out
                have h9 := (h.1 k p HXp.out).2.1 kq t HXt.out
                rcases h9.2 with h2 | ⟨v', i, n', h2, h3, h4, h5⟩
                · exact HEm.out h2
                · obtain rfl := IsBd.inj HX.out HV.out HD.out h2
                  obtain ⟨_, rfl⟩ := HNR.out.inj h3 HJn.out (h4.trans HNn.out.symm)
                  exact HZ.out h5
            · have HD := hidK hbd
              clear hbd
              have Gk : Hid (wr.heap[w.heap.size]? = some (.cells #[.slice (some ⟨b1, o1, none⟩) l1 y1, .slice a2 l2 y2, .slice a3 l3 y3, .slice a4 l4 y4, .slice (some ⟨b, o, none⟩) l5 y5, .int .i64 c.now] 39 (0, 0))) := Bk.out
              have Gr : Hid (wr.heap[gb]? = some (.cells #[.string p.n, .int .i64 p.c, .string p.z, .slice (some ⟨b2, o2, none⟩) vl vc, .string p.d, .int .i64 p.p] 118 (0, 0))) := Br.out
              have HW : Hid (Below w.heap.size w wr) := HB.out
              have k0 := fun q : Wd wr => q.slot (o := 0) Gk.out rfl
              have k1 := fun q : Wd wr => q.slot (o := 1) Gk.out rfl
              have k2 := fun q : Wd wr => q.slot (o := 2) Gk.out rfl
              have k3 := fun q : Wd wr => q.slot (o := 3) Gk.out rfl
              have k4 := fun q : Wd wr => q.slot (o := 4) Gk.out rfl
              have k5 := fun q : Wd wr => q.slot (o := 5) Gk.out rfl
              have r3 := fun q : Wd wr => q.slot (o := 3) Gr.out rfl
              have tw : ∀ q : Wd wr, q.w.cell? ⟨b2, o2 + kq, none⟩ = some (.string t) := fun q => (q.cell (hb)).trans (hc)
              have hne0 := Wd.ne wr
              have HC0 := hidK (fun q : Wd wr => sbind_miss ⟨(some ⟨b1, o1, none⟩), l1, y1, a2, l2, y2, a3, l3, y3, a4, l4, y4, (some ⟨b, o, none⟩), l5, y5⟩ c t q.w (HR.out.below (HW.out.trans (q.b.mono HW.out.size))) HX.out HV.out HNE.out HD.out)
              go_wp2_with fail
              refine wp_region_wide (by kernel_rfl) (by kernel_rfl) ?_
              repeat (go_big_quiet_step (first | (go_at_call 58; exact Calls.wide (HC0.out _)) | fail))
              refine wpQuiet_nil ?_
              rintro _ ⟨q1, rfl⟩
              have HB1 := upB HW q1.b
              have Ck := upK Gk q1.b
              have Cr := upK Gr q1.b
              clear hne0 HW HB HC0 k0 k1 k2 k3 k4 k5 r3 tw Gk Gr Bk Br pr3
              have HB := HB1
              clear HB1
              have Bk := Ck
              clear Ck
              have Br := Cr
              clear Cr
              have hc1 := (q1.cell hb).trans hc
              have hb1 : b2 < q1.w.heap.size := Nat.lt_of_lt_of_le hb q1.b.size
              have HBW1 := upB HBW q1.b
              clear hc hb HBW
              by_cases hg : ∃ (i : Nat) (x : Xd), c.xs[i]? = some x ∧ x.n = t
              rotate_left
              · have HG := hidK hg
                clear hg
                have Gk : Hid (q1.w.heap[w.heap.size]? = some (.cells #[.slice (some ⟨b1, o1, none⟩) l1 y1, .slice a2 l2 y2, .slice a3 l3 y3, .slice a4 l4 y4, .slice (some ⟨b, o, none⟩) l5 y5, .int .i64 c.now] 39 (0, 0))) := Bk.out
                have Gr : Hid (q1.w.heap[gb]? = some (.cells #[.string p.n, .int .i64 p.c, .string p.z, .slice (some ⟨b2, o2, none⟩) vl vc, .string p.d, .int .i64 p.p] 118 (0, 0))) := Br.out
                have HW : Hid (Below w.heap.size w q1.w) := HB.out
                have k0 := fun q : Wd q1.w => q.slot (o := 0) Gk.out rfl
                have k1 := fun q : Wd q1.w => q.slot (o := 1) Gk.out rfl
                have k2 := fun q : Wd q1.w => q.slot (o := 2) Gk.out rfl
                have k3 := fun q : Wd q1.w => q.slot (o := 3) Gk.out rfl
                have k4 := fun q : Wd q1.w => q.slot (o := 4) Gk.out rfl
                have k5 := fun q : Wd q1.w => q.slot (o := 5) Gk.out rfl
                have r0 := fun q : Wd q1.w => q.slot (o := 0) Gr.out rfl
                have r1 := fun q : Wd q1.w => q.slot (o := 1) Gr.out rfl
                have r2 := fun q : Wd q1.w => q.slot (o := 2) Gr.out rfl
                have r3 := fun q : Wd q1.w => q.slot (o := 3) Gr.out rfl
                have r4 := fun q : Wd q1.w => q.slot (o := 4) Gr.out rfl
                have r5 := fun q : Wd q1.w => q.slot (o := 5) Gr.out rfl
                have tw : ∀ q : Wd q1.w, q.w.cell? ⟨b2, o2 + kq, none⟩ = some (.string t) := fun q => (q.cell (hb1)).trans (hc1)
                have hne0 := Wd.ne q1.w
                have HC0 := hidK (fun q : Wd q1.w => sxxd_miss ⟨(some ⟨b1, o1, none⟩), l1, y1, a2, l2, y2, a3, l3, y3, a4, l4, y4, (some ⟨b, o, none⟩), l5, y5⟩ c.now c.xs t q.w (HR.out.x.below (HW.out.trans (q.b.mono HW.out.size))) (fun i x h1 h2 => HG.out ⟨i, x, h1, h2⟩))
                go_wp2_with fail
                refine wp_region_wide (by kernel_rfl) (by kernel_rfl) ?_
                repeat (go_big_quiet_step (first | (go_at_call 30; exact Calls.wide (HC0.out _)) | fail))
                refine wpQuiet_nil ?_
                rintro _ ⟨q2, rfl⟩
                have HB2 := upB HW q2.b
                have Ck := upK Gk q2.b
                have Cr := upK Gr q2.b
                clear hne0 HW HB HC0 k0 k1 k2 k3 k4 k5 r0 r1 r2 r3 r4 r5 tw Gk Gr Bk Br hc1 hb1
                have HB := HB2
                clear HB2
                have Bk := Ck
                clear Ck
                have Br := Cr
                clear Cr
                go_wp2
                go_ret
                refine BoolB.f (fun h => ?_) HB.out
                have h9 := (h.1 k p HXp.out).2.1 kq t HXt.out
                exact HG.out h9.1
              obtain ⟨i4, x4, g1, g2⟩ := hg
              have HG1 := hidK g1
              have HG2 := hidK g2
              have hi41 : decide ((i4 : Int) < 0) = false := by simp
              clear g1 g2
              have Gk : Hid (q1.w.heap[w.heap.size]? = some (.cells #[.slice (some ⟨b1, o1, none⟩) l1 y1, .slice a2 l2 y2, .slice a3 l3 y3, .slice a4 l4 y4, .slice (some ⟨b, o, none⟩) l5 y5, .int .i64 c.now] 39 (0, 0))) := Bk.out
              have Gr : Hid (q1.w.heap[gb]? = some (.cells #[.string p.n, .int .i64 p.c, .string p.z, .slice (some ⟨b2, o2, none⟩) vl vc, .string p.d, .int .i64 p.p] 118 (0, 0))) := Br.out
              have HW : Hid (Below w.heap.size w q1.w) := HB.out
              have k0 := fun q : Wd q1.w => q.slot (o := 0) Gk.out rfl
              have k1 := fun q : Wd q1.w => q.slot (o := 1) Gk.out rfl
              have k2 := fun q : Wd q1.w => q.slot (o := 2) Gk.out rfl
              have k3 := fun q : Wd q1.w => q.slot (o := 3) Gk.out rfl
              have k4 := fun q : Wd q1.w => q.slot (o := 4) Gk.out rfl
              have k5 := fun q : Wd q1.w => q.slot (o := 5) Gk.out rfl
              have r0 := fun q : Wd q1.w => q.slot (o := 0) Gr.out rfl
              have r1 := fun q : Wd q1.w => q.slot (o := 1) Gr.out rfl
              have r2 := fun q : Wd q1.w => q.slot (o := 2) Gr.out rfl
              have r3 := fun q : Wd q1.w => q.slot (o := 3) Gr.out rfl
              have r4 := fun q : Wd q1.w => q.slot (o := 4) Gr.out rfl
              have r5 := fun q : Wd q1.w => q.slot (o := 5) Gr.out rfl
              have tw : ∀ q : Wd q1.w, q.w.cell? ⟨b2, o2 + kq, none⟩ = some (.string t) := fun q => (q.cell (hb1)).trans (hc1)
              have hne0 := Wd.ne q1.w
              have HC0 := hidK (fun q : Wd q1.w => sxxd_hit ⟨(some ⟨b1, o1, none⟩), l1, y1, a2, l2, y2, a3, l3, y3, a4, l4, y4, (some ⟨b, o, none⟩), l5, y5⟩ c.now c.xs t q.w (HR.out.x.below (HW.out.trans (q.b.mono HW.out.size))) HX.out HG1.out HG2.out)
              go_wp2_with fail
              refine wp_region_wide (by kernel_rfl) (by kernel_rfl) ?_
              repeat (go_big_quiet_step (first | (go_at_call 30; exact Calls.wide (HC0.out _)) | fail))
              refine wpQuiet_nil ?_
              rintro _ ⟨q2, rfl⟩
              have HB2 := upB HW q2.b
              have Ck := upK Gk q2.b
              have Cr := upK Gr q2.b
              clear hne0 HW HB HC0 k0 k1 k2 k3 k4 k5 r0 r1 r2 r3 r4 r5 tw Gk Gr Bk Br hc1 hb1
              have HB := HB2
              clear HB2
              have Bk := Ck
              clear Ck
              have Br := Cr
              clear Cr
              go_wp2
              go_ret
              refine BoolB.f (fun h => ?_) HB.out
              have h9 := (h.1 k p HXp.out).2.1 kq t HXt.out
              rcases h9.2 with h2 | ⟨v', i, n', h2, _⟩
              · exact HEm.out h2
              · exact HD.out v' h2
          · obtain rfl : vl = kq := by omega
            have HQb : Hid (PSb c p) := fun j t ht => HQ2.out j t (by have h1 := (List.getElem?_eq_some_iff.1 ht).1; have h2 := HVL.out; omega) ht
            clear HQ2
            have TV2 := hidK (TV.out.below HBW.out)
            have KV2 := Bk
            have GV2 := Br
            have BV2 := HB
            clear KV GV BV TV Bk Br HB HBW
            obtain ⟨W2, hW⟩ : ∃ W2, W2 = wr := ⟨_, rfl⟩
            rw [← hW] at KV2 GV2 BV2 TV2
            go_wp2
            clear pr3
            rw [← hW]
            clear hW
            go_loopw [8] (fun i wr => ∃ kz : Nat, kz ≤ k ∧ i = .int .i64 kz ∧ Hid (∀ (j : Nat) q, j < kz → c.ps[j]? = some q → PairS c q p) ∧ Hid (Below W2.heap.size W2 wr)) (fun i _ => k - (intOf i).toNat)
            case atStart => exact ⟨0, by omega, rfl, fun _ _ h => absurd h (by omega), Below.refl _ _⟩
            case round =>
              obtain ⟨kz, hkz, rfl, HQ3, HBW⟩ := hrel
              have HB := hidK (BV2.out.trans (HBW.out.mono BV2.out.size))
              have Bk := upK KV2 HBW.out
              have Br := upK GV2 HBW.out
              have HTp := hidK (TV2.out.below HBW.out)
              by_cases hlt3 : kz < k
              · obtain ⟨b', o', pq, e', hb', hqq, hatq⟩ := pd_at (HR.out.p.below HB.out) (show kz < l5 by omega)
                cases e'
                obtain ⟨qa, ql, qc, hqr, z0, z2, z4, d0, d1, d2, d3, d4, d5⟩ := pd_cells hatq
                have HXq := hidK hqq
                have HTq := hidK hqr
                clear hatq hqq hqr z0 z2 z4
                by_cases hpr : PairS c pq p
                · have HPr := hidK hpr
                  clear hpr
                  have Gk : Hid (wr.heap[w.heap.size]? = some (.cells #[.slice (some ⟨b1, o1, none⟩) l1 y1, .slice a2 l2 y2, .slice a3 l3 y3, .slice a4 l4 y4, .slice (some ⟨b, o, none⟩) l5 y5, .int .i64 c.now] 39 (0, 0))) := Bk.out
                  have Gr : Hid (wr.heap[gb]? = some (.cells #[.string p.n, .int .i64 p.c, .string p.z, .slice va vl vc, .string p.d, .int .i64 p.p] 118 (0, 0))) := Br.out
                  have HW : Hid (Below w.heap.size w wr) := HB.out
                  have k0 := fun q : Wd wr => q.slot (o := 0) Gk.out rfl
                  have k1 := fun q : Wd wr => q.slot (o := 1) Gk.out rfl
                  have k2 := fun q : Wd wr => q.slot (o := 2) Gk.out rfl
                  have k3 := fun q : Wd wr => q.slot (o := 3) Gk.out rfl
                  have k4 := fun q : Wd wr => q.slot (o := 4) Gk.out rfl
                  have k5 := fun q : Wd wr => q.slot (o := 5) Gk.out rfl
                  have r0 := fun q : Wd wr => q.slot (o := 0) Gr.out rfl
                  have r1 := fun q : Wd wr => q.slot (o := 1) Gr.out rfl
                  have r2 := fun q : Wd wr => q.slot (o := 2) Gr.out rfl
                  have r3 := fun q : Wd wr => q.slot (o := 3) Gr.out rfl
                  have r4 := fun q : Wd wr => q.slot (o := 4) Gr.out rfl
                  have r5 := fun q : Wd wr => q.slot (o := 5) Gr.out rfl
                  have q0 : ∀ q : Wd wr, q.w.cell? ⟨b, o + kz * 6, none⟩ = some (.string pq.n) := fun q => (q.cell (hb')).trans (d0)
                  have q1 : ∀ q : Wd wr, q.w.cell? ⟨b, o + kz * 6 + 1, none⟩ = some (.int .i64 pq.c) := fun q => (q.cell (hb')).trans (d1)
                  have q2 : ∀ q : Wd wr, q.w.cell? ⟨b, o + kz * 6 + 2, none⟩ = some (.string pq.z) := fun q => (q.cell (hb')).trans (d2)
                  have q3 : ∀ q : Wd wr, q.w.cell? ⟨b, o + kz * 6 + 3, none⟩ = some (.slice qa ql qc) := fun q => (q.cell (hb')).trans (d3)
                  have q4 : ∀ q : Wd wr, q.w.cell? ⟨b, o + kz * 6 + 4, none⟩ = some (.string pq.d) := fun q => (q.cell (hb')).trans (d4)
                  have q5 : ∀ q : Wd wr, q.w.cell? ⟨b, o + kz * 6 + 5, none⟩ = some (.int .i64 pq.p) := fun q => (q.cell (hb')).trans (d5)
                  have hne0 := Wd.ne wr
                  have HC0 := hidK (fun qw : Wd wr => (spair_any ⟨(some ⟨b1, o1, none⟩), l1, y1, a2, l2, y2, a3, l3, y3, a4, l4, y4, (some ⟨b, o, none⟩), l5, y5⟩ c pq p qa ql qc va vl vc qw.w (HR.out.below (HW.out.trans (qw.b.mono HW.out.size))) HX.out HV.out HNE.out (HTq.out.below qw.b) (HTp.out.below qw.b)).mono (fun _ _ h => BoolB.yes h HPr.out))
                  go_wp2_with fail
                  refine wp_region_wide (by kernel_rfl) (by kernel_rfl) ?_
                  repeat (go_big_quiet_step (first | (go_at_call 127; exact Calls.wide (HC0.out _)) | fail))
                  refine wpQuiet_nil ?_
                  rintro _ ⟨q9, rfl⟩
                  have HB1 := upB HW q9.b
                  have Ck := upK Gk q9.b
                  have Cr := upK Gr q9.b
                  clear hne0 HW HB HC0 k0 k1 k2 k3 k4 k5 r0 r1 r2 r3 r4 r5 q0 q1 q2 q3 q4 q5 Gk Gr Bk Br d0 d1 d2 d3 d4 d5
                  have HB := HB1
                  clear HB1
                  have Bk := Ck
                  clear Ck
                  have Br := Cr
                  clear Cr
                  go_wp2_with fail
                  refine ⟨⟨kz + 1, by omega, by go_num, fun j s hj hs => ?_, HBW.out.trans (q9.b.mono HBW.out.size)⟩, by simp [intOf]; omega⟩
                  by_cases e : j = kz
                  · subst e
                    rw [HXq.out] at hs
                    obtain rfl := Option.some.inj hs
                    exact HPr.out
                  · exact HQ3.out j s (by omega) hs
                · have HPr := hidK hpr
                  clear hpr
                  have Gk : Hid (wr.heap[w.heap.size]? = some (.cells #[.slice (some ⟨b1, o1, none⟩) l1 y1, .slice a2 l2 y2, .slice a3 l3 y3, .slice a4 l4 y4, .slice (some ⟨b, o, none⟩) l5 y5, .int .i64 c.now] 39 (0, 0))) := Bk.out
                  have Gr : Hid (wr.heap[gb]? = some (.cells #[.string p.n, .int .i64 p.c, .string p.z, .slice va vl vc, .string p.d, .int .i64 p.p] 118 (0, 0))) := Br.out
                  have HW : Hid (Below w.heap.size w wr) := HB.out
                  have k0 := fun q : Wd wr => q.slot (o := 0) Gk.out rfl
                  have k1 := fun q : Wd wr => q.slot (o := 1) Gk.out rfl
                  have k2 := fun q : Wd wr => q.slot (o := 2) Gk.out rfl
                  have k3 := fun q : Wd wr => q.slot (o := 3) Gk.out rfl
                  have k4 := fun q : Wd wr => q.slot (o := 4) Gk.out rfl
                  have k5 := fun q : Wd wr => q.slot (o := 5) Gk.out rfl
                  have r0 := fun q : Wd wr => q.slot (o := 0) Gr.out rfl
                  have r1 := fun q : Wd wr => q.slot (o := 1) Gr.out rfl
                  have r2 := fun q : Wd wr => q.slot (o := 2) Gr.out rfl
                  have r3 := fun q : Wd wr => q.slot (o := 3) Gr.out rfl
                  have r4 := fun q : Wd wr => q.slot (o := 4) Gr.out rfl
                  have r5 := fun q : Wd wr => q.slot (o := 5) Gr.out rfl
                  have q0 : ∀ q : Wd wr, q.w.cell? ⟨b, o + kz * 6, none⟩ = some (.string pq.n) := fun q => (q.cell (hb')).trans (d0)
                  have q1 : ∀ q : Wd wr, q.w.cell? ⟨b, o + kz * 6 + 1, none⟩ = some (.int .i64 pq.c) := fun q => (q.cell (hb')).trans (d1)
                  have q2 : ∀ q : Wd wr, q.w.cell? ⟨b, o + kz * 6 + 2, none⟩ = some (.string pq.z) := fun q => (q.cell (hb')).trans (d2)
                  have q3 : ∀ q : Wd wr, q.w.cell? ⟨b, o + kz * 6 + 3, none⟩ = some (.slice qa ql qc) := fun q => (q.cell (hb')).trans (d3)
                  have q4 : ∀ q : Wd wr, q.w.cell? ⟨b, o + kz * 6 + 4, none⟩ = some (.string pq.d) := fun q => (q.cell (hb')).trans (d4)
                  have q5 : ∀ q : Wd wr, q.w.cell? ⟨b, o + kz * 6 + 5, none⟩ = some (.int .i64 pq.p) := fun q => (q.cell (hb')).trans (d5)
                  have hne0 := Wd.ne wr
                  have HC0 := hidK (fun qw : Wd wr => (spair_any ⟨(some ⟨b1, o1, none⟩), l1, y1, a2, l2, y2, a3, l3, y3, a4, l4, y4, (some ⟨b, o, none⟩), l5, y5⟩ c pq p qa ql qc va vl vc qw.w (HR.out.below (HW.out.trans (qw.b.mono HW.out.size))) HX.out HV.out HNE.out (HTq.out.below qw.b) (HTp.out.below qw.b)).mono (fun _ _ h => BoolB.no h HPr.out))
                  go_wp2_with fail
                  refine wp_region_wide (by kernel_rfl) (by kernel_rfl) ?_
                  repeat (go_big_quiet_step (first | (go_at_call 127; exact Calls.wide (HC0.out _)) | fail))
                  refine wpQuiet_nil ?_
                  rintro _ ⟨q9, rfl⟩
                  have HB1 := upB HW q9.b
                  have Ck := upK Gk q9.b
                  have Cr := upK Gr q9.b
                  clear hne0 HW HB HC0 k0 k1 k2 k3 k4 k5 r0 r1 r2 r3 r4 r5 q0 q1 q2 q3 q4 q5 Gk Gr Bk Br d0 d1 d2 d3 d4 d5
                  have HB := HB1
                  clear HB1
                  have Bk := Ck
                  clear Ck
                  have Br := Cr
                  clear Cr
                  go_wp2
                  go_ret
                  exact BoolB.f (fun h => HPr.out ((h.1 k p HXp.out).2.2 kz pq hlt3 HXq.out)) HB.out
              · obtain rfl : k = kz := by omega
                go_wp2_with fail
                refine ⟨⟨k + 1, by omega, by go_num, fun j z hj hz => ?_, HB.out, Bk.out⟩, by simp [intOf]; omega⟩
                by_cases e : j = k
                · subst e
                  rw [HXp.out] at hz
                  obtain rfl := Option.some.inj hz
                  exact ⟨HPa.out, HQb.out, fun j2 q2 hj2 hq2 => HQ3.out j2 q2 hj2 hq2⟩
                · exact HQ.out j z (by omega) hz
      · have hq3 := tl_no hz1
        have HZ0 := hidK hz0
        have HZ1 := hidK hz1
        clear hz0 hz1
        have Gk : Hid (w1.heap[w.heap.size]? = some (.cells #[.slice (some ⟨b1, o1, none⟩) l1 y1, .slice a2 l2 y2, .slice a3 l3 y3, .slice a4 l4 y4, .slice (some ⟨b, o, none⟩) l5 y5, .int .i64 c.now] 39 (0, 0))) := Bk.out
        have Gr : Hid (w1.heap[wr.heap.size]? = some (.cells #[.string p.n, .int .i64 p.c, .string p.z, .slice va vl vc, .string p.d, .int .i64 p.p] 118 (0, 0))) := Br.out
        have HW : Hid (Below w.heap.size w w1) := HB.out
        have k0 := fun q : Wd w1 => q.slot (o := 0) Gk.out rfl
        have r0 := fun q : Wd w1 => q.slot (o := 0) Gr.out rfl
        have r1 := fun q : Wd w1 => q.slot (o := 1) Gr.out rfl
        have r2 := fun q : Wd w1 => q.slot (o := 2) Gr.out rfl
        have r3 := fun q : Wd w1 => q.slot (o := 3) Gr.out rfl
        have r4 := fun q : Wd w1 => q.slot (o := 4) Gr.out rfl
        have r5 := fun q : Wd w1 => q.slot (o := 5) Gr.out rfl
        have nw : ∀ q : Wd w1, q.w.cell? ⟨b1, o1 + j1 * 7 + 1, none⟩ = some (.string n.z) := fun q => (q.cell (hbn)).trans (n1)
        have hne0 := Wd.ne w1
        go_wp2_with fail
        refine wp_region_wide (by kernel_rfl) (by kernel_rfl) ?_
        repeat (go_big_quiet_step (first | fail))
        refine wpQuiet_nil ?_
        rintro _ ⟨q0, rfl⟩
        have HB2 := upB HW q0.b
        have Ck := upK Gk q0.b
        have Cr := upK Gr q0.b
        have CHTp := hidK ((HTp.out).below q0.b)
        clear hne0 HW HB k0 r0 r1 r2 r3 r4 r5 nw Gk Gr Bk Br HTp hbn n1
        have HB := HB2
        clear HB2
        have HTp := CHTp
        clear CHTp
        have Bk := Ck
        clear Ck
        have Br := Cr
        clear Cr
        go_wp2
        go_ret
        refine BoolB.f (fun h => ?_) HB.out
        rcases (h.1 k p HXp.out).1 with h2 | ⟨i, n', h2, h3, h4⟩
        · exact HEm.out h2
        · obtain ⟨_, rfl⟩ := HNR.out.inj h2 HJn.out (h3.trans HNn.out.symm)
          rcases h4 with h4 | h4
          · exact HZ0.out h4
          · exact HZ1.out h4
    · obtain rfl : l5 = k := by omega
      have HQ1 : Hid (∀ (k : Nat) p, c.ps[k]? = some p → PS c k p) := fun j z hz => HQ.out j z (by have := (List.getElem?_eq_some_iff.1 hz).1; omega) hz
      clear HQ
      have kc : wr.cell? ⟨w.heap.size, 0, none⟩ = some (.slice a1 l1 y1) := cellK Bk.out 0
      go_wp2
      clear pk kc
      go_loopw [9] (fun i wr => ∃ k : Nat, k ≤ l1 ∧ i = .int .i64 k ∧ Hid (∀ (j : Nat) n, j < k → c.ns[j]? = some n → cpuOf n.n c.ps ≤ n.c) ∧ Hid (Below w.heap.size w wr) ∧ Hid (wr.heap[w.heap.size]? = some (.cells #[.slice a1 l1 y1, .slice a2 l2 y2, .slice a3 l3 y3, .slice a4 l4 y4, .slice a5 l5 y5, .int .i64 c.now] 39 (0, 0)))) (fun i _ => l1 - (intOf i).toNat)
      case atStart => exact ⟨0, by omega, rfl, fun _ _ h => absurd h (by omega), HB.out, Bk.out⟩
      case round =>
        obtain ⟨k, hk, rfl, HQ, HB, Bk⟩ := hrel
        have pk : wr.cell? ⟨w.heap.size, 0, none⟩ = some (.slice a1 l1 y1) := cellK Bk.out 0
        by_cases hlt : k < l1
        · obtain ⟨b, o, n, rfl, hb, hx, hat⟩ := nd_at (HR.out.n.below HB.out) hlt
          obtain ⟨va, vl, vc, hvr, z0, z1, c0, c1, c2, c3, c4, c5, c6⟩ := nd_cells hat
          have HXn := hidK hx
          have HTn := hidK hvr
          have HZn0 := hidK z0
          have HZn1 := hidK z1
          clear hat hx z0 z1 hvr
          have Gk : Hid (wr.heap[w.heap.size]? = some (.cells #[.slice (some ⟨b, o, none⟩) l1 y1, .slice a2 l2 y2, .slice a3 l3 y3, .slice a4 l4 y4, .slice a5 l5 y5, .int .i64 c.now] 39 (0, 0))) := Bk.out
          have HW : Hid (Below w.heap.size w wr) := HB.out
          have k0 := fun q : Wd wr => q.slot (o := 0) Gk.out rfl
          have k1 := fun q : Wd wr => q.slot (o := 1) Gk.out rfl
          have k2 := fun q : Wd wr => q.slot (o := 2) Gk.out rfl
          have k3 := fun q : Wd wr => q.slot (o := 3) Gk.out rfl
          have k4 := fun q : Wd wr => q.slot (o := 4) Gk.out rfl
          have k5 := fun q : Wd wr => q.slot (o := 5) Gk.out rfl
          have n0w : ∀ q : Wd wr, q.w.cell? ⟨b, o + k * 7, none⟩ = some (.string n.n) := fun q => (q.cell (hb)).trans (c0)
          have n2w : ∀ q : Wd wr, q.w.cell? ⟨b, o + k * 7 + 2, none⟩ = some (.int .i64 n.c) := fun q => (q.cell (hb)).trans (c2)
          have hne0 := Wd.ne wr
          have HC0 := hidK (fun q : Wd wr => sused_any ⟨(some ⟨b, o, none⟩), l1, y1, a2, l2, y2, a3, l3, y3, a4, l4, y4, a5, l5, y5⟩ c.now c.ps n.n q.w (HR.out.p.below (HW.out.trans (q.b.mono HW.out.size))) HL5.out HPC.out)
          go_wp2_with fail
          refine wp_region_wide (by kernel_rfl) (by kernel_rfl) ?_
          repeat (go_big_quiet_step (first | (go_at_call 128; exact Calls.wide (HC0.out _)) | fail))
          refine wpQuiet_nil ?_
          rintro _ ⟨q1, rfl⟩
          have HB1 := upB HW q1.b
          have Ck := upK Gk q1.b
          clear hne0 HW HB HC0 k0 k1 k2 k3 k4 k5 n0w n2w Gk Bk pk c0 c1 c2 c3 c4 c5 c6 hb
          have HB := HB1
          clear HB1
          have Bk := Ck
          clear Ck
          by_cases hq : cpuOf n.n c.ps ≤ n.c
          · have HCq := hidK hq
            go_wp2_with fail
            refine ⟨⟨k + 1, by omega, by go_num, fun j z hj hz => ?_, HB.out, Bk.out⟩, by simp [intOf]; omega⟩
            by_cases e : j = k
            · subst e
              rw [HXn.out] at hz
              obtain rfl := Option.some.inj hz
              exact HCq.out
            · exact HQ.out j z (by omega) hz
          · have HCq := hidK hq
            go_wp2
            go_ret
            exact BoolB.f (fun h => by have h1 : cpuOf n.n c.ps ≤ n.c := h.2 k n HXn.out; have h2 := HCq.out; omega) HB.out
        · obtain rfl : l1 = k := by omega
          go_wp2
          go_ret
          exact BoolB.t ⟨HQ1.out, fun j n hz => HQ.out j n (by have := (List.getElem?_eq_some_iff.1 hz).1; omega) hz⟩ HB.out

def AttachedS (c : Cl) : Prop := (∀ (j : Nat) z, c.vs[j]? = some z → AQ1 c z) ∧ ∀ (j : Nat) n, c.ns[j]? = some n → onOf n.n c.vs ≤ n.s

set_option maxRecDepth 100000 in
set_option maxHeartbeats 12800000 in
theorem sattached_any (d : Ad) (c : Cl) (w : World) (hr : ClRow w d c.raw) (hn : RisBy Nd.n c.ns) (hvs8 : c.vs.length ≤ 8) :
    Calls Tryz.prog 75 #[.agg #[.slice d.a1 d.l1 d.c1, .slice d.a2 d.l2 d.c2, .slice d.a3 d.l3 d.c3, .slice d.a4 d.l4 d.c4, .slice d.a5 d.l5 d.c5, .int .i64 c.now]] w (BoolB (AttachedS c) w) := by
  obtain ⟨a1, l1, y1, a2, l2, y2, a3, l3, y3, a4, l4, y4, a5, l5, y5⟩ := d
  dsimp only
  have HR := hidK hr
  have hl1 : c.ns.length = l1 := by simpa using (show (c.ns.map ndF).length = l1 from hr.n.1)
  have hm1 : l1 ≤ 9223372036854775807 := Nat.le_trans hr.n.2.1 hr.n.2.2.1
  have hl2 : c.ks.length = l2 := by simpa using (show (c.ks.map kdF).length = l2 from hr.k.1)
  have hm2 : l2 ≤ 9223372036854775807 := Nat.le_trans hr.k.2.1 hr.k.2.2.1
  have hl3 : c.vs.length = l3 := by simpa using (show (c.vs.map vdF).length = l3 from hr.v.1)
  have hm3 : l3 ≤ 9223372036854775807 := Nat.le_trans hr.v.2.1 hr.v.2.2.1
  have hl4 : c.xs.length = l4 := by simpa using (show (c.xs.map xdF).length = l4 from hr.x.1)
  have hm4 : l4 ≤ 9223372036854775807 := Nat.le_trans hr.x.2.1 hr.x.2.2.1
  have hl5 : c.ps.length = l5 := by simpa using (show (c.ps.map pdF).length = l5 from hr.p.1)
  have hm5 : l5 ≤ 9223372036854775807 := Nat.le_trans hr.p.2.1 hr.p.2.2.1
  clear hr
  have HNR := hidK hn
  have HL3 := hidK hvs8
  clear hn hvs8
  go_enter Tryz.func75, Tryz.ntmps75
  go_wp2
  go_loopw [3] (fun i wr => ∃ k : Nat, k ≤ l3 ∧ i = .int .i64 k ∧ Hid (∀ (j : Nat) z, j < k → c.vs[j]? = some z → AQ1 c z) ∧ Hid (Below w.heap.size w wr) ∧ Hid (wr.heap[w.heap.size]? = some (.cells #[.slice a1 l1 y1, .slice a2 l2 y2, .slice a3 l3 y3, .slice a4 l4 y4, .slice a5 l5 y5, .int .i64 c.now] 39 (0, 0)))) (fun i _ => l3 - (intOf i).toNat)
  case atStart => exact ⟨0, by omega, rfl, fun _ _ h => absurd h (by omega), below1 _ _, Array.getElem?_push_size⟩
  case round =>
    obtain ⟨k, hk, rfl, HQ, HB, Bk⟩ := hrel
    have pk : wr.cell? ⟨w.heap.size, 2, none⟩ = some (.slice a3 l3 y3) := cellK Bk.out 2
    have pkl : w.heap.size < wr.heap.size := lt_of_some Bk.out
    by_cases hlt : k < l3
    · obtain ⟨b, o, v, rfl, hb, hx, hat⟩ := vd_at (HR.out.v.below HB.out) hlt
      obtain ⟨va, vl, vc, hvr, z0, z2, z3, z5, c0, c1, c2, c3, c4, c5, c6, c7⟩ := vd_cells hat
      have HXv := hidK hx
      have HTv := hidK hvr
      have HZv0 := hidK z0
      have HZv2 := hidK z2
      have HZv3 := hidK z3
      have HZv5 := hidK z5
      clear hat hx z0 z2 z3 z5 hvr
      have hvl : v.zs.length = vl := HTv.out.1
      have hvc : vl ≤ 9223372036854775807 := Nat.le_trans HTv.out.2.1 HTv.out.2.2.1
      have HVL := hidK hvl
      clear hvl
      have KV : Hid ((wr.alloc (.cells #[.string v.n, .int .i64 v.c, .string v.z, .string v.k, .bool v.x, .string v.m, .bool v.y, .slice va vl vc] 53)).heap[w.heap.size]? = some (.cells #[.slice a1 l1 y1, .slice a2 l2 y2, .slice (some ⟨b, o, none⟩) l3 y3, .slice a4 l4 y4, .slice a5 l5 y5, .int .i64 c.now] 39 (0, 0))) := (Below.heap_alloc wr (.cells #[.string v.n, .int .i64 v.c, .string v.z, .string v.k, .bool v.x, .string v.m, .bool v.y, .slice va vl vc] 53) _ (lt_of_some Bk.out)).trans Bk.out
      have GV : Hid ((wr.alloc (.cells #[.string v.n, .int .i64 v.c, .string v.z, .string v.k, .bool v.x, .string v.m, .bool v.y, .slice va vl vc] 53)).heap[wr.heap.size]? = some (.cells #[.string v.n, .int .i64 v.c, .string v.z, .string v.k, .bool v.x, .string v.m, .bool v.y, .slice va vl vc] 53 (0, 0))) := Array.getElem?_push_size
      have BV := hidK (HB.out.trans ((below1 wr (.cells #[.string v.n, .int .i64 v.c, .string v.z, .string v.k, .bool v.x, .string v.m, .bool v.y, .slice va vl vc] 53)).mono HB.out.size))
      have TT := hidK (HTv.out.below (below1 wr (.cells #[.string v.n, .int .i64 v.c, .string v.z, .string v.k, .bool v.x, .string v.m, .bool v.y, .slice va vl vc] 53)))
      obtain ⟨W, hW⟩ : ∃ W, W = wr.alloc (.cells #[.string v.n, .int .i64 v.c, .string v.z, .string v.k, .bool v.x, .string v.m, .bool v.y, .slice va vl vc] 53) := ⟨_, rfl⟩
      obtain ⟨gb, hgb⟩ : ∃ gb, gb = wr.heap.size := ⟨_, rfl⟩
      rw [← hW] at KV GV BV TT
      rw [← hgb] at GV
      go_wp2
      rw [← hW, ← hgb]
      clear hW hgb HB Bk HTv c0 c1 c2 c3 c4 c5 c6 c7 hb pk pkl
      go_loopw [5] (fun i wr => ∃ kq : Nat, kq ≤ vl ∧ i = .int .i64 kq ∧ Hid (∀ (j : Nat) t, j < kq → v.zs[j]? = some t → ∃ (i : Nat) (n : Nd), c.ns[i]? = some n ∧ n.n = t ∧ n.z = v.z) ∧ Hid (Below W.heap.size W wr)) (fun i _ => vl - (intOf i).toNat)
      case atStart => exact ⟨0, by omega, rfl, fun _ _ h => absurd h (by omega), Below.refl _ _⟩
      case round =>
        obtain ⟨kq, hkq, rfl, HQ2, HBW⟩ := hrel
        have HB := hidK (BV.out.trans (HBW.out.mono BV.out.size))
        have Bk := upK KV HBW.out
        have Bv := upK GV HBW.out
        have pv : wr.cell? ⟨gb, 7, none⟩ = some (.slice va vl vc) := cellK Bv.out 7
        by_cases hlt2 : kq < vl
        · obtain ⟨b2, o2, t, rfl, hb, hx, hc, hsz⟩ := (TT.out.below HBW.out).at hlt2
          have HXt := hidK hx
          clear hx hsz
          by_cases hnn : ∃ (i : Nat) (n : Nd), c.ns[i]? = some n ∧ n.n = t
          rotate_left
          · have HH := hidK hnn
            clear hnn
            have Gk : Hid (wr.heap[w.heap.size]? = some (.cells #[.slice a1 l1 y1, .slice a2 l2 y2, .slice (some ⟨b, o, none⟩) l3 y3, .slice a4 l4 y4, .slice a5 l5 y5, .int .i64 c.now] 39 (0, 0))) := Bk.out
            have Gv : Hid (wr.heap[gb]? = some (.cells #[.string v.n, .int .i64 v.c, .string v.z, .string v.k, .bool v.x, .string v.m, .bool v.y, .slice (some ⟨b2, o2, none⟩) vl vc] 53 (0, 0))) := Bv.out
            have HW : Hid (Below w.heap.size w wr) := HB.out
            have k0 := fun q : Wd wr => q.slot (o := 0) Gk.out rfl
            have k1 := fun q : Wd wr => q.slot (o := 1) Gk.out rfl
            have k2 := fun q : Wd wr => q.slot (o := 2) Gk.out rfl
            have k3 := fun q : Wd wr => q.slot (o := 3) Gk.out rfl
            have k4 := fun q : Wd wr => q.slot (o := 4) Gk.out rfl
            have k5 := fun q : Wd wr => q.slot (o := 5) Gk.out rfl
            have v7 := fun q : Wd wr => q.slot (o := 7) Gv.out rfl
            have tw : ∀ q : Wd wr, q.w.cell? ⟨b2, o2 + kq, none⟩ = some (.string t) := fun q => (q.cell (hb)).trans (hc)
            have hne0 := Wd.ne wr
            have HC0 := hidK (fun q : Wd wr => sxnd_miss ⟨a1, l1, y1, a2, l2, y2, (some ⟨b, o, none⟩), l3, y3, a4, l4, y4, a5, l5, y5⟩ c.now c.ns t q.w (HR.out.n.below (HW.out.trans (q.b.mono HW.out.size))) (fun i n h1 h2 => HH.out ⟨i, n, h1, h2⟩))
            go_wp2_with fail
            refine wp_region_wide (by kernel_rfl) (by kernel_rfl) ?_
            repeat (go_big_quiet_step (first | (go_at_call 126; exact Calls.wide (HC0.out _)) | fail))
            refine wpQuiet_nil ?_
            rintro _ ⟨q1, rfl⟩
            have HB1 := upB HW q1.b
            have Ck := upK Gk q1.b
            have Cv := upK Gv q1.b
            clear hne0 HW HB HC0 k0 k1 k2 k3 k4 k5 v7 tw Gk Gv Bk Bv pv
            have HB := HB1
            clear HB1
            have Bk := Ck
            clear Ck
            have Bv := Cv
            clear Cv
            have Gk : Hid (q1.w.heap[w.heap.size]? = some (.cells #[.slice a1 l1 y1, .slice a2 l2 y2, .slice (some ⟨b, o, none⟩) l3 y3, .slice a4 l4 y4, .slice a5 l5 y5, .int .i64 c.now] 39 (0, 0))) := Bk.out
            have Gv : Hid (q1.w.heap[gb]? = some (.cells #[.string v.n, .int .i64 v.c, .string v.z, .string v.k, .bool v.x, .string v.m, .bool v.y, .slice (some ⟨b2, o2, none⟩) vl vc] 53 (0, 0))) := Bv.out
            have HW : Hid (Below w.heap.size w q1.w) := HB.out
            have k0 := fun q : Wd q1.w => q.slot (o := 0) Gk.out rfl
            have v0 := fun q : Wd q1.w => q.slot (o := 0) Gv.out rfl
            have v1 := fun q : Wd q1.w => q.slot (o := 1) Gv.out rfl
            have v2 := fun q : Wd q1.w => q.slot (o := 2) Gv.out rfl
            have v3 := fun q : Wd q1.w => q.slot (o := 3) Gv.out rfl
            have v4 := fun q : Wd q1.w => q.slot (o := 4) Gv.out rfl
            have v5 := fun q : Wd q1.w => q.slot (o := 5) Gv.out rfl
            have v6 := fun q : Wd q1.w => q.slot (o := 6) Gv.out rfl
            have v7 := fun q : Wd q1.w => q.slot (o := 7) Gv.out rfl
            have hne0 := Wd.ne q1.w
            go_wp2_with fail
            refine wp_region_wide (by kernel_rfl) (by kernel_rfl) ?_
            repeat (go_big_quiet_step (first | fail))
            refine wpQuiet_nil ?_
            rintro _ ⟨q2, rfl⟩
            have HB2 := upB HW q2.b
            have Ck := upK Gk q2.b
            have Cv := upK Gv q2.b
            clear hne0 HW HB k0 v0 v1 v2 v3 v4 v5 v6 v7 Gk Gv Bk Bv
            have HB := HB2
            clear HB2
            have Bk := Ck
            clear Ck
            have Bv := Cv
            clear Cv
            go_wp2
            go_ret
            refine BoolB.f (fun h => ?_) HB.out
            obtain ⟨i, n, h2, h3, _⟩ := (h.1 k v HXv.out) kq t HXt.out
            exact HH.out ⟨i, n, h2, h3⟩
          obtain ⟨j1, n, h1, h2⟩ := hnn
          have hl1' : j1 < l1 := by have h3 := (List.getElem?_eq_some_iff.1 h1).1; omega
          obtain ⟨b1, o1, n', rfl, hb1n, hn', hat⟩ := nd_at HR.out.n hl1'
          rw [h1] at hn'
          obtain rfl := Option.some.inj hn'
          obtain ⟨na, nl, nc, hnr, z0, z1, d0, d1, d2, d3, d4, d5, d6⟩ := nd_cells hat
          have HJn := hidK h1
          have HNn := hidK h2
          have HCn := hidK d1
          have HBn := hidK hb1n
          have hj11 : decide ((j1 : Int) < 0) = false := by simp
          clear hn' hat hnr z0 z1 d0 d1 d2 d3 d4 d5 d6 h1 h2 hb1n
          have Gk : Hid (wr.heap[w.heap.size]? = some (.cells #[.slice (some ⟨b1, o1, none⟩) l1 y1, .slice a2 l2 y2, .slice (some ⟨b, o, none⟩) l3 y3, .slice a4 l4 y4, .slice a5 l5 y5, .int .i64 c.now] 39 (0, 0))) := Bk.out
          have Gv : Hid (wr.heap[gb]? = some (.cells #[.string v.n, .int .i64 v.c, .string v.z, .string v.k, .bool v.x, .string v.m, .bool v.y, .slice (some ⟨b2, o2, none⟩) vl vc] 53 (0, 0))) := Bv.out
          have HW : Hid (Below w.heap.size w wr) := HB.out
          have k0 := fun q : Wd wr => q.slot (o := 0) Gk.out rfl
          have k1 := fun q : Wd wr => q.slot (o := 1) Gk.out rfl
          have k2 := fun q : Wd wr => q.slot (o := 2) Gk.out rfl
          have k3 := fun q : Wd wr => q.slot (o := 3) Gk.out rfl
          have k4 := fun q : Wd wr => q.slot (o := 4) Gk.out rfl
          have k5 := fun q : Wd wr => q.slot (o := 5) Gk.out rfl
          have v7 := fun q : Wd wr => q.slot (o := 7) Gv.out rfl
          have tw : ∀ q : Wd wr, q.w.cell? ⟨b2, o2 + kq, none⟩ = some (.string t) := fun q => (q.cell (hb)).trans (hc)
          have hne0 := Wd.ne wr
          have HC0 := hidK (fun q : Wd wr => sxnd_hit ⟨(some ⟨b1, o1, none⟩), l1, y1, a2, l2, y2, (some ⟨b, o, none⟩), l3, y3, a4, l4, y4, a5, l5, y5⟩ c.now c.ns t q.w (HR.out.n.below (HW.out.trans (q.b.mono HW.out.size))) HNR.out HJn.out HNn.out)
          go_wp2_with fail
          refine wp_region_wide (by kernel_rfl) (by kernel_rfl) ?_
          repeat (go_big_quiet_step (first | (go_at_call 126; exact Calls.wide (HC0.out _)) | fail))
          refine wpQuiet_nil ?_
          rintro _ ⟨q1, rfl⟩
          have HB1 := upB HW q1.b
          have Ck := upK Gk q1.b
          have Cv := upK Gv q1.b
          clear hne0 HW HB HC0 k0 k1 k2 k3 k4 k5 v7 tw Gk Gv Bk Bv pv hb hc
          have HB := HB1
          clear HB1
          have Bk := Ck
          clear Ck
          have Bv := Cv
          clear Cv
          have HBW1 := upB HBW q1.b
          have hbn : b1 < q1.w.heap.size := Nat.lt_of_lt_of_le HBn.out HB.out.size
          have n1 := (cell_below HB.out HBn.out).trans HCn.out
          clear HBW
          by_cases hz : n.z = v.z
          · have q8 := tl_yes hz
            have HZ := hidK hz
            clear hz
            have Gk : Hid (q1.w.heap[w.heap.size]? = some (.cells #[.slice (some ⟨b1, o1, none⟩) l1 y1, .slice a2 l2 y2, .slice (some ⟨b, o, none⟩) l3 y3, .slice a4 l4 y4, .slice a5 l5 y5, .int .i64 c.now] 39 (0, 0))) := Bk.out
            have Gv : Hid (q1.w.heap[gb]? = some (.cells #[.string v.n, .int .i64 v.c, .string v.z, .string v.k, .bool v.x, .string v.m, .bool v.y, .slice (some ⟨b2, o2, none⟩) vl vc] 53 (0, 0))) := Bv.out
            have HW : Hid (Below w.heap.size w q1.w) := HB.out
            have k0 := fun q : Wd q1.w => q.slot (o := 0) Gk.out rfl
            have v0 := fun q : Wd q1.w => q.slot (o := 0) Gv.out rfl
            have v1 := fun q : Wd q1.w => q.slot (o := 1) Gv.out rfl
            have v2 := fun q : Wd q1.w => q.slot (o := 2) Gv.out rfl
            have v3 := fun q : Wd q1.w => q.slot (o := 3) Gv.out rfl
            have v4 := fun q : Wd q1.w => q.slot (o := 4) Gv.out rfl
            have v5 := fun q : Wd q1.w => q.slot (o := 5) Gv.out rfl
            have v6 := fun q : Wd q1.w => q.slot (o := 6) Gv.out rfl
            have v7 := fun q : Wd q1.w => q.slot (o := 7) Gv.out rfl
            have nw : ∀ q : Wd q1.w, q.w.cell? ⟨b1, o1 + j1 * 7 + 1, none⟩ = some (.string n.z) := fun q => (q.cell (hbn)).trans (n1)
            have hne0 := Wd.ne q1.w
            go_wp2_with fail
            refine wp_region_wide (by kernel_rfl) (by kernel_rfl) ?_
            repeat (go_big_quiet_step (first | fail))
            refine wpQuiet_nil ?_
            rintro _ ⟨q2, rfl⟩
            have HB2 := upB HW q2.b
            have Ck := upK Gk q2.b
            have Cv := upK Gv q2.b
            clear hne0 HW HB k0 v0 v1 v2 v3 v4 v5 v6 v7 nw Gk Gv Bk Bv hbn n1
            have HB := HB2
            clear HB2
            have Bk := Ck
            clear Ck
            have Bv := Cv
            clear Cv
            clear q8
            go_wp2_with fail
            refine ⟨⟨kq + 1, by omega, by go_num, fun j s hj hs => ?_, HBW1.out.trans (q2.b.mono HBW1.out.size)⟩, by simp [intOf]; omega⟩
            by_cases e : j = kq
            · subst e
              rw [HXt.out] at hs
              obtain rfl := Option.some.inj hs
              exact ⟨j1, n, HJn.out, HNn.out, HZ.out⟩
            · exact HQ2.out j s (by omega) hs
          · have q8 := tl_no hz
            have HZ := hidK hz
            clear hz
            have Gk : Hid (q1.w.heap[w.heap.size]? = some (.cells #[.slice (some ⟨b1, o1, none⟩) l1 y1, .slice a2 l2 y2, .slice (some ⟨b, o, none⟩) l3 y3, .slice a4 l4 y4, .slice a5 l5 y5, .int .i64 c.now] 39 (0, 0))) := Bk.out
            have Gv : Hid (q1.w.heap[gb]? = some (.cells #[.string v.n, .int .i64 v.c, .string v.z, .string v.k, .bool v.x, .string v.m, .bool v.y, .slice (some ⟨b2, o2, none⟩) vl vc] 53 (0, 0))) := Bv.out
            have HW : Hid (Below w.heap.size w q1.w) := HB.out
            have k0 := fun q : Wd q1.w => q.slot (o := 0) Gk.out rfl
            have v0 := fun q : Wd q1.w => q.slot (o := 0) Gv.out rfl
            have v1 := fun q : Wd q1.w => q.slot (o := 1) Gv.out rfl
            have v2 := fun q : Wd q1.w => q.slot (o := 2) Gv.out rfl
            have v3 := fun q : Wd q1.w => q.slot (o := 3) Gv.out rfl
            have v4 := fun q : Wd q1.w => q.slot (o := 4) Gv.out rfl
            have v5 := fun q : Wd q1.w => q.slot (o := 5) Gv.out rfl
            have v6 := fun q : Wd q1.w => q.slot (o := 6) Gv.out rfl
            have v7 := fun q : Wd q1.w => q.slot (o := 7) Gv.out rfl
            have nw : ∀ q : Wd q1.w, q.w.cell? ⟨b1, o1 + j1 * 7 + 1, none⟩ = some (.string n.z) := fun q => (q.cell (hbn)).trans (n1)
            have hne0 := Wd.ne q1.w
            go_wp2_with fail
            refine wp_region_wide (by kernel_rfl) (by kernel_rfl) ?_
            repeat (go_big_quiet_step (first | fail))
            refine wpQuiet_nil ?_
            rintro _ ⟨q2, rfl⟩
            have HB2 := upB HW q2.b
            have Ck := upK Gk q2.b
            have Cv := upK Gv q2.b
            clear hne0 HW HB k0 v0 v1 v2 v3 v4 v5 v6 v7 nw Gk Gv Bk Bv hbn n1
            have HB := HB2
            clear HB2
            have Bk := Ck
            clear Ck
            have Bv := Cv
            clear Cv
            go_wp2
            go_ret
            refine BoolB.f (fun h => ?_) HB.out
            obtain ⟨i, m2, e1, e2, e3⟩ := (h.1 k v HXv.out) kq t HXt.out
            obtain ⟨_, rfl⟩ := HNR.out.inj e1 HJn.out (e2.trans HNn.out.symm)
            exact HZ.out e3
        · obtain rfl : vl = kq := by omega
          go_wp2_with fail
          refine ⟨⟨k + 1, by omega, by go_num, fun j z hj hz => ?_, HB.out, Bk.out⟩, by simp [intOf]; omega⟩
          by_cases e : j = k
          · subst e
            rw [HXv.out] at hz
            obtain rfl := Option.some.inj hz
            exact fun j s hs => HQ2.out j s (by have h1 := (List.getElem?_eq_some_iff.1 hs).1; have h2 := HVL.out; omega) hs
          · exact HQ.out j z (by omega) hz
    · obtain rfl : l3 = k := by omega
      have HQ1 : Hid (∀ (j : Nat) z, c.vs[j]? = some z → AQ1 c z) := fun j z hz => HQ.out j z (by have := (List.getElem?_eq_some_iff.1 hz).1; omega) hz
      clear HQ
      have kc : wr.cell? ⟨w.heap.size, 0, none⟩ = some (.slice a1 l1 y1) := cellK Bk.out 0
      go_wp2
      clear pk kc
      go_loopw [7] (fun i wr => ∃ k : Nat, k ≤ l1 ∧ i = .int .i64 k ∧ Hid (∀ (j : Nat) n, j < k → c.ns[j]? = some n → onOf n.n c.vs ≤ n.s) ∧ Hid (Below w.heap.size w wr) ∧ Hid (wr.heap[w.heap.size]? = some (.cells #[.slice a1 l1 y1, .slice a2 l2 y2, .slice a3 l3 y3, .slice a4 l4 y4, .slice a5 l5 y5, .int .i64 c.now] 39 (0, 0)))) (fun i _ => l1 - (intOf i).toNat)
      case atStart => exact ⟨0, by omega, rfl, fun _ _ h => absurd h (by omega), HB.out, Bk.out⟩
      case round =>
        obtain ⟨k, hk, rfl, HQ, HB, Bk⟩ := hrel
        have pk : wr.cell? ⟨w.heap.size, 0, none⟩ = some (.slice a1 l1 y1) := cellK Bk.out 0
        by_cases hlt : k < l1
        · obtain ⟨b, o, n, rfl, hb, hx, hat⟩ := nd_at (HR.out.n.below HB.out) hlt
          obtain ⟨va, vl, vc, hvr, z0, z1, c0, c1, c2, c3, c4, c5, c6⟩ := nd_cells hat
          have HXn := hidK hx
          have HTn := hidK hvr
          have HZn0 := hidK z0
          have HZn1 := hidK z1
          clear hat hx z0 z1 hvr
          have Gk : Hid (wr.heap[w.heap.size]? = some (.cells #[.slice (some ⟨b, o, none⟩) l1 y1, .slice a2 l2 y2, .slice a3 l3 y3, .slice a4 l4 y4, .slice a5 l5 y5, .int .i64 c.now] 39 (0, 0))) := Bk.out
          have HW : Hid (Below w.heap.size w wr) := HB.out
          have k0 := fun q : Wd wr => q.slot (o := 0) Gk.out rfl
          have k1 := fun q : Wd wr => q.slot (o := 1) Gk.out rfl
          have k2 := fun q : Wd wr => q.slot (o := 2) Gk.out rfl
          have k3 := fun q : Wd wr => q.slot (o := 3) Gk.out rfl
          have k4 := fun q : Wd wr => q.slot (o := 4) Gk.out rfl
          have k5 := fun q : Wd wr => q.slot (o := 5) Gk.out rfl
          have n0w : ∀ q : Wd wr, q.w.cell? ⟨b, o + k * 7, none⟩ = some (.string n.n) := fun q => (q.cell (hb)).trans (c0)
          have n2w : ∀ q : Wd wr, q.w.cell? ⟨b, o + k * 7 + 3, none⟩ = some (.int .i64 n.s) := fun q => (q.cell (hb)).trans (c3)
          have hne0 := Wd.ne wr
          have HC0 := hidK (fun q : Wd wr => son_any ⟨(some ⟨b, o, none⟩), l1, y1, a2, l2, y2, a3, l3, y3, a4, l4, y4, a5, l5, y5⟩ c.now c.vs n.n q.w (HR.out.v.below (HW.out.trans (q.b.mono HW.out.size))) HL3.out)
          go_wp2_with fail
          refine wp_region_wide (by kernel_rfl) (by kernel_rfl) ?_
          repeat (go_big_quiet_step (first | (go_at_call 129; exact Calls.wide (HC0.out _)) | fail))
          refine wpQuiet_nil ?_
          rintro _ ⟨q1, rfl⟩
          have HB1 := upB HW q1.b
          have Ck := upK Gk q1.b
          clear hne0 HW HB HC0 k0 k1 k2 k3 k4 k5 n0w n2w Gk Bk pk c0 c1 c2 c3 c4 c5 c6 hb
          have HB := HB1
          clear HB1
          have Bk := Ck
          clear Ck
          by_cases hq : onOf n.n c.vs ≤ n.s
          · have HCq := hidK hq
            go_wp2_with fail
            refine ⟨⟨k + 1, by omega, by go_num, fun j z hj hz => ?_, HB.out, Bk.out⟩, by simp [intOf]; omega⟩
            by_cases e : j = k
            · subst e
              rw [HXn.out] at hz
              obtain rfl := Option.some.inj hz
              exact HCq.out
            · exact HQ.out j z (by omega) hz
          · have HCq := hidK hq
            go_wp2
            go_ret
            exact BoolB.f (fun h => by have h1 : onOf n.n c.vs ≤ n.s := h.2 k n HXn.out; have h2 := HCq.out; omega) HB.out
        · obtain rfl : l1 = k := by omega
          go_wp2
          go_ret
          exact BoolB.t ⟨HQ1.out, fun j n hz => HQ.out j n (by have := (List.getElem?_eq_some_iff.1 hz).1; omega) hz⟩ HB.out

def FreshN (W : World) : Fact := fun v w => ∃ g, v = .pointer (some ⟨g, 0, none⟩) ∧ W.heap.size ≤ g ∧ w.heap[g]? = some (.cells #[.string ⟨#[]⟩, .string ⟨#[]⟩, .int .i64 0, .int .i64 0, .int .i64 0, .bool false, .slice none 0 0] 117 (0, 0))
theorem FreshN.mono (W : World) : Fact.Mono (FreshN W) := by
  rintro v w w' ⟨g, h1, h2, h3⟩ hb
  exact ⟨g, h1, h2, (hb.block g (lt_of_some h3)).trans h3⟩
theorem put7N {w : World} {g : Nat} {v0 v1 v2 v3 v4 v5 v6 : Value} (h : w.heap[g]? = some (.cells #[.string ⟨#[]⟩, .string ⟨#[]⟩, .int .i64 0, .int .i64 0, .int .i64 0, .bool false, .slice none 0 0] 117 (0, 0))) :
    (((((((w.setCell ⟨g, 0, none⟩ (v0)).setCell ⟨g, 1, none⟩ (v1)).setCell ⟨g, 2, none⟩ (v2)).setCell ⟨g, 3, none⟩ (v3)).setCell ⟨g, 4, none⟩ (v4)).setCell ⟨g, 5, none⟩ (v5)).setCell ⟨g, 6, none⟩ (v6)).heap[g]? = some (.cells #[v0, v1, v2, v3, v4, v5, v6] 117 (0, 0)) := by
  have := block_set (i := 6) (block_set (i := 5) (block_set (i := 4) (block_set (i := 3) (block_set (i := 2) (block_set (i := 1) (block_set (i := 0) h v0) v1) v2) v3) v4) v5) v6
  simpa using this
theorem set_below7 {W w : World} {g : Nat} {v0 v1 v2 v3 v4 v5 v6 : Value} (hg : W.heap.size ≤ g) (h : Below W.heap.size W w) : Below W.heap.size W (((((((w.setCell ⟨g, 0, none⟩ (v0)).setCell ⟨g, 1, none⟩ (v1)).setCell ⟨g, 2, none⟩ (v2)).setCell ⟨g, 3, none⟩ (v3)).setCell ⟨g, 4, none⟩ (v4)).setCell ⟨g, 5, none⟩ (v5)).setCell ⟨g, 6, none⟩ (v6)) :=
  set_below hg (set_below hg (set_below hg (set_below hg (set_below hg (set_below hg (set_below hg h))))))
def AllS (c : Cl) (p : Pd) (n : Nd) : Prop := ∀ (j : Nat) t, p.zs[j]? = some t → ∃ v, IsBd c t v ∧ InL n.zs v.n

set_option maxRecDepth 100000 in
set_option maxHeartbeats 12800000 in
theorem sall_any (d : Ad) (c : Cl) (p : Pd) (pa : Option Addr) (pl pc : Nat) (j1 : Nat) (n : Nd) (w : World) (hr : ClRow w d c.raw) (hn : RisBy Nd.n c.ns) (hx : RisBy Xd.n c.xs) (hv : RisBy Vd.n c.vs) (hne : ∀ (j : Nat) v, c.vs[j]? = some v → ¬ v.n = ⟨#[]⟩) (hp : TxRow w pa pl pc p.zs) (hj1 : c.ns[j1]? = some n) (hnn : n.n = p.d) (hbd : ∀ (j : Nat) t, p.zs[j]? = some t → ∃ v, IsBd c t v) :
    Calls Tryz.prog 131 #[.agg #[.slice d.a1 d.l1 d.c1, .slice d.a2 d.l2 d.c2, .slice d.a3 d.l3 d.c3, .slice d.a4 d.l4 d.c4, .slice d.a5 d.l5 d.c5, .int .i64 c.now], .agg #[.string p.n, .int .i64 p.c, .string p.z, .slice pa pl pc, .string p.d, .int .i64 p.p]] w (BoolB (AllS c p n) w) := by
  obtain ⟨a1, l1, y1, a2, l2, y2, a3, l3, y3, a4, l4, y4, a5, l5, y5⟩ := d
  dsimp only
  have HR := hidK hr
  have hl1 : c.ns.length = l1 := by simpa using (show (c.ns.map ndF).length = l1 from hr.n.1)
  have hm1 : l1 ≤ 9223372036854775807 := Nat.le_trans hr.n.2.1 hr.n.2.2.1
  have hl2 : c.ks.length = l2 := by simpa using (show (c.ks.map kdF).length = l2 from hr.k.1)
  have hm2 : l2 ≤ 9223372036854775807 := Nat.le_trans hr.k.2.1 hr.k.2.2.1
  have hl3 : c.vs.length = l3 := by simpa using (show (c.vs.map vdF).length = l3 from hr.v.1)
  have hm3 : l3 ≤ 9223372036854775807 := Nat.le_trans hr.v.2.1 hr.v.2.2.1
  have hl4 : c.xs.length = l4 := by simpa using (show (c.xs.map xdF).length = l4 from hr.x.1)
  have hm4 : l4 ≤ 9223372036854775807 := Nat.le_trans hr.x.2.1 hr.x.2.2.1
  have hl5 : c.ps.length = l5 := by simpa using (show (c.ps.map pdF).length = l5 from hr.p.1)
  have hm5 : l5 ≤ 9223372036854775807 := Nat.le_trans hr.p.2.1 hr.p.2.2.1
  clear hr
  have HNR := hidK hn
  have HX := hidK hx
  have HV := hidK hv
  have HNE := hidK hne
  have HP := hidK hp
  have HBD := hidK hbd
  have hlc : pl ≤ 9223372036854775807 := Nat.le_trans hp.2.1 hp.2.2.1
  have hzl : p.zs.length = pl := hp.1
  have hl1' : j1 < l1 := by have h3 := (List.getElem?_eq_some_iff.1 hj1).1; omega
  obtain ⟨b1, o1, n', rfl, hb1n, hn', hat⟩ := nd_at HR.out.n hl1'
  rw [hj1] at hn'
  obtain rfl := Option.some.inj hn'
  obtain ⟨na, nl, nc, hnr, z0, z1, d0, d1, d2, d3, d4, d5, d6⟩ := nd_cells hat
  have HJn := hidK hj1
  have HNn := hidK hnn
  have HTn := hidK hnr
  have HBn := hidK hb1n
  have HD : Hid (w.cell? ⟨b1, o1 + j1 * 7, none⟩ = some (.string n.n) ∧ w.cell? ⟨b1, o1 + j1 * 7 + 1, none⟩ = some (.string n.z) ∧ w.cell? ⟨b1, o1 + j1 * 7 + 2, none⟩ = some (.int .i64 n.c) ∧ w.cell? ⟨b1, o1 + j1 * 7 + 3, none⟩ = some (.int .i64 n.s) ∧ w.cell? ⟨b1, o1 + j1 * 7 + 4, none⟩ = some (.int .i64 n.u) ∧ w.cell? ⟨b1, o1 + j1 * 7 + 5, none⟩ = some (.bool n.d) ∧ w.cell? ⟨b1, o1 + j1 * 7 + 6, none⟩ = some (.slice na nl nc)) := ⟨d0, d1, d2, d3, d4, d5, d6⟩
  clear hn' hat hnr z0 z1 d0 d1 d2 d3 d4 d5 d6 hj1 hnn hb1n hn hx hv hne hp hbd
  obtain ⟨W, hW0⟩ : ∃ W, W = (w.alloc (.cells #[.slice (some ⟨b1, o1, none⟩) l1 y1, .slice a2 l2 y2, .slice a3 l3 y3, .slice a4 l4 y4, .slice a5 l5 y5, .int .i64 c.now] 39)).alloc (.cells #[.string p.n, .int .i64 p.c, .string p.z, .slice pa pl pc, .string p.d, .int .i64 p.p] 118) := ⟨_, rfl⟩
  have GK : Hid (W.heap[w.heap.size]? = some (.cells #[.slice (some ⟨b1, o1, none⟩) l1 y1, .slice a2 l2 y2, .slice a3 l3 y3, .slice a4 l4 y4, .slice a5 l5 y5, .int .i64 c.now] 39 (0, 0))) := by rw [hW0]; exact heap2_0 _ _ _
  have GP : Hid (W.heap[w.heap.size + 1]? = some (.cells #[.string p.n, .int .i64 p.c, .string p.z, .slice pa pl pc, .string p.d, .int .i64 p.p] 118 (0, 0))) := by rw [hW0]; exact heap2_1 _ _ _
  have BW : Hid (Below w.heap.size w W) := by rw [hW0]; exact below2 _ _ _
  go_enter Tryz.func131, Tryz.ntmps131
  go_wp2_with fail
  rw [← hW0]
  clear hW0
  rename_i K0 hK0
  refine wp_region_grow_last (by kernel_rfl) rfl rfl (by kernel_rfl) ?_
  refine' Grow.stepC _ rfl ?_ ?_
  rotate_left 1
  · refine Obl.plain rfl ?_
    intro ac wg K hsz hW hf hK; clear hsz
    have e2 := hf 2 (by decide)
    simp [slotFact, List.lookup] at e2
    clear hf
    go_simp
    refine hK _ _ (Below.refl _ _) ?_
    with_reducible rfl
  refine' Grow.stepC _ rfl ?_ ?_
  rotate_left 1
  · refine Obl.plain rfl ?_
    intro ac wg K hsz hW hf hK; clear hsz
    have e7 := hf 7 (by decide)
    simp [slotFact, List.lookup] at e7
    clear hf
    obtain ⟨k0, k1, k2, k3, k4, k5⟩ := cs6 ((hW.block _ (lt_of_some GK.out)).trans GK.out)
    go_simp
    refine hK _ _ (Below.refl _ _) ?_
    with_reducible rfl
  refine' Grow.stepC _ rfl ?_ ?_
  rotate_left 1
  · refine Obl.plain rfl ?_
    intro ac wg K hsz hW hf hK; clear hsz
    have e2 := hf 2 (by decide)
    simp [slotFact, List.lookup] at e2
    clear hf
    obtain ⟨k0, k1, k2, k3, k4, k5⟩ := cs6 ((hW.block _ (lt_of_some GK.out)).trans GK.out)
    go_simp
    refine hK _ _ (Below.refl _ _) ?_
    with_reducible rfl
  refine' Grow.stepC _ rfl ?_ ?_
  rotate_left 1
  · refine Obl.plain rfl ?_
    intro ac wg K hsz hW hf hK; clear hsz
    have e3 := hf 3 (by decide)
    simp [slotFact, List.lookup] at e3
    clear hf
    go_simp
    refine hK _ _ (Below.refl _ _) ?_
    with_reducible rfl
  refine' Grow.stepC _ rfl ?_ ?_
  rotate_left 1
  · refine Obl.plain rfl ?_
    intro ac wg K hsz hW hf hK; clear hsz
    have e10 := hf 10 (by decide)
    simp [slotFact, List.lookup] at e10
    clear hf
    obtain ⟨r0, r1, r2, r3, r4, r5⟩ := cs6 ((hW.block _ (lt_of_some GP.out)).trans GP.out)
    go_simp
    refine hK _ _ (Below.refl _ _) ?_
    with_reducible rfl
  refine' Grow.stepC (.int .i64 j1) rfl ?_ ?_
  · refine Obl.plain rfl ?_
    intro ac wg K hsz hW hf hK; clear hsz
    have e9 := hf 9 (by decide)
    simp [slotFact, List.lookup] at e9
    have e11 := hf 11 (by decide)
    simp [slotFact, List.lookup] at e11
    clear hf
    go_simp
    refine (sxnd_hit ⟨(some ⟨b1, o1, none⟩), l1, y1, a2, l2, y2, a3, l3, y3, a4, l4, y4, a5, l5, y5⟩ c.now c.ns p.d _ (HR.out.n.below (BW.out.trans (hW.mono BW.out.size))) HNR.out HJn.out HNn.out).mono ?_
    rintro e w5 ⟨rfl, hb5⟩
    exact hK _ _ hb5 rfl
  refine' Grow.stepC _ rfl ?_ ?_
  rotate_left 1
  · refine Obl.plain rfl ?_
    intro ac wg K hsz hW hf hK; clear hsz
    have e8 := hf 8 (by decide)
    simp [slotFact, List.lookup] at e8
    have e12 := hf 12 (by decide)
    simp [slotFact, List.lookup] at e12
    clear hf
    go_simp
    refine hK _ _ (Below.refl _ _) ?_
    with_reducible rfl
  refine' Grow.stepC _ rfl ?_ ?_
  rotate_left 1
  · refine Obl.plain rfl ?_
    intro ac wg K hsz hW hf hK; clear hsz
    have e13 := hf 13 (by decide)
    simp [slotFact, List.lookup] at e13
    clear hf
    have hBg := BW.out.trans (hW.mono BW.out.size)
    obtain ⟨d0, d1, d2, d3, d4, d5, d6⟩ := HD.out
    have g0 := (cell_below hBg HBn.out).trans d0
    have g1 := (cell_below hBg HBn.out).trans d1
    have g2 := (cell_below hBg HBn.out).trans d2
    have g3 := (cell_below hBg HBn.out).trans d3
    have g4 := (cell_below hBg HBn.out).trans d4
    have g5 := (cell_below hBg HBn.out).trans d5
    have g6 := (cell_below hBg HBn.out).trans d6
    clear d0 d1 d2 d3 d4 d5 d6 hBg
    go_simp
    refine hK _ _ (Below.refl _ _) ?_
    with_reducible rfl
  refine Grow.step (FreshN W) rfl (FreshN.mono W) ?_ ?_
  · refine Obl.plain rfl ?_
    intro ac wg K hsz hW hf hK; clear hsz
    clear hf
    go_simp
    exact hK _ _ (below1 _ _) ⟨_, rfl, hW.size, Array.getElem?_push_size⟩
  refine Grow.done ?_
  intro q wz hW hf
  simp only [List.forall_mem_cons] at hf
  obtain ⟨⟨g5, h5, hbW, hgb⟩, h14, -⟩ := hf
  have r0 : wz.cell? ⟨g5, 0, none⟩ = some (.string ⟨#[]⟩) := cellK hgb 0
  have r1 : wz.cell? ⟨g5, 1, none⟩ = some (.string ⟨#[]⟩) := cellK hgb 1
  have r2 : wz.cell? ⟨g5, 2, none⟩ = some (.int .i64 0) := cellK hgb 2
  have r3 : wz.cell? ⟨g5, 3, none⟩ = some (.int .i64 0) := cellK hgb 3
  have r4 : wz.cell? ⟨g5, 4, none⟩ = some (.int .i64 0) := cellK hgb 4
  have r5 : wz.cell? ⟨g5, 5, none⟩ = some (.bool false) := cellK hgb 5
  have r6 : wz.cell? ⟨g5, 6, none⟩ = some (.slice none 0 0) := cellK hgb 6
  have f0 : wz.frozen? ⟨g5, 0, none⟩ = false := froK hgb 0
  have f1 : wz.frozen? ⟨g5, 1, none⟩ = false := froK hgb 1
  have f2 : wz.frozen? ⟨g5, 2, none⟩ = false := froK hgb 2
  have f3 : wz.frozen? ⟨g5, 3, none⟩ = false := froK hgb 3
  have f4 : wz.frozen? ⟨g5, 4, none⟩ = false := froK hgb 4
  have f5 : wz.frozen? ⟨g5, 5, none⟩ = false := froK hgb 5
  have f6 : wz.frozen? ⟨g5, 6, none⟩ = false := froK hgb 6
  have GN := hidK (put7N (v0 := .string n.n) (v1 := .string n.z) (v2 := .int .i64 n.c) (v3 := .int .i64 n.s) (v4 := .int .i64 n.u) (v5 := .bool n.d) (v6 := .slice na nl nc) hgb)
  have BN := hidK (set_below7 (v0 := .string n.n) (v1 := .string n.z) (v2 := .int .i64 n.c) (v3 := .int .i64 n.s) (v4 := .int .i64 n.u) (v5 := .bool n.d) (v6 := .slice na nl nc) hbW hW)
  clear hgb hW
  intro K hK
  rw [if_pos (by rfl)]
  simp only [putsAll, List.foldr, Act.put, List.setIfInBounds_toArray, List.set_cons_zero, List.set_cons_succ, h5, h14]
  simp only [List.getLast]
  go_simp
  refine hK _ _ ?_
  refine hK0 _ _ ?_
  clear hK hK0 K K0
  generalize (((((((wz.setCell ⟨g5, 0, none⟩ (.string n.n)).setCell ⟨g5, 1, none⟩ (.string n.z)).setCell ⟨g5, 2, none⟩ (.int .i64 n.c)).setCell ⟨g5, 3, none⟩ (.int .i64 n.s)).setCell ⟨g5, 4, none⟩ (.int .i64 n.u)).setCell ⟨g5, 5, none⟩ (.bool n.d)).setCell ⟨g5, 6, none⟩ (.slice na nl nc)) = Y at GN BN ⊢
  clear r0 f0 r1 f1 r2 f2 r3 f3 r4 f4 r5 f5 r6 f6
  have KV := upK GK BN.out
  have PVv := upK GP BN.out
  have BV := hidK (BW.out.trans (BN.out.mono BW.out.size))
  clear GK GP BW BN hbW
  have pp : Y.cell? ⟨w.heap.size + 1, 3, none⟩ = some (.slice pa pl pc) := cellK PVv.out 3
  go_wp2
  clear pp
  go_loopw [6] (fun i wr => ∃ k : Nat, k ≤ pl ∧ i = .int .i64 k ∧ Hid (∀ (j : Nat) t, j < k → p.zs[j]? = some t → ∃ v, IsBd c t v ∧ InL n.zs v.n) ∧ Hid (Below Y.heap.size Y wr)) (fun i _ => pl - (intOf i).toNat)
  case atStart => exact ⟨0, by omega, rfl, fun _ _ h => absurd h (by omega), Below.refl _ _⟩
  case round =>
    obtain ⟨k, hk, rfl, HQ, HBY⟩ := hrel
    have HB := hidK (BV.out.trans (HBY.out.mono BV.out.size))
    have Bk := upK KV HBY.out
    have Bp := upK PVv HBY.out
    have Bn := upK GN HBY.out
    have pp : wr.cell? ⟨w.heap.size + 1, 3, none⟩ = some (.slice pa pl pc) := cellK Bp.out 3
    by_cases hlt : k < pl
    · obtain ⟨b, o, t, rfl, hb, hxt, hc, hsz⟩ := (HP.out.below HB.out).at hlt
      have HXt := hidK hxt
      clear hxt hsz
      obtain ⟨v, hbd⟩ := HBD.out k t HXt.out
      obtain ⟨j3, hj3⟩ := hbd.at
      have hl3' : j3 < l3 := by have h1 := (List.getElem?_eq_some_iff.1 hj3).1; omega
      obtain ⟨b3, o3, v', rfl, hb3, hv', hat⟩ := vd_at HR.out.v hl3'
      rw [hj3] at hv'
      obtain rfl := Option.some.inj hv'
      obtain ⟨xa, xl, xc, hvr, z0, z2, z3, z5, d0, d1, d2, d3, d4, d5, d6, d7⟩ := vd_cells hat
      have HJ := hidK hj3
      have HDb := hidK hbd
      have hbv : b3 < wr.heap.size := Nat.lt_of_lt_of_le hb3 HB.out.size
      have v0 := (cell_below HB.out hb3).trans d0
      clear hv' hat hvr z0 z2 z3 z5 d0 d1 d2 d3 d4 d5 d6 d7 hj3 hbd hb3
      by_cases hin : InL n.zs v.n
      · have HIn := hidK hin
        clear hin
        have Gk : Hid (wr.heap[w.heap.size]? = some (.cells #[.slice (some ⟨b1, o1, none⟩) l1 y1, .slice a2 l2 y2, .slice (some ⟨b3, o3, none⟩) l3 y3, .slice a4 l4 y4, .slice a5 l5 y5, .int .i64 c.now] 39 (0, 0))) := Bk.out
        have Gp : Hid (wr.heap[w.heap.size + 1]? = some (.cells #[.string p.n, .int .i64 p.c, .string p.z, .slice (some ⟨b, o, none⟩) pl pc, .string p.d, .int .i64 p.p] 118 (0, 0))) := Bp.out
        have Gn : Hid (wr.heap[g5]? = some (.cells #[.string n.n, .string n.z, .int .i64 n.c, .int .i64 n.s, .int .i64 n.u, .bool n.d, .slice na nl nc] 117 (0, 0))) := Bn.out
        have HW : Hid (Below w.heap.size w wr) := HB.out
        have k0 := fun q : Wd wr => q.slot (o := 0) Gk.out rfl
        have k1 := fun q : Wd wr => q.slot (o := 1) Gk.out rfl
        have k2 := fun q : Wd wr => q.slot (o := 2) Gk.out rfl
        have k3 := fun q : Wd wr => q.slot (o := 3) Gk.out rfl
        have k4 := fun q : Wd wr => q.slot (o := 4) Gk.out rfl
        have k5 := fun q : Wd wr => q.slot (o := 5) Gk.out rfl
        have p3 := fun q : Wd wr => q.slot (o := 3) Gp.out rfl
        have n6 := fun q : Wd wr => q.slot (o := 6) Gn.out rfl
        have tw : ∀ q : Wd wr, q.w.cell? ⟨b, o + k, none⟩ = some (.string t) := fun q => (q.cell (hb)).trans (hc)
        have vw : ∀ q : Wd wr, q.w.cell? ⟨b3, o3 + j3 * 8, none⟩ = some (.string v.n) := fun q => (q.cell (hbv)).trans (v0)
        have hne0 := Wd.ne wr
        have HC0 := hidK (fun q : Wd wr => sbind_hit ⟨(some ⟨b1, o1, none⟩), l1, y1, a2, l2, y2, (some ⟨b3, o3, none⟩), l3, y3, a4, l4, y4, a5, l5, y5⟩ c t q.w (HR.out.below (HW.out.trans (q.b.mono HW.out.size))) HX.out HV.out HNE.out HJ.out HDb.out)
        have HC1 := hidK (fun q : Wd wr => (shas_any na nl nc n.zs v.n q.w (HTn.out.below (HW.out.trans (q.b.mono HW.out.size)))).mono (fun _ _ h => BoolB.yes h HIn.out))
        go_wp2_with fail
        refine wp_region_wide (by kernel_rfl) (by kernel_rfl) ?_
        repeat (go_big_quiet_step (first | (go_at_call 58; exact Calls.wide (HC0.out _)) | (go_at_call 130; exact Calls.wide (HC1.out _)) | fail))
        refine wpQuiet_nil ?_
        rintro _ ⟨q2, rfl⟩
        have HB1 := upB HW q2.b
        have Ck := upK Gk q2.b
        have Cp := upK Gp q2.b
        have Cn := upK Gn q2.b
        clear hne0 HW HB HC0 HC1 k0 k1 k2 k3 k4 k5 p3 n6 tw vw Gk Gp Gn Bk Bp Bn pp hb hc hbv v0
        have HB := HB1
        clear HB1
        have Bk := Ck
        clear Ck
        have Bp := Cp
        clear Cp
        have Bn := Cn
        clear Cn
        go_wp2_with fail
        refine ⟨⟨k + 1, by omega, by go_num, fun j s hj hs => ?_, HBY.out.trans (q2.b.mono HBY.out.size)⟩, by simp [intOf]; omega⟩
        by_cases e : j = k
        · subst e
          rw [HXt.out] at hs
          obtain rfl := Option.some.inj hs
          exact ⟨v, HDb.out, HIn.out⟩
        · exact HQ.out j s (by omega) hs
      · have HIn := hidK hin
        clear hin
        have Gk : Hid (wr.heap[w.heap.size]? = some (.cells #[.slice (some ⟨b1, o1, none⟩) l1 y1, .slice a2 l2 y2, .slice (some ⟨b3, o3, none⟩) l3 y3, .slice a4 l4 y4, .slice a5 l5 y5, .int .i64 c.now] 39 (0, 0))) := Bk.out
        have Gp : Hid (wr.heap[w.heap.size + 1]? = some (.cells #[.string p.n, .int .i64 p.c, .string p.z, .slice (some ⟨b, o, none⟩) pl pc, .string p.d, .int .i64 p.p] 118 (0, 0))) := Bp.out
        have Gn : Hid (wr.heap[g5]? = some (.cells #[.string n.n, .string n.z, .int .i64 n.c, .int .i64 n.s, .int .i64 n.u, .bool n.d, .slice na nl nc] 117 (0, 0))) := Bn.out
        have HW : Hid (Below w.heap.size w wr) := HB.out
        have k0 := fun q : Wd wr => q.slot (o := 0) Gk.out rfl
        have k1 := fun q : Wd wr => q.slot (o := 1) Gk.out rfl
        have k2 := fun q : Wd wr => q.slot (o := 2) Gk.out rfl
        have k3 := fun q : Wd wr => q.slot (o := 3) Gk.out rfl
        have k4 := fun q : Wd wr => q.slot (o := 4) Gk.out rfl
        have k5 := fun q : Wd wr => q.slot (o := 5) Gk.out rfl
        have p3 := fun q : Wd wr => q.slot (o := 3) Gp.out rfl
        have n6 := fun q : Wd wr => q.slot (o := 6) Gn.out rfl
        have tw : ∀ q : Wd wr, q.w.cell? ⟨b, o + k, none⟩ = some (.string t) := fun q => (q.cell (hb)).trans (hc)
        have vw : ∀ q : Wd wr, q.w.cell? ⟨b3, o3 + j3 * 8, none⟩ = some (.string v.n) := fun q => (q.cell (hbv)).trans (v0)
        have hne0 := Wd.ne wr
        have HC0 := hidK (fun q : Wd wr => sbind_hit ⟨(some ⟨b1, o1, none⟩), l1, y1, a2, l2, y2, (some ⟨b3, o3, none⟩), l3, y3, a4, l4, y4, a5, l5, y5⟩ c t q.w (HR.out.below (HW.out.trans (q.b.mono HW.out.size))) HX.out HV.out HNE.out HJ.out HDb.out)
        have HC1 := hidK (fun q : Wd wr => (shas_any na nl nc n.zs v.n q.w (HTn.out.below (HW.out.trans (q.b.mono HW.out.size)))).mono (fun _ _ h => BoolB.no h HIn.out))
        go_wp2_with fail
        refine wp_region_wide (by kernel_rfl) (by kernel_rfl) ?_
        repeat (go_big_quiet_step (first | (go_at_call 58; exact Calls.wide (HC0.out _)) | (go_at_call 130; exact Calls.wide (HC1.out _)) | fail))
        refine wpQuiet_nil ?_
        rintro _ ⟨q2, rfl⟩
        have HB1 := upB HW q2.b
        have Ck := upK Gk q2.b
        have Cp := upK Gp q2.b
        have Cn := upK Gn q2.b
        clear hne0 HW HB HC0 HC1 k0 k1 k2 k3 k4 k5 p3 n6 tw vw Gk Gp Gn Bk Bp Bn pp hb hc hbv v0
        have HB := HB1
        clear HB1
        have Bk := Ck
        clear Ck
        have Bp := Cp
        clear Cp
        have Bn := Cn
        clear Cn
        go_wp2
        go_ret
        refine BoolB.f (fun h => ?_) HB.out
        obtain ⟨v2, e1, e2⟩ := h k t HXt.out
        obtain rfl := IsBd.inj HX.out HV.out HDb.out e1
        exact HIn.out e2
    · obtain rfl : pl = k := by omega
      go_wp2
      go_ret
      exact BoolB.t (fun j t ht => HQ.out j t (by have := (List.getElem?_eq_some_iff.1 ht).1; omega) ht) HB.out

set_option maxRecDepth 100000 in
set_option maxHeartbeats 12800000 in
theorem smounted_any (d : Ad) (c : Cl) (w : World) (hr : ClRow w d c.raw) (hn : RisBy Nd.n c.ns) (hx : RisBy Xd.n c.xs) (hv : RisBy Vd.n c.vs) (hne : ∀ (j : Nat) v, c.vs[j]? = some v → ¬ v.n = ⟨#[]⟩) (hrun : ∀ (j : Nat) p, c.ps[j]? = some p → p.p = 2 → (∃ (i : Nat) (n : Nd), c.ns[i]? = some n ∧ n.n = p.d) ∧ ∀ (j : Nat) t, p.zs[j]? = some t → ∃ v, IsBd c t v) :
    Calls Tryz.prog 76 #[.agg #[.slice d.a1 d.l1 d.c1, .slice d.a2 d.l2 d.c2, .slice d.a3 d.l3 d.c3, .slice d.a4 d.l4 d.c4, .slice d.a5 d.l5 d.c5, .int .i64 c.now]] w (BoolB (MountedI c) w) := by
  obtain ⟨a1, l1, y1, a2, l2, y2, a3, l3, y3, a4, l4, y4, a5, l5, y5⟩ := d
  dsimp only
  have HR := hidK hr
  have hl1 : c.ns.length = l1 := by simpa using (show (c.ns.map ndF).length = l1 from hr.n.1)
  have hm1 : l1 ≤ 9223372036854775807 := Nat.le_trans hr.n.2.1 hr.n.2.2.1
  have hl2 : c.ks.length = l2 := by simpa using (show (c.ks.map kdF).length = l2 from hr.k.1)
  have hm2 : l2 ≤ 9223372036854775807 := Nat.le_trans hr.k.2.1 hr.k.2.2.1
  have hl3 : c.vs.length = l3 := by simpa using (show (c.vs.map vdF).length = l3 from hr.v.1)
  have hm3 : l3 ≤ 9223372036854775807 := Nat.le_trans hr.v.2.1 hr.v.2.2.1
  have hl4 : c.xs.length = l4 := by simpa using (show (c.xs.map xdF).length = l4 from hr.x.1)
  have hm4 : l4 ≤ 9223372036854775807 := Nat.le_trans hr.x.2.1 hr.x.2.2.1
  have hl5 : c.ps.length = l5 := by simpa using (show (c.ps.map pdF).length = l5 from hr.p.1)
  have hm5 : l5 ≤ 9223372036854775807 := Nat.le_trans hr.p.2.1 hr.p.2.2.1
  clear hr
  have HNR := hidK hn
  have HX := hidK hx
  have HV := hidK hv
  have HNE := hidK hne
  have HRun := hidK hrun
  clear hn hx hv hne hrun
  go_enter Tryz.func76, Tryz.ntmps76
  go_wp2
  go_loopw [3] (fun i wr => ∃ k : Nat, k ≤ l1 ∧ i = .int .i64 k ∧ Hid (∀ (j : Nat) z, j < k → c.ns[j]? = some z → MntI c z) ∧ Hid (Below w.heap.size w wr) ∧ Hid (wr.heap[w.heap.size]? = some (.cells #[.slice a1 l1 y1, .slice a2 l2 y2, .slice a3 l3 y3, .slice a4 l4 y4, .slice a5 l5 y5, .int .i64 c.now] 39 (0, 0)))) (fun i _ => l1 - (intOf i).toNat)
  case atStart => exact ⟨0, by omega, rfl, fun _ _ h => absurd h (by omega), below1 _ _, Array.getElem?_push_size⟩
  case round =>
    obtain ⟨k, hk, rfl, HQ, HB, Bk⟩ := hrel
    have pk : wr.cell? ⟨w.heap.size, 0, none⟩ = some (.slice a1 l1 y1) := cellK Bk.out 0
    have pkl : w.heap.size < wr.heap.size := lt_of_some Bk.out
    by_cases hlt : k < l1
    · obtain ⟨b, o, n, rfl, hb, hx, hat⟩ := nd_at (HR.out.n.below HB.out) hlt
      obtain ⟨va, vl, vc, hvr, z0, z1, c0, c1, c2, c3, c4, c5, c6⟩ := nd_cells hat
      have HXn := hidK hx
      have HTn := hidK hvr
      have HZn0 := hidK z0
      have HZn1 := hidK z1
      clear hat hx z0 z1 hvr
      have hvl : n.zs.length = vl := HTn.out.1
      have hvc : vl ≤ 9223372036854775807 := Nat.le_trans HTn.out.2.1 HTn.out.2.2.1
      have HVL := hidK hvl
      clear hvl
      have KV : Hid ((wr.alloc (.cells #[.string n.n, .string n.z, .int .i64 n.c, .int .i64 n.s, .int .i64 n.u, .bool n.d, .slice va vl vc] 117)).heap[w.heap.size]? = some (.cells #[.slice (some ⟨b, o, none⟩) l1 y1, .slice a2 l2 y2, .slice a3 l3 y3, .slice a4 l4 y4, .slice a5 l5 y5, .int .i64 c.now] 39 (0, 0))) := (Below.heap_alloc wr (.cells #[.string n.n, .string n.z, .int .i64 n.c, .int .i64 n.s, .int .i64 n.u, .bool n.d, .slice va vl vc] 117) _ (lt_of_some Bk.out)).trans Bk.out
      have GV : Hid ((wr.alloc (.cells #[.string n.n, .string n.z, .int .i64 n.c, .int .i64 n.s, .int .i64 n.u, .bool n.d, .slice va vl vc] 117)).heap[wr.heap.size]? = some (.cells #[.string n.n, .string n.z, .int .i64 n.c, .int .i64 n.s, .int .i64 n.u, .bool n.d, .slice va vl vc] 117 (0, 0))) := Array.getElem?_push_size
      have BV := hidK (HB.out.trans ((below1 wr (.cells #[.string n.n, .string n.z, .int .i64 n.c, .int .i64 n.s, .int .i64 n.u, .bool n.d, .slice va vl vc] 117)).mono HB.out.size))
      have TT := hidK (HTn.out.below (below1 wr (.cells #[.string n.n, .string n.z, .int .i64 n.c, .int .i64 n.s, .int .i64 n.u, .bool n.d, .slice va vl vc] 117)))
      obtain ⟨W, hW⟩ : ∃ W, W = wr.alloc (.cells #[.string n.n, .string n.z, .int .i64 n.c, .int .i64 n.s, .int .i64 n.u, .bool n.d, .slice va vl vc] 117) := ⟨_, rfl⟩
      obtain ⟨gb, hgb⟩ : ∃ gb, gb = wr.heap.size := ⟨_, rfl⟩
      rw [← hW] at KV GV BV TT
      rw [← hgb] at GV
      go_wp2
      rw [← hW, ← hgb]
      clear hW hgb HB Bk HTn c0 c1 c2 c3 c4 c5 c6 hb pk pkl
      go_loopw [5] (fun i wr => ∃ kq : Nat, kq ≤ vl ∧ i = .int .i64 kq ∧ Hid (∀ (j : Nat) t, j < kq → n.zs[j]? = some t → ∃ (i : Nat) (v : Vd), c.vs[i]? = some v ∧ v.n = t ∧ (n.d = true ∨ InL v.zs n.n)) ∧ Hid (Below W.heap.size W wr)) (fun i _ => vl - (intOf i).toNat)
      case atStart => exact ⟨0, by omega, rfl, fun _ _ h => absurd h (by omega), Below.refl _ _⟩
      case round =>
        obtain ⟨kq, hkq, rfl, HQ2, HBW⟩ := hrel
        have HB := hidK (BV.out.trans (HBW.out.mono BV.out.size))
        have Bk := upK KV HBW.out
        have Bv := upK GV HBW.out
        have pv : wr.cell? ⟨gb, 6, none⟩ = some (.slice va vl vc) := cellK Bv.out 6
        by_cases hlt2 : kq < vl
        · obtain ⟨b2, o2, t, rfl, hb, hx, hc, hsz⟩ := (TT.out.below HBW.out).at hlt2
          have HXt := hidK hx
          clear hx hsz
          by_cases hnn : ∃ (i : Nat) (v : Vd), c.vs[i]? = some v ∧ v.n = t
          rotate_left
          · have HH := hidK hnn
            clear hnn
            have Gk : Hid (wr.heap[w.heap.size]? = some (.cells #[.slice (some ⟨b, o, none⟩) l1 y1, .slice a2 l2 y2, .slice a3 l3 y3, .slice a4 l4 y4, .slice a5 l5 y5, .int .i64 c.now] 39 (0, 0))) := Bk.out
            have Gv : Hid (wr.heap[gb]? = some (.cells #[.string n.n, .string n.z, .int .i64 n.c, .int .i64 n.s, .int .i64 n.u, .bool n.d, .slice (some ⟨b2, o2, none⟩) vl vc] 117 (0, 0))) := Bv.out
            have HW : Hid (Below w.heap.size w wr) := HB.out
            have k0 := fun q : Wd wr => q.slot (o := 0) Gk.out rfl
            have k1 := fun q : Wd wr => q.slot (o := 1) Gk.out rfl
            have k2 := fun q : Wd wr => q.slot (o := 2) Gk.out rfl
            have k3 := fun q : Wd wr => q.slot (o := 3) Gk.out rfl
            have k4 := fun q : Wd wr => q.slot (o := 4) Gk.out rfl
            have k5 := fun q : Wd wr => q.slot (o := 5) Gk.out rfl
            have v6 := fun q : Wd wr => q.slot (o := 6) Gv.out rfl
            have tw : ∀ q : Wd wr, q.w.cell? ⟨b2, o2 + kq, none⟩ = some (.string t) := fun q => (q.cell (hb)).trans (hc)
            have hne0 := Wd.ne wr
            have HC0 := hidK (fun q : Wd wr => sxvd_miss ⟨(some ⟨b, o, none⟩), l1, y1, a2, l2, y2, a3, l3, y3, a4, l4, y4, a5, l5, y5⟩ c.now c.vs t q.w (HR.out.v.below (HW.out.trans (q.b.mono HW.out.size))) (fun i v h1 h2 => HH.out ⟨i, v, h1, h2⟩))
            go_wp2_with fail
            refine wp_region_wide (by kernel_rfl) (by kernel_rfl) ?_
            repeat (go_big_quiet_step (first | (go_at_call 112; exact Calls.wide (HC0.out _)) | fail))
            refine wpQuiet_nil ?_
            rintro _ ⟨q1, rfl⟩
            have HB1 := upB HW q1.b
            have Ck := upK Gk q1.b
            have Cv := upK Gv q1.b
            clear hne0 HW HB HC0 k0 k1 k2 k3 k4 k5 v6 tw Gk Gv Bk Bv pv
            have HB := HB1
            clear HB1
            have Bk := Ck
            clear Ck
            have Bv := Cv
            clear Cv
            have Gk : Hid (q1.w.heap[w.heap.size]? = some (.cells #[.slice (some ⟨b, o, none⟩) l1 y1, .slice a2 l2 y2, .slice a3 l3 y3, .slice a4 l4 y4, .slice a5 l5 y5, .int .i64 c.now] 39 (0, 0))) := Bk.out
            have Gv : Hid (q1.w.heap[gb]? = some (.cells #[.string n.n, .string n.z, .int .i64 n.c, .int .i64 n.s, .int .i64 n.u, .bool n.d, .slice (some ⟨b2, o2, none⟩) vl vc] 117 (0, 0))) := Bv.out
            have HW : Hid (Below w.heap.size w q1.w) := HB.out
            have k2 := fun q : Wd q1.w => q.slot (o := 2) Gk.out rfl
            have v0 := fun q : Wd q1.w => q.slot (o := 0) Gv.out rfl
            have v1 := fun q : Wd q1.w => q.slot (o := 1) Gv.out rfl
            have v2 := fun q : Wd q1.w => q.slot (o := 2) Gv.out rfl
            have v3 := fun q : Wd q1.w => q.slot (o := 3) Gv.out rfl
            have v4 := fun q : Wd q1.w => q.slot (o := 4) Gv.out rfl
            have v5 := fun q : Wd q1.w => q.slot (o := 5) Gv.out rfl
            have v6 := fun q : Wd q1.w => q.slot (o := 6) Gv.out rfl
            have hne0 := Wd.ne q1.w
            go_wp2_with fail
            refine wp_region_wide (by kernel_rfl) (by kernel_rfl) ?_
            repeat (go_big_quiet_step (first | fail))
            refine wpQuiet_nil ?_
            rintro _ ⟨q2, rfl⟩
            have HB2 := upB HW q2.b
            have Ck := upK Gk q2.b
            have Cv := upK Gv q2.b
            clear hne0 HW HB k2 v0 v1 v2 v3 v4 v5 v6 Gk Gv Bk Bv
            have HB := HB2
            clear HB2
            have Bk := Ck
            clear Ck
            have Bv := Cv
            clear Cv
            go_wp2
            go_ret
            refine BoolB.f (fun h => ?_) HB.out
            obtain ⟨i, v, h2, h3, _⟩ := (h.1 k n HXn.out) kq t HXt.out
            exact HH.out ⟨i, v, h2, h3⟩
          obtain ⟨j3, v, h1, h2⟩ := hnn
          have hl3' : j3 < l3 := by have h3 := (List.getElem?_eq_some_iff.1 h1).1; omega
          obtain ⟨b3, o3, v', rfl, hb3, hv', hat⟩ := vd_at HR.out.v hl3'
          rw [h1] at hv'
          obtain rfl := Option.some.inj hv'
          obtain ⟨xa, xl, xc, hvr, z0, z2, z3, z5, d0, d1, d2, d3, d4, d5, d6, d7⟩ := vd_cells hat
          have HJ := hidK h1
          have HNv := hidK h2
          have HTx := hidK hvr
          have HC7 := hidK d7
          have HB3 := hidK hb3
          have hj31 : decide ((j3 : Int) < 0) = false := by simp
          clear hv' hat hvr z0 z2 z3 z5 d0 d1 d2 d3 d4 d5 d6 d7 h1 h2 hb3
          have Gk : Hid (wr.heap[w.heap.size]? = some (.cells #[.slice (some ⟨b, o, none⟩) l1 y1, .slice a2 l2 y2, .slice (some ⟨b3, o3, none⟩) l3 y3, .slice a4 l4 y4, .slice a5 l5 y5, .int .i64 c.now] 39 (0, 0))) := Bk.out
          have Gv : Hid (wr.heap[gb]? = some (.cells #[.string n.n, .string n.z, .int .i64 n.c, .int .i64 n.s, .int .i64 n.u, .bool n.d, .slice (some ⟨b2, o2, none⟩) vl vc] 117 (0, 0))) := Bv.out
          have HW : Hid (Below w.heap.size w wr) := HB.out
          have k0 := fun q : Wd wr => q.slot (o := 0) Gk.out rfl
          have k1 := fun q : Wd wr => q.slot (o := 1) Gk.out rfl
          have k2 := fun q : Wd wr => q.slot (o := 2) Gk.out rfl
          have k3 := fun q : Wd wr => q.slot (o := 3) Gk.out rfl
          have k4 := fun q : Wd wr => q.slot (o := 4) Gk.out rfl
          have k5 := fun q : Wd wr => q.slot (o := 5) Gk.out rfl
          have v6 := fun q : Wd wr => q.slot (o := 6) Gv.out rfl
          have tw : ∀ q : Wd wr, q.w.cell? ⟨b2, o2 + kq, none⟩ = some (.string t) := fun q => (q.cell (hb)).trans (hc)
          have hne0 := Wd.ne wr
          have HC0 := hidK (fun q : Wd wr => sxvd_hit ⟨(some ⟨b, o, none⟩), l1, y1, a2, l2, y2, (some ⟨b3, o3, none⟩), l3, y3, a4, l4, y4, a5, l5, y5⟩ c.now c.vs t q.w (HR.out.v.below (HW.out.trans (q.b.mono HW.out.size))) HV.out HJ.out HNv.out)
          go_wp2_with fail
          refine wp_region_wide (by kernel_rfl) (by kernel_rfl) ?_
          repeat (go_big_quiet_step (first | (go_at_call 112; exact Calls.wide (HC0.out _)) | fail))
          refine wpQuiet_nil ?_
          rintro _ ⟨q1, rfl⟩
          have HB1 := upB HW q1.b
          have Ck := upK Gk q1.b
          have Cv := upK Gv q1.b
          clear hne0 HW HB HC0 k0 k1 k2 k3 k4 k5 v6 tw Gk Gv Bk Bv pv hb hc
          have HB := HB1
          clear HB1
          have Bk := Ck
          clear Ck
          have Bv := Cv
          clear Cv
          have HBW1 := upB HBW q1.b
          have hbv : b3 < q1.w.heap.size := Nat.lt_of_lt_of_le HB3.out HB.out.size
          have v7 := (cell_below HB.out HB3.out).trans HC7.out
          clear HBW
          rcases Bool.eq_false_or_eq_true n.d with hd | hd
          · have HDd := hidK hd
            clear hd
            have Bv2 : Hid (q1.w.heap[gb]? = some (.cells #[.string n.n, .string n.z, .int .i64 n.c, .int .i64 n.s, .int .i64 n.u, .bool true, .slice (some ⟨b2, o2, none⟩) vl vc] 117 (0, 0))) := by have := Bv.out; rw [HDd.out] at this; exact this
            clear Bv
            have Bv := Bv2
            clear Bv2
            have Gk : Hid (q1.w.heap[w.heap.size]? = some (.cells #[.slice (some ⟨b, o, none⟩) l1 y1, .slice a2 l2 y2, .slice (some ⟨b3, o3, none⟩) l3 y3, .slice a4 l4 y4, .slice a5 l5 y5, .int .i64 c.now] 39 (0, 0))) := Bk.out
            have Gv : Hid (q1.w.heap[gb]? = some (.cells #[.string n.n, .string n.z, .int .i64 n.c, .int .i64 n.s, .int .i64 n.u, .bool true, .slice (some ⟨b2, o2, none⟩) vl vc] 117 (0, 0))) := Bv.out
            have HW : Hid (Below w.heap.size w q1.w) := HB.out
            have k2 := fun q : Wd q1.w => q.slot (o := 2) Gk.out rfl
            have v0 := fun q : Wd q1.w => q.slot (o := 0) Gv.out rfl
            have v1 := fun q : Wd q1.w => q.slot (o := 1) Gv.out rfl
            have v2 := fun q : Wd q1.w => q.slot (o := 2) Gv.out rfl
            have v3 := fun q : Wd q1.w => q.slot (o := 3) Gv.out rfl
            have v4 := fun q : Wd q1.w => q.slot (o := 4) Gv.out rfl
            have v5 := fun q : Wd q1.w => q.slot (o := 5) Gv.out rfl
            have v6 := fun q : Wd q1.w => q.slot (o := 6) Gv.out rfl
            have vw : ∀ q : Wd q1.w, q.w.cell? ⟨b3, o3 + j3 * 8 + 7, none⟩ = some (.slice xa xl xc) := fun q => (q.cell (hbv)).trans (v7)
            have hne0 := Wd.ne q1.w
            go_wp2_with fail
            refine wp_region_wide (by kernel_rfl) (by kernel_rfl) ?_
            repeat (go_big_quiet_step (first | fail))
            refine wpQuiet_nil ?_
            rintro _ ⟨q2, rfl⟩
            have HB2 := upB HW q2.b
            have Ck := upK Gk q2.b
            have Cv := upK Gv q2.b
            clear hne0 HW HB k2 v0 v1 v2 v3 v4 v5 v6 vw Gk Gv Bk Bv hbv v7
            have HB := HB2
            clear HB2
            have Bk := Ck
            clear Ck
            have Bv := Cv
            clear Cv
            go_wp2_with fail
            refine ⟨⟨kq + 1, by omega, by go_num, fun j s hj hs => ?_, HBW1.out.trans (q2.b.mono HBW1.out.size)⟩, by simp [intOf]; omega⟩
            by_cases e : j = kq
            · subst e
              rw [HXt.out] at hs
              obtain rfl := Option.some.inj hs
              exact ⟨j3, v, HJ.out, HNv.out, .inl HDd.out⟩
            · exact HQ2.out j s (by omega) hs
          · have HDd := hidK hd
            clear hd
            have Bv2 : Hid (q1.w.heap[gb]? = some (.cells #[.string n.n, .string n.z, .int .i64 n.c, .int .i64 n.s, .int .i64 n.u, .bool false, .slice (some ⟨b2, o2, none⟩) vl vc] 117 (0, 0))) := by have := Bv.out; rw [HDd.out] at this; exact this
            clear Bv
            have Bv := Bv2
            clear Bv2
            by_cases hin : InL v.zs n.n
            · have HIn := hidK hin
              clear hin
              have Gk : Hid (q1.w.heap[w.heap.size]? = some (.cells #[.slice (some ⟨b, o, none⟩) l1 y1, .slice a2 l2 y2, .slice (some ⟨b3, o3, none⟩) l3 y3, .slice a4 l4 y4, .slice a5 l5 y5, .int .i64 c.now] 39 (0, 0))) := Bk.out
              have Gv : Hid (q1.w.heap[gb]? = some (.cells #[.string n.n, .string n.z, .int .i64 n.c, .int .i64 n.s, .int .i64 n.u, .bool false, .slice (some ⟨b2, o2, none⟩) vl vc] 117 (0, 0))) := Bv.out
              have HW : Hid (Below w.heap.size w q1.w) := HB.out
              have k2 := fun q : Wd q1.w => q.slot (o := 2) Gk.out rfl
              have v0 := fun q : Wd q1.w => q.slot (o := 0) Gv.out rfl
              have v1 := fun q : Wd q1.w => q.slot (o := 1) Gv.out rfl
              have v2 := fun q : Wd q1.w => q.slot (o := 2) Gv.out rfl
              have v3 := fun q : Wd q1.w => q.slot (o := 3) Gv.out rfl
              have v4 := fun q : Wd q1.w => q.slot (o := 4) Gv.out rfl
              have v5 := fun q : Wd q1.w => q.slot (o := 5) Gv.out rfl
              have v6 := fun q : Wd q1.w => q.slot (o := 6) Gv.out rfl
              have vw : ∀ q : Wd q1.w, q.w.cell? ⟨b3, o3 + j3 * 8 + 7, none⟩ = some (.slice xa xl xc) := fun q => (q.cell (hbv)).trans (v7)
              have hne0 := Wd.ne q1.w
              have HC0 := hidK (fun q : Wd q1.w => (shas_any xa xl xc v.zs n.n q.w (HTx.out.below (HW.out.trans (q.b.mono HW.out.size)))).mono (fun _ _ h => BoolB.yes h HIn.out))
              go_wp2_with fail
              refine wp_region_wide (by kernel_rfl) (by kernel_rfl) ?_
              repeat (go_big_quiet_step (first | (go_at_call 130; exact Calls.wide (HC0.out _)) | fail))
              refine wpQuiet_nil ?_
              rintro _ ⟨q2, rfl⟩
              have HB2 := upB HW q2.b
              have Ck := upK Gk q2.b
              have Cv := upK Gv q2.b
              clear hne0 HW HB HC0 k2 v0 v1 v2 v3 v4 v5 v6 vw Gk Gv Bk Bv hbv v7
              have HB := HB2
              clear HB2
              have Bk := Ck
              clear Ck
              have Bv := Cv
              clear Cv
              go_wp2_with fail
              refine ⟨⟨kq + 1, by omega, by go_num, fun j s hj hs => ?_, HBW1.out.trans (q2.b.mono HBW1.out.size)⟩, by simp [intOf]; omega⟩
              by_cases e : j = kq
              · subst e
                rw [HXt.out] at hs
                obtain rfl := Option.some.inj hs
                exact ⟨j3, v, HJ.out, HNv.out, .inr HIn.out⟩
              · exact HQ2.out j s (by omega) hs
            · have HIn := hidK hin
              clear hin
              have Gk : Hid (q1.w.heap[w.heap.size]? = some (.cells #[.slice (some ⟨b, o, none⟩) l1 y1, .slice a2 l2 y2, .slice (some ⟨b3, o3, none⟩) l3 y3, .slice a4 l4 y4, .slice a5 l5 y5, .int .i64 c.now] 39 (0, 0))) := Bk.out
              have Gv : Hid (q1.w.heap[gb]? = some (.cells #[.string n.n, .string n.z, .int .i64 n.c, .int .i64 n.s, .int .i64 n.u, .bool false, .slice (some ⟨b2, o2, none⟩) vl vc] 117 (0, 0))) := Bv.out
              have HW : Hid (Below w.heap.size w q1.w) := HB.out
              have k2 := fun q : Wd q1.w => q.slot (o := 2) Gk.out rfl
              have v0 := fun q : Wd q1.w => q.slot (o := 0) Gv.out rfl
              have v1 := fun q : Wd q1.w => q.slot (o := 1) Gv.out rfl
              have v2 := fun q : Wd q1.w => q.slot (o := 2) Gv.out rfl
              have v3 := fun q : Wd q1.w => q.slot (o := 3) Gv.out rfl
              have v4 := fun q : Wd q1.w => q.slot (o := 4) Gv.out rfl
              have v5 := fun q : Wd q1.w => q.slot (o := 5) Gv.out rfl
              have v6 := fun q : Wd q1.w => q.slot (o := 6) Gv.out rfl
              have vw : ∀ q : Wd q1.w, q.w.cell? ⟨b3, o3 + j3 * 8 + 7, none⟩ = some (.slice xa xl xc) := fun q => (q.cell (hbv)).trans (v7)
              have hne0 := Wd.ne q1.w
              have HC0 := hidK (fun q : Wd q1.w => (shas_any xa xl xc v.zs n.n q.w (HTx.out.below (HW.out.trans (q.b.mono HW.out.size)))).mono (fun _ _ h => BoolB.no h HIn.out))
              go_wp2_with fail
              refine wp_region_wide (by kernel_rfl) (by kernel_rfl) ?_
              repeat (go_big_quiet_step (first | (go_at_call 130; exact Calls.wide (HC0.out _)) | fail))
              refine wpQuiet_nil ?_
              rintro _ ⟨q2, rfl⟩
              have HB2 := upB HW q2.b
              have Ck := upK Gk q2.b
              have Cv := upK Gv q2.b
              clear hne0 HW HB HC0 k2 v0 v1 v2 v3 v4 v5 v6 vw Gk Gv Bk Bv hbv v7
              have HB := HB2
              clear HB2
              have Bk := Ck
              clear Ck
              have Bv := Cv
              clear Cv
              go_wp2
              go_ret
              refine BoolB.f (fun h => ?_) HB.out
              obtain ⟨i, v2, e1, e2, e3⟩ := (h.1 k n HXn.out) kq t HXt.out
              obtain ⟨_, rfl⟩ := HV.out.inj e1 HJ.out (e2.trans HNv.out.symm)
              rcases e3 with e3 | e3
              · rw [HDd.out] at e3; cases e3
              · exact HIn.out e3
        · obtain rfl : vl = kq := by omega
          go_wp2_with fail
          refine ⟨⟨k + 1, by omega, by go_num, fun j z hj hz => ?_, HB.out, Bk.out⟩, by simp [intOf]; omega⟩
          by_cases e : j = k
          · subst e
            rw [HXn.out] at hz
            obtain rfl := Option.some.inj hz
            exact fun j s hs => HQ2.out j s (by have h1 := (List.getElem?_eq_some_iff.1 hs).1; have h2 := HVL.out; omega) hs
          · exact HQ.out j z (by omega) hz
    · obtain rfl : l1 = k := by omega
      have HQ1 : Hid (∀ (j : Nat) z, c.ns[j]? = some z → MntI c z) := fun j z hz => HQ.out j z (by have := (List.getElem?_eq_some_iff.1 hz).1; omega) hz
      clear HQ
      have kc : wr.cell? ⟨w.heap.size, 4, none⟩ = some (.slice a5 l5 y5) := cellK Bk.out 4
      go_wp2
      clear pk pkl kc
      go_loopw [7] (fun i wr => ∃ k : Nat, k ≤ l5 ∧ i = .int .i64 k ∧ Hid (∀ (j : Nat) z, j < k → c.ps[j]? = some z → MQ2 c z) ∧ Hid (Below w.heap.size w wr) ∧ Hid (wr.heap[w.heap.size]? = some (.cells #[.slice a1 l1 y1, .slice a2 l2 y2, .slice a3 l3 y3, .slice a4 l4 y4, .slice a5 l5 y5, .int .i64 c.now] 39 (0, 0)))) (fun i _ => l5 - (intOf i).toNat)
      case atStart => exact ⟨0, by omega, rfl, fun _ _ h => absurd h (by omega), HB.out, Bk.out⟩
      case round =>
        obtain ⟨k, hk, rfl, HQ, HB, Bk⟩ := hrel
        have pk : wr.cell? ⟨w.heap.size, 4, none⟩ = some (.slice a5 l5 y5) := cellK Bk.out 4
        have pkl : w.heap.size < wr.heap.size := lt_of_some Bk.out
        by_cases hlt : k < l5
        · obtain ⟨b, o, p, rfl, hb, hx, hat⟩ := pd_at (HR.out.p.below HB.out) hlt
          obtain ⟨va, vl, vc, hvr, z0, z2, z4, c0, c1, c2, c3, c4, c5⟩ := pd_cells hat
          have HXp := hidK hx
          have HTp := hidK hvr
          have HZp0 := hidK z0
          have HZp2 := hidK z2
          have HZp4 := hidK z4
          clear hat hx z0 z2 z4 hvr
          by_cases hp2 : p.p = 2
          rotate_left
          · have HP2 := hidK hp2
            have hp3 : (p.p == 2) = false := by simpa using hp2
            have hszv1 : (wr.alloc (.cells #[.string p.n, .int .i64 p.c, .string p.z, .slice va vl vc, .string p.d, .int .i64 p.p] 118)).heap.size = wr.heap.size + 1 := by simp
            have Gk : Hid ((wr.alloc (.cells #[.string p.n, .int .i64 p.c, .string p.z, .slice va vl vc, .string p.d, .int .i64 p.p] 118)).heap[w.heap.size]? = some (.cells #[.slice a1 l1 y1, .slice a2 l2 y2, .slice a3 l3 y3, .slice a4 l4 y4, .slice (some ⟨b, o, none⟩) l5 y5, .int .i64 c.now] 39 (0, 0))) := (Below.heap_alloc _ _ _ (lt_of_some Bk.out)).trans (Bk.out)
            have Gr : Hid ((wr.alloc (.cells #[.string p.n, .int .i64 p.c, .string p.z, .slice va vl vc, .string p.d, .int .i64 p.p] 118)).heap[wr.heap.size]? = some (.cells #[.string p.n, .int .i64 p.c, .string p.z, .slice va vl vc, .string p.d, .int .i64 p.p] 118 (0, 0))) := Array.getElem?_push_size
            have HW : Hid (Below w.heap.size w (wr.alloc (.cells #[.string p.n, .int .i64 p.c, .string p.z, .slice va vl vc, .string p.d, .int .i64 p.p] 118))) := (HB.out.trans ((below1 _ _).mono HB.out.size))
            have k0 := fun q : Wd (wr.alloc (.cells #[.string p.n, .int .i64 p.c, .string p.z, .slice va vl vc, .string p.d, .int .i64 p.p] 118)) => q.slot (o := 0) Gk.out rfl
            have k1 := fun q : Wd (wr.alloc (.cells #[.string p.n, .int .i64 p.c, .string p.z, .slice va vl vc, .string p.d, .int .i64 p.p] 118)) => q.slot (o := 1) Gk.out rfl
            have k2 := fun q : Wd (wr.alloc (.cells #[.string p.n, .int .i64 p.c, .string p.z, .slice va vl vc, .string p.d, .int .i64 p.p] 118)) => q.slot (o := 2) Gk.out rfl
            have k3 := fun q : Wd (wr.alloc (.cells #[.string p.n, .int .i64 p.c, .string p.z, .slice va vl vc, .string p.d, .int .i64 p.p] 118)) => q.slot (o := 3) Gk.out rfl
            have k4 := fun q : Wd (wr.alloc (.cells #[.string p.n, .int .i64 p.c, .string p.z, .slice va vl vc, .string p.d, .int .i64 p.p] 118)) => q.slot (o := 4) Gk.out rfl
            have k5 := fun q : Wd (wr.alloc (.cells #[.string p.n, .int .i64 p.c, .string p.z, .slice va vl vc, .string p.d, .int .i64 p.p] 118)) => q.slot (o := 5) Gk.out rfl
            have r0 := fun q : Wd (wr.alloc (.cells #[.string p.n, .int .i64 p.c, .string p.z, .slice va vl vc, .string p.d, .int .i64 p.p] 118)) => q.slot (o := 0) Gr.out rfl
            have r1 := fun q : Wd (wr.alloc (.cells #[.string p.n, .int .i64 p.c, .string p.z, .slice va vl vc, .string p.d, .int .i64 p.p] 118)) => q.slot (o := 1) Gr.out rfl
            have r2 := fun q : Wd (wr.alloc (.cells #[.string p.n, .int .i64 p.c, .string p.z, .slice va vl vc, .string p.d, .int .i64 p.p] 118)) => q.slot (o := 2) Gr.out rfl
            have r3 := fun q : Wd (wr.alloc (.cells #[.string p.n, .int .i64 p.c, .string p.z, .slice va vl vc, .string p.d, .int .i64 p.p] 118)) => q.slot (o := 3) Gr.out rfl
            have r4 := fun q : Wd (wr.alloc (.cells #[.string p.n, .int .i64 p.c, .string p.z, .slice va vl vc, .string p.d, .int .i64 p.p] 118)) => q.slot (o := 4) Gr.out rfl
            have r5 := fun q : Wd (wr.alloc (.cells #[.string p.n, .int .i64 p.c, .string p.z, .slice va vl vc, .string p.d, .int .i64 p.p] 118)) => q.slot (o := 5) Gr.out rfl
            have hne0 := Wd.ne (wr.alloc (.cells #[.string p.n, .int .i64 p.c, .string p.z, .slice va vl vc, .string p.d, .int .i64 p.p] 118))
            go_wp2_with fail
            refine wp_region_wide (by kernel_rfl) (by kernel_rfl) ?_
            repeat (go_big_quiet_step (first | fail))
            refine wpQuiet_nil ?_
            rintro _ ⟨q1, rfl⟩
            have HB1 := upB HW q1.b
            have Ck := upK Gk q1.b
            have Cr := upK Gr q1.b
            clear hne0 HW HB k0 k1 k2 k3 k4 k5 r0 r1 r2 r3 r4 r5 Gk Gr Bk hszv1 pk pkl hb c0 c1 c2 c3 c4 c5
            have HB := HB1
            clear HB1
            have Bk := Ck
            clear Ck
            have Br := Cr
            clear Cr
            clear hp2 hp3
            go_wp2_with fail
            refine ⟨⟨k + 1, by omega, by go_num, fun j z hj hz => ?_, HB.out, Bk.out⟩, by simp [intOf]; omega⟩
            by_cases e : j = k
            · subst e
              rw [HXp.out] at hz
              obtain rfl := Option.some.inj hz
              exact fun h => absurd h HP2.out
            · exact HQ.out j z (by omega) hz
          have HP2 := hidK hp2
          obtain ⟨⟨j1, n, h1, h2⟩, hbd⟩ := HRun.out k p HXp.out hp2
          rw [hp2] at c5
          clear hp2
          have HBD := hidK hbd
          have hl1' : j1 < l1 := by have h3 := (List.getElem?_eq_some_iff.1 h1).1; omega
          obtain ⟨b1, o1, n', rfl, hb1n, hn', hat⟩ := nd_at HR.out.n hl1'
          rw [h1] at hn'
          obtain rfl := Option.some.inj hn'
          obtain ⟨na, nl, nc, hnr, z0, z1, d0, d1, d2, d3, d4, d5, d6⟩ := nd_cells hat
          have HJn := hidK h1
          have HNn := hidK h2
          have e5 := (cell_below HB.out hb1n).trans d5
          have hbn : b1 < wr.heap.size := Nat.lt_of_lt_of_le hb1n HB.out.size
          clear hn' hat hnr z0 z1 d0 d1 d2 d3 d4 d5 d6 h1 h2 hb1n hbd
          rcases Bool.eq_false_or_eq_true n.d with hd | hd
          · have HDd := hidK hd
            rw [hd] at e5
            clear hd
            have hbnv : b1 < (wr.alloc (.cells #[.string p.n, .int .i64 p.c, .string p.z, .slice va vl vc, .string p.d, .int .i64 2] 118)).heap.size := by simp; omega
            have e5v := (cell_below (below1 wr (.cells #[.string p.n, .int .i64 p.c, .string p.z, .slice va vl vc, .string p.d, .int .i64 2] 118)) hbn).trans e5
            have hszv1 : (wr.alloc (.cells #[.string p.n, .int .i64 p.c, .string p.z, .slice va vl vc, .string p.d, .int .i64 2] 118)).heap.size = wr.heap.size + 1 := by simp
            have Gk : Hid ((wr.alloc (.cells #[.string p.n, .int .i64 p.c, .string p.z, .slice va vl vc, .string p.d, .int .i64 2] 118)).heap[w.heap.size]? = some (.cells #[.slice (some ⟨b1, o1, none⟩) l1 y1, .slice a2 l2 y2, .slice a3 l3 y3, .slice a4 l4 y4, .slice (some ⟨b, o, none⟩) l5 y5, .int .i64 c.now] 39 (0, 0))) := (Below.heap_alloc _ _ _ (lt_of_some Bk.out)).trans (Bk.out)
            have Gr : Hid ((wr.alloc (.cells #[.string p.n, .int .i64 p.c, .string p.z, .slice va vl vc, .string p.d, .int .i64 2] 118)).heap[wr.heap.size]? = some (.cells #[.string p.n, .int .i64 p.c, .string p.z, .slice va vl vc, .string p.d, .int .i64 2] 118 (0, 0))) := Array.getElem?_push_size
            have HW : Hid (Below w.heap.size w (wr.alloc (.cells #[.string p.n, .int .i64 p.c, .string p.z, .slice va vl vc, .string p.d, .int .i64 2] 118))) := (HB.out.trans ((below1 _ _).mono HB.out.size))
            have k0 := fun q : Wd (wr.alloc (.cells #[.string p.n, .int .i64 p.c, .string p.z, .slice va vl vc, .string p.d, .int .i64 2] 118)) => q.slot (o := 0) Gk.out rfl
            have k1 := fun q : Wd (wr.alloc (.cells #[.string p.n, .int .i64 p.c, .string p.z, .slice va vl vc, .string p.d, .int .i64 2] 118)) => q.slot (o := 1) Gk.out rfl
            have k2 := fun q : Wd (wr.alloc (.cells #[.string p.n, .int .i64 p.c, .string p.z, .slice va vl vc, .string p.d, .int .i64 2] 118)) => q.slot (o := 2) Gk.out rfl
            have k3 := fun q : Wd (wr.alloc (.cells #[.string p.n, .int .i64 p.c, .string p.z, .slice va vl vc, .string p.d, .int .i64 2] 118)) => q.slot (o := 3) Gk.out rfl
            have k4 := fun q : Wd (wr.alloc (.cells #[.string p.n, .int .i64 p.c, .string p.z, .slice va vl vc, .string p.d, .int .i64 2] 118)) => q.slot (o := 4) Gk.out rfl
            have k5 := fun q : Wd (wr.alloc (.cells #[.string p.n, .int .i64 p.c, .string p.z, .slice va vl vc, .string p.d, .int .i64 2] 118)) => q.slot (o := 5) Gk.out rfl
            have r0 := fun q : Wd (wr.alloc (.cells #[.string p.n, .int .i64 p.c, .string p.z, .slice va vl vc, .string p.d, .int .i64 2] 118)) => q.slot (o := 0) Gr.out rfl
            have r1 := fun q : Wd (wr.alloc (.cells #[.string p.n, .int .i64 p.c, .string p.z, .slice va vl vc, .string p.d, .int .i64 2] 118)) => q.slot (o := 1) Gr.out rfl
            have r2 := fun q : Wd (wr.alloc (.cells #[.string p.n, .int .i64 p.c, .string p.z, .slice va vl vc, .string p.d, .int .i64 2] 118)) => q.slot (o := 2) Gr.out rfl
            have r3 := fun q : Wd (wr.alloc (.cells #[.string p.n, .int .i64 p.c, .string p.z, .slice va vl vc, .string p.d, .int .i64 2] 118)) => q.slot (o := 3) Gr.out rfl
            have r4 := fun q : Wd (wr.alloc (.cells #[.string p.n, .int .i64 p.c, .string p.z, .slice va vl vc, .string p.d, .int .i64 2] 118)) => q.slot (o := 4) Gr.out rfl
            have r5 := fun q : Wd (wr.alloc (.cells #[.string p.n, .int .i64 p.c, .string p.z, .slice va vl vc, .string p.d, .int .i64 2] 118)) => q.slot (o := 5) Gr.out rfl
            have nw : ∀ q : Wd (wr.alloc (.cells #[.string p.n, .int .i64 p.c, .string p.z, .slice va vl vc, .string p.d, .int .i64 2] 118)), q.w.cell? ⟨b1, o1 + j1 * 7 + 5, none⟩ = some (.bool true) := fun q => (q.cell (hbnv)).trans (e5v)
            have hne0 := Wd.ne (wr.alloc (.cells #[.string p.n, .int .i64 p.c, .string p.z, .slice va vl vc, .string p.d, .int .i64 2] 118))
            have HC0 := hidK (fun q : Wd (wr.alloc (.cells #[.string p.n, .int .i64 p.c, .string p.z, .slice va vl vc, .string p.d, .int .i64 2] 118)) => sxnd_hit ⟨(some ⟨b1, o1, none⟩), l1, y1, a2, l2, y2, a3, l3, y3, a4, l4, y4, (some ⟨b, o, none⟩), l5, y5⟩ c.now c.ns p.d q.w (HR.out.n.below (HW.out.trans (q.b.mono HW.out.size))) HNR.out HJn.out HNn.out)
            go_wp2_with fail
            refine wp_region_wide (by kernel_rfl) (by kernel_rfl) ?_
            repeat (go_big_quiet_step (first | (go_at_call 126; exact Calls.wide (HC0.out _)) | fail))
            refine wpQuiet_nil ?_
            rintro _ ⟨q1, rfl⟩
            have HB1 := upB HW q1.b
            have Ck := upK Gk q1.b
            have Cr := upK Gr q1.b
            clear hne0 HW HB HC0 k0 k1 k2 k3 k4 k5 r0 r1 r2 r3 r4 r5 nw Gk Gr Bk hszv1 pk pkl hb hbn e5 hbnv e5v c0 c1 c2 c3 c4 c5
            have HB := HB1
            clear HB1
            have Bk := Ck
            clear Ck
            have Br := Cr
            clear Cr
            go_wp2
            go_ret
            refine BoolB.f (fun h => ?_) HB.out
            obtain ⟨i, m, e1, e2, e3, _⟩ := (h.2 k p HXp.out) HP2.out
            obtain ⟨_, rfl⟩ := HNR.out.inj e1 HJn.out (e2.trans HNn.out.symm)
            rw [HDd.out] at e3
            cases e3
          · by_cases hal : AllS c p n
            · have HAl := hidK hal
              clear hal
              have HDd := hidK hd
              rw [hd] at e5
              clear hd
              have hbnv : b1 < (wr.alloc (.cells #[.string p.n, .int .i64 p.c, .string p.z, .slice va vl vc, .string p.d, .int .i64 2] 118)).heap.size := by simp; omega
              have e5v := (cell_below (below1 wr (.cells #[.string p.n, .int .i64 p.c, .string p.z, .slice va vl vc, .string p.d, .int .i64 2] 118)) hbn).trans e5
              have HCA : Hid (∀ q : Wd (wr.alloc (.cells #[.string p.n, .int .i64 p.c, .string p.z, .slice va vl vc, .string p.d, .int .i64 2] 118)), Calls Tryz.prog 131 #[.agg #[.slice (some ⟨b1, o1, none⟩) l1 y1, .slice a2 l2 y2, .slice a3 l3 y3, .slice a4 l4 y4, .slice (some ⟨b, o, none⟩) l5 y5, .int .i64 c.now], .agg #[.string p.n, .int .i64 p.c, .string p.z, .slice va vl vc, .string p.d, .int .i64 2]] q.w fun e w' => e = .returned (.bool true) ∧ Below q.w.heap.size q.w w') := by
                intro q
                have h0 := (sall_any ⟨(some ⟨b1, o1, none⟩), l1, y1, a2, l2, y2, a3, l3, y3, a4, l4, y4, (some ⟨b, o, none⟩), l5, y5⟩ c p va vl vc j1 n q.w (HR.out.below (HB.out.trans (((below1 wr _).trans (q.b.mono (by simp))).mono HB.out.size))) HNR.out HX.out HV.out HNE.out (HTp.out.below ((below1 wr _).trans (q.b.mono (by simp)))) HJn.out HNn.out HBD.out).mono (fun _ _ h => BoolB.yes h HAl.out)
                rw [HP2.out] at h0
                exact h0
              have hszv1 : (wr.alloc (.cells #[.string p.n, .int .i64 p.c, .string p.z, .slice va vl vc, .string p.d, .int .i64 2] 118)).heap.size = wr.heap.size + 1 := by simp
              have Gk : Hid ((wr.alloc (.cells #[.string p.n, .int .i64 p.c, .string p.z, .slice va vl vc, .string p.d, .int .i64 2] 118)).heap[w.heap.size]? = some (.cells #[.slice (some ⟨b1, o1, none⟩) l1 y1, .slice a2 l2 y2, .slice a3 l3 y3, .slice a4 l4 y4, .slice (some ⟨b, o, none⟩) l5 y5, .int .i64 c.now] 39 (0, 0))) := (Below.heap_alloc _ _ _ (lt_of_some Bk.out)).trans (Bk.out)
              have Gr : Hid ((wr.alloc (.cells #[.string p.n, .int .i64 p.c, .string p.z, .slice va vl vc, .string p.d, .int .i64 2] 118)).heap[wr.heap.size]? = some (.cells #[.string p.n, .int .i64 p.c, .string p.z, .slice va vl vc, .string p.d, .int .i64 2] 118 (0, 0))) := Array.getElem?_push_size
              have HW : Hid (Below w.heap.size w (wr.alloc (.cells #[.string p.n, .int .i64 p.c, .string p.z, .slice va vl vc, .string p.d, .int .i64 2] 118))) := (HB.out.trans ((below1 _ _).mono HB.out.size))
              have k0 := fun q : Wd (wr.alloc (.cells #[.string p.n, .int .i64 p.c, .string p.z, .slice va vl vc, .string p.d, .int .i64 2] 118)) => q.slot (o := 0) Gk.out rfl
              have k1 := fun q : Wd (wr.alloc (.cells #[.string p.n, .int .i64 p.c, .string p.z, .slice va vl vc, .string p.d, .int .i64 2] 118)) => q.slot (o := 1) Gk.out rfl
              have k2 := fun q : Wd (wr.alloc (.cells #[.string p.n, .int .i64 p.c, .string p.z, .slice va vl vc, .string p.d, .int .i64 2] 118)) => q.slot (o := 2) Gk.out rfl
              have k3 := fun q : Wd (wr.alloc (.cells #[.string p.n, .int .i64 p.c, .string p.z, .slice va vl vc, .string p.d, .int .i64 2] 118)) => q.slot (o := 3) Gk.out rfl
              have k4 := fun q : Wd (wr.alloc (.cells #[.string p.n, .int .i64 p.c, .string p.z, .slice va vl vc, .string p.d, .int .i64 2] 118)) => q.slot (o := 4) Gk.out rfl
              have k5 := fun q : Wd (wr.alloc (.cells #[.string p.n, .int .i64 p.c, .string p.z, .slice va vl vc, .string p.d, .int .i64 2] 118)) => q.slot (o := 5) Gk.out rfl
              have r0 := fun q : Wd (wr.alloc (.cells #[.string p.n, .int .i64 p.c, .string p.z, .slice va vl vc, .string p.d, .int .i64 2] 118)) => q.slot (o := 0) Gr.out rfl
              have r1 := fun q : Wd (wr.alloc (.cells #[.string p.n, .int .i64 p.c, .string p.z, .slice va vl vc, .string p.d, .int .i64 2] 118)) => q.slot (o := 1) Gr.out rfl
              have r2 := fun q : Wd (wr.alloc (.cells #[.string p.n, .int .i64 p.c, .string p.z, .slice va vl vc, .string p.d, .int .i64 2] 118)) => q.slot (o := 2) Gr.out rfl
              have r3 := fun q : Wd (wr.alloc (.cells #[.string p.n, .int .i64 p.c, .string p.z, .slice va vl vc, .string p.d, .int .i64 2] 118)) => q.slot (o := 3) Gr.out rfl
              have r4 := fun q : Wd (wr.alloc (.cells #[.string p.n, .int .i64 p.c, .string p.z, .slice va vl vc, .string p.d, .int .i64 2] 118)) => q.slot (o := 4) Gr.out rfl
              have r5 := fun q : Wd (wr.alloc (.cells #[.string p.n, .int .i64 p.c, .string p.z, .slice va vl vc, .string p.d, .int .i64 2] 118)) => q.slot (o := 5) Gr.out rfl
              have nw : ∀ q : Wd (wr.alloc (.cells #[.string p.n, .int .i64 p.c, .string p.z, .slice va vl vc, .string p.d, .int .i64 2] 118)), q.w.cell? ⟨b1, o1 + j1 * 7 + 5, none⟩ = some (.bool false) := fun q => (q.cell (hbnv)).trans (e5v)
              have hne0 := Wd.ne (wr.alloc (.cells #[.string p.n, .int .i64 p.c, .string p.z, .slice va vl vc, .string p.d, .int .i64 2] 118))
              have HC0 := hidK (fun q : Wd (wr.alloc (.cells #[.string p.n, .int .i64 p.c, .string p.z, .slice va vl vc, .string p.d, .int .i64 2] 118)) => sxnd_hit ⟨(some ⟨b1, o1, none⟩), l1, y1, a2, l2, y2, a3, l3, y3, a4, l4, y4, (some ⟨b, o, none⟩), l5, y5⟩ c.now c.ns p.d q.w (HR.out.n.below (HW.out.trans (q.b.mono HW.out.size))) HNR.out HJn.out HNn.out)
              have HC1 := hidK (fun q : Wd (wr.alloc (.cells #[.string p.n, .int .i64 p.c, .string p.z, .slice va vl vc, .string p.d, .int .i64 2] 118)) => HCA.out q)
              go_wp2_with fail
              refine wp_region_wide (by kernel_rfl) (by kernel_rfl) ?_
              repeat (go_big_quiet_step (first | (go_at_call 126; exact Calls.wide (HC0.out _)) | (go_at_call 131; exact Calls.wide (HC1.out _)) | fail))
              refine wpQuiet_nil ?_
              rintro _ ⟨q1, rfl⟩
              have HB1 := upB HW q1.b
              have Ck := upK Gk q1.b
              have Cr := upK Gr q1.b
              clear hne0 HW HB HC0 HC1 k0 k1 k2 k3 k4 k5 r0 r1 r2 r3 r4 r5 nw Gk Gr Bk hszv1 pk pkl hb hbn e5 hbnv e5v c0 c1 c2 c3 c4 c5
              have HB := HB1
              clear HB1
              have Bk := Ck
              clear Ck
              have Br := Cr
              clear Cr
              go_wp2_with fail
              refine ⟨⟨k + 1, by omega, by go_num, fun j z hj hz => ?_, HB.out, Bk.out⟩, by simp [intOf]; omega⟩
              by_cases e : j = k
              · subst e
                rw [HXp.out] at hz
                obtain rfl := Option.some.inj hz
                exact fun _ => ⟨j1, n, HJn.out, HNn.out, HDd.out, HAl.out⟩
              · exact HQ.out j z (by omega) hz
            · have HAl := hidK hal
              clear hal
              have HDd := hidK hd
              rw [hd] at e5
              clear hd
              have hbnv : b1 < (wr.alloc (.cells #[.string p.n, .int .i64 p.c, .string p.z, .slice va vl vc, .string p.d, .int .i64 2] 118)).heap.size := by simp; omega
              have e5v := (cell_below (below1 wr (.cells #[.string p.n, .int .i64 p.c, .string p.z, .slice va vl vc, .string p.d, .int .i64 2] 118)) hbn).trans e5
              have HCA : Hid (∀ q : Wd (wr.alloc (.cells #[.string p.n, .int .i64 p.c, .string p.z, .slice va vl vc, .string p.d, .int .i64 2] 118)), Calls Tryz.prog 131 #[.agg #[.slice (some ⟨b1, o1, none⟩) l1 y1, .slice a2 l2 y2, .slice a3 l3 y3, .slice a4 l4 y4, .slice (some ⟨b, o, none⟩) l5 y5, .int .i64 c.now], .agg #[.string p.n, .int .i64 p.c, .string p.z, .slice va vl vc, .string p.d, .int .i64 2]] q.w fun e w' => e = .returned (.bool false) ∧ Below q.w.heap.size q.w w') := by
                intro q
                have h0 := (sall_any ⟨(some ⟨b1, o1, none⟩), l1, y1, a2, l2, y2, a3, l3, y3, a4, l4, y4, (some ⟨b, o, none⟩), l5, y5⟩ c p va vl vc j1 n q.w (HR.out.below (HB.out.trans (((below1 wr _).trans (q.b.mono (by simp))).mono HB.out.size))) HNR.out HX.out HV.out HNE.out (HTp.out.below ((below1 wr _).trans (q.b.mono (by simp)))) HJn.out HNn.out HBD.out).mono (fun _ _ h => BoolB.no h HAl.out)
                rw [HP2.out] at h0
                exact h0
              have hszv1 : (wr.alloc (.cells #[.string p.n, .int .i64 p.c, .string p.z, .slice va vl vc, .string p.d, .int .i64 2] 118)).heap.size = wr.heap.size + 1 := by simp
              have Gk : Hid ((wr.alloc (.cells #[.string p.n, .int .i64 p.c, .string p.z, .slice va vl vc, .string p.d, .int .i64 2] 118)).heap[w.heap.size]? = some (.cells #[.slice (some ⟨b1, o1, none⟩) l1 y1, .slice a2 l2 y2, .slice a3 l3 y3, .slice a4 l4 y4, .slice (some ⟨b, o, none⟩) l5 y5, .int .i64 c.now] 39 (0, 0))) := (Below.heap_alloc _ _ _ (lt_of_some Bk.out)).trans (Bk.out)
              have Gr : Hid ((wr.alloc (.cells #[.string p.n, .int .i64 p.c, .string p.z, .slice va vl vc, .string p.d, .int .i64 2] 118)).heap[wr.heap.size]? = some (.cells #[.string p.n, .int .i64 p.c, .string p.z, .slice va vl vc, .string p.d, .int .i64 2] 118 (0, 0))) := Array.getElem?_push_size
              have HW : Hid (Below w.heap.size w (wr.alloc (.cells #[.string p.n, .int .i64 p.c, .string p.z, .slice va vl vc, .string p.d, .int .i64 2] 118))) := (HB.out.trans ((below1 _ _).mono HB.out.size))
              have k0 := fun q : Wd (wr.alloc (.cells #[.string p.n, .int .i64 p.c, .string p.z, .slice va vl vc, .string p.d, .int .i64 2] 118)) => q.slot (o := 0) Gk.out rfl
              have k1 := fun q : Wd (wr.alloc (.cells #[.string p.n, .int .i64 p.c, .string p.z, .slice va vl vc, .string p.d, .int .i64 2] 118)) => q.slot (o := 1) Gk.out rfl
              have k2 := fun q : Wd (wr.alloc (.cells #[.string p.n, .int .i64 p.c, .string p.z, .slice va vl vc, .string p.d, .int .i64 2] 118)) => q.slot (o := 2) Gk.out rfl
              have k3 := fun q : Wd (wr.alloc (.cells #[.string p.n, .int .i64 p.c, .string p.z, .slice va vl vc, .string p.d, .int .i64 2] 118)) => q.slot (o := 3) Gk.out rfl
              have k4 := fun q : Wd (wr.alloc (.cells #[.string p.n, .int .i64 p.c, .string p.z, .slice va vl vc, .string p.d, .int .i64 2] 118)) => q.slot (o := 4) Gk.out rfl
              have k5 := fun q : Wd (wr.alloc (.cells #[.string p.n, .int .i64 p.c, .string p.z, .slice va vl vc, .string p.d, .int .i64 2] 118)) => q.slot (o := 5) Gk.out rfl
              have r0 := fun q : Wd (wr.alloc (.cells #[.string p.n, .int .i64 p.c, .string p.z, .slice va vl vc, .string p.d, .int .i64 2] 118)) => q.slot (o := 0) Gr.out rfl
              have r1 := fun q : Wd (wr.alloc (.cells #[.string p.n, .int .i64 p.c, .string p.z, .slice va vl vc, .string p.d, .int .i64 2] 118)) => q.slot (o := 1) Gr.out rfl
              have r2 := fun q : Wd (wr.alloc (.cells #[.string p.n, .int .i64 p.c, .string p.z, .slice va vl vc, .string p.d, .int .i64 2] 118)) => q.slot (o := 2) Gr.out rfl
              have r3 := fun q : Wd (wr.alloc (.cells #[.string p.n, .int .i64 p.c, .string p.z, .slice va vl vc, .string p.d, .int .i64 2] 118)) => q.slot (o := 3) Gr.out rfl
              have r4 := fun q : Wd (wr.alloc (.cells #[.string p.n, .int .i64 p.c, .string p.z, .slice va vl vc, .string p.d, .int .i64 2] 118)) => q.slot (o := 4) Gr.out rfl
              have r5 := fun q : Wd (wr.alloc (.cells #[.string p.n, .int .i64 p.c, .string p.z, .slice va vl vc, .string p.d, .int .i64 2] 118)) => q.slot (o := 5) Gr.out rfl
              have nw : ∀ q : Wd (wr.alloc (.cells #[.string p.n, .int .i64 p.c, .string p.z, .slice va vl vc, .string p.d, .int .i64 2] 118)), q.w.cell? ⟨b1, o1 + j1 * 7 + 5, none⟩ = some (.bool false) := fun q => (q.cell (hbnv)).trans (e5v)
              have hne0 := Wd.ne (wr.alloc (.cells #[.string p.n, .int .i64 p.c, .string p.z, .slice va vl vc, .string p.d, .int .i64 2] 118))
              have HC0 := hidK (fun q : Wd (wr.alloc (.cells #[.string p.n, .int .i64 p.c, .string p.z, .slice va vl vc, .string p.d, .int .i64 2] 118)) => sxnd_hit ⟨(some ⟨b1, o1, none⟩), l1, y1, a2, l2, y2, a3, l3, y3, a4, l4, y4, (some ⟨b, o, none⟩), l5, y5⟩ c.now c.ns p.d q.w (HR.out.n.below (HW.out.trans (q.b.mono HW.out.size))) HNR.out HJn.out HNn.out)
              have HC1 := hidK (fun q : Wd (wr.alloc (.cells #[.string p.n, .int .i64 p.c, .string p.z, .slice va vl vc, .string p.d, .int .i64 2] 118)) => HCA.out q)
              go_wp2_with fail
              refine wp_region_wide (by kernel_rfl) (by kernel_rfl) ?_
              repeat (go_big_quiet_step (first | (go_at_call 126; exact Calls.wide (HC0.out _)) | (go_at_call 131; exact Calls.wide (HC1.out _)) | fail))
              refine wpQuiet_nil ?_
              rintro _ ⟨q1, rfl⟩
              have HB1 := upB HW q1.b
              have Ck := upK Gk q1.b
              have Cr := upK Gr q1.b
              clear hne0 HW HB HC0 HC1 k0 k1 k2 k3 k4 k5 r0 r1 r2 r3 r4 r5 nw Gk Gr Bk hszv1 pk pkl hb hbn e5 hbnv e5v c0 c1 c2 c3 c4 c5
              have HB := HB1
              clear HB1
              have Bk := Ck
              clear Ck
              have Br := Cr
              clear Cr
              go_wp2
              go_ret
              refine BoolB.f (fun h => ?_) HB.out
              obtain ⟨i, m, e1, e2, e3, e4⟩ := (h.2 k p HXp.out) HP2.out
              obtain ⟨_, rfl⟩ := HNR.out.inj e1 HJn.out (e2.trans HNn.out.symm)
              exact HAl.out e4
        · obtain rfl : l5 = k := by omega
          go_wp2
          go_ret
          exact BoolB.t ⟨HQ1.out, fun j z hz => HQ.out j z (by have := (List.getElem?_eq_some_iff.1 hz).1; omega) hz⟩ HB.out

theorem hit_iff {α : Type} {nm : α → ByteArray} {xs : List α} {t : ByteArray} (h : RisBy nm xs) : hit nm xs t = true ↔ ∃ (i : Nat) (x : α), xs[i]? = some x ∧ nm x = t := by
  constructor
  · intro e
    obtain ⟨x, h1, h2⟩ := hit_yes e
    exact ⟨_, x, h1, h2⟩
  · rintro ⟨i, x, h1, h2⟩
    exact (hit_at h h1 h2).2
theorem bound_iff {c : Cl} (h : RowsOk c) : BoundI c ↔ BoundS c := by
  have hk := h.2.1.2.2
  have hv := h.2.2.1.2.2
  have hx := h.2.2.2.1.2.2
  constructor
  · rintro ⟨h1, h2⟩
    refine ⟨fun j v e => ?_, fun j x e => ?_⟩
    · obtain ⟨a, b⟩ := h1 j v e
      refine ⟨(hit_iff hk).1 a, b.imp id ?_⟩
      rintro ⟨i, j', x, v', e1, e2, e3, e4, e5, e6, _⟩
      exact ⟨i, x, e1, e2, e5⟩
    · obtain ⟨a, b⟩ := h2 j x e
      refine ⟨(hit_iff hk).1 a, b.imp id ?_⟩
      rintro ⟨i, j', x', v', e1, e2, e3, e4, e5, e6, e7, e8, e9⟩
      obtain ⟨_, rfl⟩ := hx.inj e1 e e2
      exact ⟨j', v', e3, e4, e6, e7, e8, e9⟩
  · rintro ⟨h1, h2⟩
    refine ⟨fun j v e => ?_, fun j x e => ?_⟩
    · obtain ⟨a, b⟩ := h1 j v e
      refine ⟨(hit_iff hk).2 a, b.imp id ?_⟩
      rintro ⟨i, x, e1, e2, e3⟩
      have hne : ¬ x.v = ⟨#[]⟩ := fun q => h.ne j v e (e3.symm.trans q)
      obtain ⟨_, b2⟩ := h2 i x e1
      rcases b2 with b2 | ⟨j', v', f1, f2, f3, f4, f5, f6⟩
      · exact absurd b2 hne
      obtain ⟨_, rfl⟩ := hv.inj f1 e (f2.trans e3)
      exact ⟨i, j, x, v', e1, e2, e, rfl, e3, rfl, f4, f5, f6⟩
    · obtain ⟨a, b⟩ := h2 j x e
      refine ⟨(hit_iff hk).2 a, b.imp id ?_⟩
      rintro ⟨j', v, e1, e2, e3, e4, e5, e6⟩
      exact ⟨j, j', x, v, e, rfl, e1, e2, rfl, e3, e4, e5, e6⟩
theorem placed_iff {c : Cl} (h : RowsOk c) (hb : BoundS c) : PlacedI c ↔ PlacedS c := by
  have hn := h.1.2.2
  have hv := h.2.2.1.2.2
  have hx := h.2.2.2.1.2.2
  have one : (∀ (j : Nat) z, c.vs[j]? = some z → PQ3 c z) ↔ ∀ (k : Nat) p, c.ps[k]? = some p → PSc c k p := by
    constructor
    · intro h3 k p hp j q hj hq
      by_cases e1 : q.d = ⟨#[]⟩
      · exact .inl e1
      by_cases e2 : p.d = ⟨#[]⟩
      · exact .inr (.inl e2)
      by_cases e3 : q.d = p.d
      · exact .inr (.inr (.inl e3))
      refine .inr (.inr (.inr fun i t ht v hbd hs hin => e3 ?_))
      obtain ⟨i1, j1, x, f1, f2, f3, f4⟩ := hbd
      have hxv : ¬ x.v = ⟨#[]⟩ := fun z => h.ne j1 v f3 (f4.trans z)
      have hvm : v.m = t := by
        rcases (hb.2 i1 x f1).2 with z | ⟨j2, v2, g1, g2, g3, _⟩
        · exact absurd z hxv
        · obtain ⟨_, rfl⟩ := hv.inj g1 f3 (g2.trans f4.symm)
          rw [g3, f2]
      have ht0 : ¬ v.m = ⟨#[]⟩ := fun z => by
        have h1 := (h.2.2.2.1.2.1 i1 x f1).1.1
        rw [f2, ← hvm, z] at h1
        exact absurd h1 (by decide)
      have := h3 j1 v f3 hs ht0
      rw [hvm] at this
      exact this j k q p hq hp e1 e2 ⟨i, ht⟩ hin
    · intro h3 j v hj hs hm i1 i2 p q hp hq d1 d2 in1 in2
      obtain ⟨i4, x, f1, f2, f3⟩ := (hb.1 j v hj).2.resolve_left hm
      have hbd : IsBd c v.m v := ⟨i4, j, x, f1, f2, hj, f3.symm⟩
      rcases Nat.lt_trichotomy i1 i2 with k | k | k
      · obtain ⟨r, hr⟩ := in1
        rcases h3 i2 q hq i1 p k hp with z | z | z | z
        · exact absurd z d1
        · exact absurd z d2
        · exact z
        · exact absurd in2 (z r v.m hr v hbd hs)
      · subst k
        rw [hp] at hq
        rw [Option.some.inj hq]
      · obtain ⟨r, hr⟩ := in2
        rcases h3 i1 p hp i2 q k hq with z | z | z | z
        · exact absurd z d2
        · exact absurd z d1
        · exact z.symm
        · exact absurd in1 (z r v.m hr v hbd hs)
  constructor
  · rintro ⟨h1, h2, h3⟩
    refine ⟨fun k p hp => ⟨?_, ?_, one.1 h3 k p hp⟩, h2⟩
    · rcases (h1 k p hp).2 with z | ⟨i, n, e1, e2, e3, e4⟩
      · exact .inl z
      · exact .inr ⟨i, n, e1, e2, e3.imp id Eq.symm⟩
    · intro j t ht
      refine ⟨(hit_iff hx).1 ((h1 k p hp).1 j t ht), ?_⟩
      rcases (h1 k p hp).2 with z | ⟨i, n, e1, e2, e3, e4⟩
      · exact .inl z
      · obtain ⟨v, f1, f2⟩ := e4 j t ht
        exact .inr ⟨v, i, n, f1, e1, e2, f2⟩
  · rintro ⟨h1, h2⟩
    refine ⟨fun k p hp => ⟨fun j t ht => (hit_iff hx).2 ((h1 k p hp).2.1 j t ht).1, ?_⟩, h2, one.2 (fun k p hp => (h1 k p hp).2.2)⟩
    rcases (h1 k p hp).1 with z | ⟨i, n, e1, e2, e3⟩
    · exact .inl z
    by_cases z : p.d = ⟨#[]⟩
    · exact .inl z
    refine .inr ⟨i, n, e1, e2, e3.imp id Eq.symm, fun j t ht => ?_⟩
    obtain ⟨v, i', n', f1, f2, f3, f4⟩ := ((h1 k p hp).2.1 j t ht).2.resolve_left z
    obtain ⟨_, rfl⟩ := hn.inj f2 e1 (f3.trans e2.symm)
    exact ⟨v, f1, f4⟩
theorem running {c : Cl} (h : RowsOk c) (hp : PlacedS c) (j : Nat) (p : Pd) (hj : c.ps[j]? = some p) (h2 : p.p = 2) : (∃ (i : Nat) (n : Nd), c.ns[i]? = some n ∧ n.n = p.d) ∧ ∀ (j : Nat) t, p.zs[j]? = some t → ∃ v, IsBd c t v := by
  have hd : ¬ p.d = ⟨#[]⟩ := fun e => by
    have h1 := (h.2.2.2.2.2.1 j p hj).2.2.2.2
    rcases h1 with ⟨h3, _⟩ | ⟨_, h3⟩
    · rw [h2] at h3; cases h3
    · have h4 := h3.1
      rw [e] at h4
      exact absurd h4 (by decide)
  obtain ⟨a, b, _⟩ := hp.1 j p hj
  obtain ⟨i, n, e1, e2, _⟩ := a.resolve_left hd
  refine ⟨⟨i, n, e1, e2⟩, fun k t ht => ?_⟩
  obtain ⟨v, _, _, e3, _⟩ := (b k t ht).2.resolve_left hd
  exact ⟨v, e3⟩

set_option maxRecDepth 100000 in
set_option maxHeartbeats 3200000 in
theorem sright_any (d : Ad) (c : Cl) (w : World) (hr : ClRow w d c.raw) :
    Calls Tryz.prog 26 #[.agg #[.slice d.a1 d.l1 d.c1, .slice d.a2 d.l2 d.c2, .slice d.a3 d.l3 d.c3, .slice d.a4 d.l4 d.c4, .slice d.a5 d.l5 d.c5, .int .i64 c.now]] w (BoolB (RightI c) w) := by
  have HR := hidK hr
  have HB := hidK (Below.refl w.heap.size w)
  clear hr
  go_enter Tryz.func26, Tryz.ntmps26
  go_wp2_with fail
  refine (ktime_any c.now _).mono ?_
  rintro e w1 ⟨r, rfl, hi, hw⟩
  have hb : Below (w.alloc (.cells #[.slice d.a1 d.l1 d.c1, .slice d.a2 d.l2 d.c2, .slice d.a3 d.l3 d.c3, .slice d.a4 d.l4 d.c4, .slice d.a5 d.l5 d.c5, .int .i64 c.now] 39)).heap.size (w.alloc (.cells #[.slice d.a1 d.l1 d.c1, .slice d.a2 d.l2 d.c2, .slice d.a3 d.l3 d.c3, .slice d.a4 d.l4 d.c4, .slice d.a5 d.l5 d.c5, .int .i64 c.now] 39)) w1 := by first | (rw [hw]; exact Below.refl _ _) | (rw [← hw]; exact Below.refl _ _)
  clear hw
  obtain ⟨HA0, hbx⟩ := slots1 hb
  have Bk := hidK HA0
  replace HB := upB HB hbx
  clear hb hbx HA0
  have HI1 := hidK hi
  clear hi
  cases r
  · obtain ⟨k0, k1, k2, k3, k4, k5⟩ := cs6 Bk.out
    have ltk_1 := lt_of_some Bk.out
    go_wp2
    go_ret
    exact BoolB.f (fun h => by have := HI1.out.2 h.1; cases this) HB.out
  obtain ⟨k0, k1, k2, k3, k4, k5⟩ := cs6 Bk.out
  have ltk_1 := lt_of_some Bk.out
  go_wp2_with fail
  refine (seach_any d c _ (HR.out.below HB.out)).mono ?_
  rintro e w2 ⟨r, rfl, hi, hb⟩
  clear k0 k1 k2 k3 k4 k5 ltk_1
  replace Bk := upK Bk hb
  replace HB := upB HB hb
  clear hb
  have HI2 := hidK hi
  clear hi
  cases r
  · obtain ⟨k0, k1, k2, k3, k4, k5⟩ := cs6 Bk.out
    have ltk_2 := lt_of_some Bk.out
    go_wp2
    go_ret
    exact BoolB.f (fun h => by have := HI2.out.2 h.2.1; cases this) HB.out
  have HOK := hidK (HI2.out.1 (by first | trivial | rfl))
  obtain ⟨k0, k1, k2, k3, k4, k5⟩ := cs6 Bk.out
  have ltk_2 := lt_of_some Bk.out
  go_wp2_with fail
  refine (sbound_any d c _ (HR.out.below HB.out) HOK.out.2.1.2.2 HOK.out.2.2.2.1.2.2 HOK.out.2.2.1.2.2).mono ?_
  rintro e w3 ⟨r, rfl, hi, hb⟩
  clear k0 k1 k2 k3 k4 k5 ltk_2
  replace Bk := upK Bk hb
  replace HB := upB HB hb
  clear hb
  have HI3 := hidK hi
  clear hi
  cases r
  · obtain ⟨k0, k1, k2, k3, k4, k5⟩ := cs6 Bk.out
    have ltk_3 := lt_of_some Bk.out
    go_wp2
    go_ret
    exact BoolB.f (fun h => by have := HI3.out.2 ((bound_iff HOK.out).1 h.2.2.1); cases this) HB.out
  have HBd := hidK (HI3.out.1 (by first | trivial | rfl))
  obtain ⟨k0, k1, k2, k3, k4, k5⟩ := cs6 Bk.out
  have ltk_3 := lt_of_some Bk.out
  go_wp2_with fail
  refine (splaced_any d c _ (HR.out.below HB.out) HOK.out.1.2.2 HOK.out.2.2.2.1.2.2 HOK.out.2.2.1.2.2 HOK.out.ne (by have := HOK.out.2.2.2.2.1; omega) HOK.out.cpu).mono ?_
  rintro e w4 ⟨r, rfl, hi, hb⟩
  clear k0 k1 k2 k3 k4 k5 ltk_3
  replace Bk := upK Bk hb
  replace HB := upB HB hb
  clear hb
  have HI4 := hidK hi
  clear hi
  cases r
  · obtain ⟨k0, k1, k2, k3, k4, k5⟩ := cs6 Bk.out
    have ltk_4 := lt_of_some Bk.out
    go_wp2
    go_ret
    exact BoolB.f (fun h => by have := HI4.out.2 ((placed_iff HOK.out HBd.out).1 h.2.2.2.1); cases this) HB.out
  have HPl := hidK (HI4.out.1 (by first | trivial | rfl))
  obtain ⟨k0, k1, k2, k3, k4, k5⟩ := cs6 Bk.out
  have ltk_4 := lt_of_some Bk.out
  go_wp2_with fail
  refine (sattached_any d c _ (HR.out.below HB.out) HOK.out.1.2.2 (by have := HOK.out.2.2.1.1; omega)).mono ?_
  rintro e w5 ⟨r, rfl, hi, hb⟩
  clear k0 k1 k2 k3 k4 k5 ltk_4
  replace Bk := upK Bk hb
  replace HB := upB HB hb
  clear hb
  have HI5 := hidK hi
  clear hi
  cases r
  · obtain ⟨k0, k1, k2, k3, k4, k5⟩ := cs6 Bk.out
    have ltk_5 := lt_of_some Bk.out
    go_wp2
    go_ret
    exact BoolB.f (fun h => by have := HI5.out.2 h.2.2.2.2.1; cases this) HB.out
  obtain ⟨k0, k1, k2, k3, k4, k5⟩ := cs6 Bk.out
  have ltk_5 := lt_of_some Bk.out
  go_wp2_with fail
  refine (smounted_any d c _ (HR.out.below HB.out) HOK.out.1.2.2 HOK.out.2.2.2.1.2.2 HOK.out.2.2.1.2.2 HOK.out.ne (running HOK.out HPl.out)).mono ?_
  rintro e w6 ⟨r, rfl, hi, hb⟩
  clear k0 k1 k2 k3 k4 k5 ltk_5
  replace Bk := upK Bk hb
  replace HB := upB HB hb
  clear hb
  have HI6 := hidK hi
  clear hi
  cases r
  · obtain ⟨k0, k1, k2, k3, k4, k5⟩ := cs6 Bk.out
    have ltk_6 := lt_of_some Bk.out
    go_wp2
    go_ret
    exact BoolB.f (fun h => by have := HI6.out.2 h.2.2.2.2.2; cases this) HB.out
  go_wp2
  go_ret
  exact BoolB.t ⟨HI1.out.1 (by first | trivial | rfl), HOK.out, (bound_iff HOK.out).2 HBd.out, (placed_iff HOK.out HBd.out).2 HPl.out, HI5.out.1 (by first | trivial | rfl), HI6.out.1 (by first | trivial | rfl)⟩ HB.out

end Rc
end Go.Proofs.YtfapjochclhfpaaGreatDoor

namespace Go.Proofs.YtfapjochclhfpaaGreatDoor
open Go.RowKit Go.Extern.Stop Go.Stop Go.Extern
namespace Rc

structure Ers (w : World) (E : Nat → Addr) : Prop where
  v0 : w.cell? ⟨5, 0, none⟩ = some (.iface 191 (.pointer (some (E 0))))
  v1 : w.cell? ⟨0, 0, none⟩ = some (.iface 191 (.pointer (some (E 1))))
  v2 : w.cell? ⟨4, 0, none⟩ = some (.iface 191 (.pointer (some (E 2))))
  v3 : w.cell? ⟨2, 0, none⟩ = some (.iface 191 (.pointer (some (E 3))))
  v4 : w.cell? ⟨3, 0, none⟩ = some (.iface 191 (.pointer (some (E 4))))
  v5 : w.cell? ⟨8, 0, none⟩ = some (.iface 191 (.pointer (some (E 5))))
  v6 : w.cell? ⟨7, 0, none⟩ = some (.iface 191 (.pointer (some (E 6))))
  v7 : w.cell? ⟨1, 0, none⟩ = some (.iface 191 (.pointer (some (E 7))))
  v8 : w.cell? ⟨9, 0, none⟩ = some (.iface 191 (.pointer (some (E 8))))
  v9 : w.cell? ⟨6, 0, none⟩ = some (.iface 191 (.pointer (some (E 9))))
  blk : ∀ i, i < 10 → ∃ cs T, w.heap[(E i).block]? = some (.cells cs T (0, 0))
  inj : ∀ i j, i < 10 → j < 10 → E i = E j → i = j
theorem cell_lt {w : World} {b o : Nat} {v : Value} (h : w.cell? ⟨b, o, none⟩ = some v) : b < w.heap.size := World.block_lt_of_cell? w _ h
theorem Ers.below {w w' : World} {E : Nat → Addr} (h : Ers w E) (hb : Below w.heap.size w w') : Ers w' E :=
  ⟨(cell_below hb (cell_lt h.v0)).trans h.v0, (cell_below hb (cell_lt h.v1)).trans h.v1, (cell_below hb (cell_lt h.v2)).trans h.v2, (cell_below hb (cell_lt h.v3)).trans h.v3, (cell_below hb (cell_lt h.v4)).trans h.v4, (cell_below hb (cell_lt h.v5)).trans h.v5, (cell_below hb (cell_lt h.v6)).trans h.v6, (cell_below hb (cell_lt h.v7)).trans h.v7, (cell_below hb (cell_lt h.v8)).trans h.v8, (cell_below hb (cell_lt h.v9)).trans h.v9, fun i hi => by
    obtain ⟨cs, T, h1⟩ := h.blk i hi
    exact ⟨cs, T, (hb.block _ (lt_of_some h1)).trans h1⟩, h.inj⟩
theorem Ers.ens {w : World} {E : Nat → Addr} (h : Ers w E) : ens w := ⟨_, _, h.v2⟩

theorem isTypeOf (v : Value) (w : World) : (Extern.ReflectliteType.typeOf #[.iface 191 v]).run Tryz.prog w = .ok (.iface 180 (.agg #[.pointer (some ⟨10, 191, none⟩)])) w := by kernel_rfl
def cmpF : Array Value → Sem Value := Extern.ReflectliteType.method fun t => do Rtype.noPackHeld "Comparable" t; pure (.bool (← typeInfo t).comparable)
theorem isComparable (w : World) : (cmpF #[.agg #[.pointer (some ⟨10, 191, none⟩)]]).run Tryz.prog w = .ok (.bool true) w := by kernel_rfl
theorem isMethodComparable (v : Value) (w : World) : (Go.method 334 180 v "Comparable").run Tryz.prog w = .ok (211, v) w := by kernel_rfl
theorem isComp : (Tryz.prog.info? 191).map (·.comparable) = some true := by kernel_rfl
theorem isSize : (Tryz.prog.info? 222).map (·.size) = some 1 := by kernel_rfl
theorem noIsE (v : Value) (xT : TypeId) (w : World) : (Instr.typeAssert (.iface 191 v) xT 182 true).run Tryz.prog w = .ok (.tuple #[.nilIface, .bool false]) w := run_typeAssert_lacksB Tryz.underlying182 (by kernel_rfl) (by kernel_rfl) v xT w
theorem noUnwrapE (v : Value) (xT : TypeId) (w : World) : (Instr.typeAssert (.iface 191 v) xT 185 true).run Tryz.prog w = .ok (.tuple #[.nilIface, .bool false]) w := run_typeAssert_lacksB Tryz.underlying185 (by kernel_rfl) (by kernel_rfl) v xT w
theorem noUnwrapsE (v : Value) (xT : TypeId) (w : World) : (Instr.typeAssert (.iface 191 v) xT 187 true).run Tryz.prog w = .ok (.tuple #[.nilIface, .bool false]) w := run_typeAssert_lacksB Tryz.underlying187 (by kernel_rfl) (by kernel_rfl) v xT w

set_option maxHeartbeats 1600000 in
theorem is_same (a : Addr) (w : World)  :
    Calls Tryz.prog 115 #[.iface 191 (.pointer (some (a))), .iface 191 (.pointer (some (a)))] w fun e w' => e = .returned (.bool true) ∧ w' = w := by
  obtain ⟨i, hi, hcmp⟩ := Option.map_eq_some_iff.1 isComp
  obtain ⟨j, hj, hjs⟩ := Option.map_eq_some_iff.1 isSize
  have h8 := @run_callFunc_extern Tryz.prog 153 _ Extern.ReflectliteType.typeOf Tryz.func153 (by kernel_rfl) (by kernel_rfl) (by kernel_rfl) (by kernel_rfl)
  have h32 := @run_callFunc_extern Tryz.prog 211 _ cmpF Tryz.func211 (by kernel_rfl) (by kernel_rfl) (by kernel_rfl) (by kernel_rfl)
  have tT := isTypeOf
  have cT := isComparable
  have mR := isMethodComparable
  have heq := run_eql_iface_ptr_same (P := Tryz.prog) w a Tryz.underlying78 Tryz.underlying191 hi hcmp hj
  go_enter Tryz.func115, Tryz.ntmps115
  go_wp2
  refine wp_loop_rounds 1 ?_
  rw [rounds_succ]
  go_wp2
  go_ret
  exact ⟨rfl, rfl⟩

set_option maxHeartbeats 1600000 in
theorem is_other (a b : Addr) (ca cb : Array Value) (ta tb : TypeId) (w : World) (hne : a ≠ b) (ha : w.heap[a.block]? = some (.cells ca ta (0, 0))) (hb : w.heap[b.block]? = some (.cells cb tb (0, 0))) :
    Calls Tryz.prog 115 #[.iface 191 (.pointer (some (a))), .iface 191 (.pointer (some (b)))] w fun e w' => e = .returned (.bool false) ∧ w' = w := by
  obtain ⟨i, hi, hcmp⟩ := Option.map_eq_some_iff.1 isComp
  obtain ⟨j, hj, hjs⟩ := Option.map_eq_some_iff.1 isSize
  have h8 := @run_callFunc_extern Tryz.prog 153 _ Extern.ReflectliteType.typeOf Tryz.func153 (by kernel_rfl) (by kernel_rfl) (by kernel_rfl) (by kernel_rfl)
  have h32 := @run_callFunc_extern Tryz.prog 211 _ cmpF Tryz.func211 (by kernel_rfl) (by kernel_rfl) (by kernel_rfl) (by kernel_rfl)
  have tT := isTypeOf
  have cT := isComparable
  have mR := isMethodComparable
  have nE := noIsE
  have uE := noUnwrapE
  have vE := noUnwrapsE
  have heq := run_eql_iface_ptr_other (P := Tryz.prog) w Tryz.underlying78 Tryz.underlying191 hi hcmp hj (by rw [hjs]; decide) hne ha hb
  go_enter Tryz.func115, Tryz.ntmps115
  go_wp2
  refine wp_loop_rounds 1 ?_
  rw [rounds_succ]
  go_wp2
  go_ret
  exact ⟨rfl, rfl⟩

theorem is_words {w : World} {E : Nat → Addr} (h : Ers w E) (i j : Nat) (hi : i < 10) (hj : j < 10) (hne : ¬ i = j) :
    Calls Tryz.prog 115 #[.iface 191 (.pointer (some (E i))), .iface 191 (.pointer (some (E j)))] w fun e w' => e = .returned (.bool false) ∧ w' = w := by
  obtain ⟨ca, ta, h1⟩ := h.blk i hi
  obtain ⟨cb, tb, h2⟩ := h.blk j hj
  exact is_other (E i) (E j) ca cb ta tb w (fun e => hne (h.inj i j hi hj e)) h1 h2

def codeOf : Nat → Int
  | 0 => 2
  | 1 => 1
  | 2 => 6
  | 3 => 7
  | 4 => 9
  | 5 => 11
  | 6 => 7
  | 7 => 11
  | 8 => 10
  | 9 => 3
  | _ => 0

set_option maxHeartbeats 1600000 in
theorem why0 (E : Nat → Addr) (w : World) (h : Ers w E) : Calls Tryz.prog 61 #[.iface 191 (.pointer (some (E 0)))] w fun e w' => e = .returned (.int .i64 2) ∧ w' = w := by
  have HE := hidK h
  have v0 := h.v0
  have v1 := h.v1
  have v2 := h.v2
  have v3 := h.v3
  have v4 := h.v4
  have v5 := h.v5
  have v6 := h.v6
  have v7 := h.v7
  have v8 := h.v8
  have v9 := h.v9
  clear h
  go_enter Tryz.func61, Tryz.ntmps61
  go_wp2_with fail
  refine (is_same (E 0) _).mono ?_
  rintro e w' ⟨rfl, rfl⟩
  go_wp2
  go_ret
  exact ⟨rfl, rfl⟩

set_option maxHeartbeats 1600000 in
theorem why1 (E : Nat → Addr) (w : World) (h : Ers w E) : Calls Tryz.prog 61 #[.iface 191 (.pointer (some (E 1)))] w fun e w' => e = .returned (.int .i64 1) ∧ w' = w := by
  have HE := hidK h
  have v0 := h.v0
  have v1 := h.v1
  have v2 := h.v2
  have v3 := h.v3
  have v4 := h.v4
  have v5 := h.v5
  have v6 := h.v6
  have v7 := h.v7
  have v8 := h.v8
  have v9 := h.v9
  clear h
  go_enter Tryz.func61, Tryz.ntmps61
  go_wp2_with fail
  refine (is_words HE.out 1 0 (by decide) (by decide) (by decide)).mono ?_
  rintro e w' ⟨rfl, rfl⟩
  go_wp2_with fail
  refine (is_words HE.out 1 9 (by decide) (by decide) (by decide)).mono ?_
  rintro e w' ⟨rfl, rfl⟩
  go_wp2_with fail
  refine (is_words HE.out 1 2 (by decide) (by decide) (by decide)).mono ?_
  rintro e w' ⟨rfl, rfl⟩
  go_wp2_with fail
  refine (is_words HE.out 1 3 (by decide) (by decide) (by decide)).mono ?_
  rintro e w' ⟨rfl, rfl⟩
  go_wp2_with fail
  refine (is_words HE.out 1 6 (by decide) (by decide) (by decide)).mono ?_
  rintro e w' ⟨rfl, rfl⟩
  go_wp2_with fail
  refine (is_words HE.out 1 4 (by decide) (by decide) (by decide)).mono ?_
  rintro e w' ⟨rfl, rfl⟩
  go_wp2_with fail
  refine (is_words HE.out 1 5 (by decide) (by decide) (by decide)).mono ?_
  rintro e w' ⟨rfl, rfl⟩
  go_wp2_with fail
  refine (is_words HE.out 1 7 (by decide) (by decide) (by decide)).mono ?_
  rintro e w' ⟨rfl, rfl⟩
  go_wp2_with fail
  refine (is_words HE.out 1 8 (by decide) (by decide) (by decide)).mono ?_
  rintro e w' ⟨rfl, rfl⟩
  go_wp2
  go_ret
  exact ⟨rfl, rfl⟩

set_option maxHeartbeats 1600000 in
theorem why2 (E : Nat → Addr) (w : World) (h : Ers w E) : Calls Tryz.prog 61 #[.iface 191 (.pointer (some (E 2)))] w fun e w' => e = .returned (.int .i64 6) ∧ w' = w := by
  have HE := hidK h
  have v0 := h.v0
  have v1 := h.v1
  have v2 := h.v2
  have v3 := h.v3
  have v4 := h.v4
  have v5 := h.v5
  have v6 := h.v6
  have v7 := h.v7
  have v8 := h.v8
  have v9 := h.v9
  clear h
  go_enter Tryz.func61, Tryz.ntmps61
  go_wp2_with fail
  refine (is_words HE.out 2 0 (by decide) (by decide) (by decide)).mono ?_
  rintro e w' ⟨rfl, rfl⟩
  go_wp2_with fail
  refine (is_words HE.out 2 9 (by decide) (by decide) (by decide)).mono ?_
  rintro e w' ⟨rfl, rfl⟩
  go_wp2_with fail
  refine (is_same (E 2) _).mono ?_
  rintro e w' ⟨rfl, rfl⟩
  go_wp2
  go_ret
  exact ⟨rfl, rfl⟩

set_option maxHeartbeats 1600000 in
theorem why3 (E : Nat → Addr) (w : World) (h : Ers w E) : Calls Tryz.prog 61 #[.iface 191 (.pointer (some (E 3)))] w fun e w' => e = .returned (.int .i64 7) ∧ w' = w := by
  have HE := hidK h
  have v0 := h.v0
  have v1 := h.v1
  have v2 := h.v2
  have v3 := h.v3
  have v4 := h.v4
  have v5 := h.v5
  have v6 := h.v6
  have v7 := h.v7
  have v8 := h.v8
  have v9 := h.v9
  clear h
  go_enter Tryz.func61, Tryz.ntmps61
  go_wp2_with fail
  refine (is_words HE.out 3 0 (by decide) (by decide) (by decide)).mono ?_
  rintro e w' ⟨rfl, rfl⟩
  go_wp2_with fail
  refine (is_words HE.out 3 9 (by decide) (by decide) (by decide)).mono ?_
  rintro e w' ⟨rfl, rfl⟩
  go_wp2_with fail
  refine (is_words HE.out 3 2 (by decide) (by decide) (by decide)).mono ?_
  rintro e w' ⟨rfl, rfl⟩
  go_wp2_with fail
  refine (is_same (E 3) _).mono ?_
  rintro e w' ⟨rfl, rfl⟩
  go_wp2
  go_ret
  exact ⟨rfl, rfl⟩

set_option maxHeartbeats 1600000 in
theorem why4 (E : Nat → Addr) (w : World) (h : Ers w E) : Calls Tryz.prog 61 #[.iface 191 (.pointer (some (E 4)))] w fun e w' => e = .returned (.int .i64 9) ∧ w' = w := by
  have HE := hidK h
  have v0 := h.v0
  have v1 := h.v1
  have v2 := h.v2
  have v3 := h.v3
  have v4 := h.v4
  have v5 := h.v5
  have v6 := h.v6
  have v7 := h.v7
  have v8 := h.v8
  have v9 := h.v9
  clear h
  go_enter Tryz.func61, Tryz.ntmps61
  go_wp2_with fail
  refine (is_words HE.out 4 0 (by decide) (by decide) (by decide)).mono ?_
  rintro e w' ⟨rfl, rfl⟩
  go_wp2_with fail
  refine (is_words HE.out 4 9 (by decide) (by decide) (by decide)).mono ?_
  rintro e w' ⟨rfl, rfl⟩
  go_wp2_with fail
  refine (is_words HE.out 4 2 (by decide) (by decide) (by decide)).mono ?_
  rintro e w' ⟨rfl, rfl⟩
  go_wp2_with fail
  refine (is_words HE.out 4 3 (by decide) (by decide) (by decide)).mono ?_
  rintro e w' ⟨rfl, rfl⟩
  go_wp2_with fail
  refine (is_words HE.out 4 6 (by decide) (by decide) (by decide)).mono ?_
  rintro e w' ⟨rfl, rfl⟩
  go_wp2_with fail
  refine (is_same (E 4) _).mono ?_
  rintro e w' ⟨rfl, rfl⟩
  go_wp2
  go_ret
  exact ⟨rfl, rfl⟩

set_option maxHeartbeats 1600000 in
theorem why5 (E : Nat → Addr) (w : World) (h : Ers w E) : Calls Tryz.prog 61 #[.iface 191 (.pointer (some (E 5)))] w fun e w' => e = .returned (.int .i64 11) ∧ w' = w := by
  have HE := hidK h
  have v0 := h.v0
  have v1 := h.v1
  have v2 := h.v2
  have v3 := h.v3
  have v4 := h.v4
  have v5 := h.v5
  have v6 := h.v6
  have v7 := h.v7
  have v8 := h.v8
  have v9 := h.v9
  clear h
  go_enter Tryz.func61, Tryz.ntmps61
  go_wp2_with fail
  refine (is_words HE.out 5 0 (by decide) (by decide) (by decide)).mono ?_
  rintro e w' ⟨rfl, rfl⟩
  go_wp2_with fail
  refine (is_words HE.out 5 9 (by decide) (by decide) (by decide)).mono ?_
  rintro e w' ⟨rfl, rfl⟩
  go_wp2_with fail
  refine (is_words HE.out 5 2 (by decide) (by decide) (by decide)).mono ?_
  rintro e w' ⟨rfl, rfl⟩
  go_wp2_with fail
  refine (is_words HE.out 5 3 (by decide) (by decide) (by decide)).mono ?_
  rintro e w' ⟨rfl, rfl⟩
  go_wp2_with fail
  refine (is_words HE.out 5 6 (by decide) (by decide) (by decide)).mono ?_
  rintro e w' ⟨rfl, rfl⟩
  go_wp2_with fail
  refine (is_words HE.out 5 4 (by decide) (by decide) (by decide)).mono ?_
  rintro e w' ⟨rfl, rfl⟩
  go_wp2_with fail
  refine (is_same (E 5) _).mono ?_
  rintro e w' ⟨rfl, rfl⟩
  go_wp2
  go_ret
  exact ⟨rfl, rfl⟩

set_option maxHeartbeats 1600000 in
theorem why6 (E : Nat → Addr) (w : World) (h : Ers w E) : Calls Tryz.prog 61 #[.iface 191 (.pointer (some (E 6)))] w fun e w' => e = .returned (.int .i64 7) ∧ w' = w := by
  have HE := hidK h
  have v0 := h.v0
  have v1 := h.v1
  have v2 := h.v2
  have v3 := h.v3
  have v4 := h.v4
  have v5 := h.v5
  have v6 := h.v6
  have v7 := h.v7
  have v8 := h.v8
  have v9 := h.v9
  clear h
  go_enter Tryz.func61, Tryz.ntmps61
  go_wp2_with fail
  refine (is_words HE.out 6 0 (by decide) (by decide) (by decide)).mono ?_
  rintro e w' ⟨rfl, rfl⟩
  go_wp2_with fail
  refine (is_words HE.out 6 9 (by decide) (by decide) (by decide)).mono ?_
  rintro e w' ⟨rfl, rfl⟩
  go_wp2_with fail
  refine (is_words HE.out 6 2 (by decide) (by decide) (by decide)).mono ?_
  rintro e w' ⟨rfl, rfl⟩
  go_wp2_with fail
  refine (is_words HE.out 6 3 (by decide) (by decide) (by decide)).mono ?_
  rintro e w' ⟨rfl, rfl⟩
  go_wp2_with fail
  refine (is_same (E 6) _).mono ?_
  rintro e w' ⟨rfl, rfl⟩
  go_wp2
  go_ret
  exact ⟨rfl, rfl⟩

set_option maxHeartbeats 1600000 in
theorem why7 (E : Nat → Addr) (w : World) (h : Ers w E) : Calls Tryz.prog 61 #[.iface 191 (.pointer (some (E 7)))] w fun e w' => e = .returned (.int .i64 11) ∧ w' = w := by
  have HE := hidK h
  have v0 := h.v0
  have v1 := h.v1
  have v2 := h.v2
  have v3 := h.v3
  have v4 := h.v4
  have v5 := h.v5
  have v6 := h.v6
  have v7 := h.v7
  have v8 := h.v8
  have v9 := h.v9
  clear h
  go_enter Tryz.func61, Tryz.ntmps61
  go_wp2_with fail
  refine (is_words HE.out 7 0 (by decide) (by decide) (by decide)).mono ?_
  rintro e w' ⟨rfl, rfl⟩
  go_wp2_with fail
  refine (is_words HE.out 7 9 (by decide) (by decide) (by decide)).mono ?_
  rintro e w' ⟨rfl, rfl⟩
  go_wp2_with fail
  refine (is_words HE.out 7 2 (by decide) (by decide) (by decide)).mono ?_
  rintro e w' ⟨rfl, rfl⟩
  go_wp2_with fail
  refine (is_words HE.out 7 3 (by decide) (by decide) (by decide)).mono ?_
  rintro e w' ⟨rfl, rfl⟩
  go_wp2_with fail
  refine (is_words HE.out 7 6 (by decide) (by decide) (by decide)).mono ?_
  rintro e w' ⟨rfl, rfl⟩
  go_wp2_with fail
  refine (is_words HE.out 7 4 (by decide) (by decide) (by decide)).mono ?_
  rintro e w' ⟨rfl, rfl⟩
  go_wp2_with fail
  refine (is_words HE.out 7 5 (by decide) (by decide) (by decide)).mono ?_
  rintro e w' ⟨rfl, rfl⟩
  go_wp2_with fail
  refine (is_same (E 7) _).mono ?_
  rintro e w' ⟨rfl, rfl⟩
  go_wp2
  go_ret
  exact ⟨rfl, rfl⟩

set_option maxHeartbeats 1600000 in
theorem why8 (E : Nat → Addr) (w : World) (h : Ers w E) : Calls Tryz.prog 61 #[.iface 191 (.pointer (some (E 8)))] w fun e w' => e = .returned (.int .i64 10) ∧ w' = w := by
  have HE := hidK h
  have v0 := h.v0
  have v1 := h.v1
  have v2 := h.v2
  have v3 := h.v3
  have v4 := h.v4
  have v5 := h.v5
  have v6 := h.v6
  have v7 := h.v7
  have v8 := h.v8
  have v9 := h.v9
  clear h
  go_enter Tryz.func61, Tryz.ntmps61
  go_wp2_with fail
  refine (is_words HE.out 8 0 (by decide) (by decide) (by decide)).mono ?_
  rintro e w' ⟨rfl, rfl⟩
  go_wp2_with fail
  refine (is_words HE.out 8 9 (by decide) (by decide) (by decide)).mono ?_
  rintro e w' ⟨rfl, rfl⟩
  go_wp2_with fail
  refine (is_words HE.out 8 2 (by decide) (by decide) (by decide)).mono ?_
  rintro e w' ⟨rfl, rfl⟩
  go_wp2_with fail
  refine (is_words HE.out 8 3 (by decide) (by decide) (by decide)).mono ?_
  rintro e w' ⟨rfl, rfl⟩
  go_wp2_with fail
  refine (is_words HE.out 8 6 (by decide) (by decide) (by decide)).mono ?_
  rintro e w' ⟨rfl, rfl⟩
  go_wp2_with fail
  refine (is_words HE.out 8 4 (by decide) (by decide) (by decide)).mono ?_
  rintro e w' ⟨rfl, rfl⟩
  go_wp2_with fail
  refine (is_words HE.out 8 5 (by decide) (by decide) (by decide)).mono ?_
  rintro e w' ⟨rfl, rfl⟩
  go_wp2_with fail
  refine (is_words HE.out 8 7 (by decide) (by decide) (by decide)).mono ?_
  rintro e w' ⟨rfl, rfl⟩
  go_wp2_with fail
  refine (is_same (E 8) _).mono ?_
  rintro e w' ⟨rfl, rfl⟩
  go_wp2
  go_ret
  exact ⟨rfl, rfl⟩

theorem whyCode_any (E : Nat → Addr) (i : Nat) (w : World) (h : Ers w E) (hi : i < 9) : Calls Tryz.prog 61 #[.iface 191 (.pointer (some (E i)))] w fun e w' => e = .returned (.int .i64 (codeOf i)) ∧ w' = w := by
  match i, hi with
  | 0, _ => exact why0 E w h
  | 1, _ => exact why1 E w h
  | 2, _ => exact why2 E w h
  | 3, _ => exact why3 E w h
  | 4, _ => exact why4 E w h
  | 5, _ => exact why5 E w h
  | 6, _ => exact why6 E w h
  | 7, _ => exact why7 E w h
  | 8, _ => exact why8 E w h

set_option maxRecDepth 10000 in
set_option maxHeartbeats 1600000 in
theorem refused_any (E : Nat → Addr) (i : Nat) (cc : Int) (hcc : cc = codeOf i) (w : World) (h : Ers w E) (hi : i < 9) : Calls Tryz.prog 40 #[.iface 191 (.pointer (some (E i)))] w fun e w' => e = .returned (.agg #[.slice none 0 0, .slice none 0 0, .slice none 0 0, .slice none 0 0, .slice none 0 0, .int .i64 0, .string ⟨#[]⟩, .int .i64 cc]) ∧ Below w.heap.size w w' := by
  have HE := hidK (h.below (below1 w (.cells #[.slice none 0 0, .slice none 0 0, .slice none 0 0, .slice none 0 0, .slice none 0 0, .int .i64 0, .string ⟨#[]⟩, .int .i64 0] 41)))
  clear h
  go_enter Tryz.func40, Tryz.ntmps40
  go_wp2_with fail
  refine (whyCode_any E i _ HE.out hi).mono ?_
  rintro e w' ⟨rfl, rfl⟩
  rw [← hcc]
  clear hcc
  go_wp2
  exact bodyPost_ret (v := .agg #[.slice none 0 0, .slice none 0 0, .slice none 0 0, .slice none 0 0, .slice none 0 0, .int .i64 0, .string ⟨#[]⟩, .int .i64 cc]) (by simp [results, Tryz.results40, go_sem]) rfl ⟨rfl, below1 _ _⟩

end Rc
end Go.Proofs.YtfapjochclhfpaaGreatDoor

namespace Go.Proofs.YtfapjochclhfpaaGreatDoor
open Go.RowKit

end Go.Proofs.YtfapjochclhfpaaGreatDoor

namespace Go.Proofs.YtfapjochclhfpaaGreatDoor
open Go.RowKit
namespace Rc
open Mk

theorem Below.drewn {B : Nat} {w w' : World} (h : Below B w w') : Below B w w'.drew := ⟨h.os, h.tape, h.output, h.size, h.block⟩
def HasX (c : Cl) (t : ByteArray) : Prop := ∃ (i : Nat) (x : Xd), c.xs[i]? = some x ∧ x.n = t
theorem HasX.no {c : Cl} {t : ByteArray} (hr : RightI c) (h : hit Xd.n c.xs t = false) : ¬ HasX c t := fun ⟨i, x, h1, h2⟩ => by
  have := (hit_at hr.2.1.2.2.2.1.2.2 h1 h2).2
  rw [h] at this
  cases this
end Rc
end Go.Proofs.YtfapjochclhfpaaGreatDoor

namespace Go.Proofs.YtfapjochclhfpaaGreatDoor
open Go.RowKit
namespace Gi

abbrev Rs := Option Tmp → World → World → Prop
structure Rel (R : Rs) (sp : Tmp) : Prop where
  refl : ∀ w, R none w w
  trans : ∀ {a b c}, R none a b → R none b c → R none a c
  size : ∀ {a b}, R none a b → a.heap.size ≤ b.heap.size
  drew : ∀ w, R none w w.drew
  sub : ∀ s {a b}, R s a b → R none a b
  low : ∀ s {a b}, ¬ s = none → ¬ s = some sp → R s a b → Below a.heap.size a b
abbrev Fact := Value → World → Nat → Nat → Prop
abbrev Ex := Tmp → Option Tmp
def Fact.Mono (R : Rs) (ex : Ex) (d : Option Tmp) (φ : Fact) : Prop := ∀ s, ¬ s = none → ¬ s = d → (∀ t e, d = some t → ex t = some e → ¬ s = some e) → ∀ v w w' l h, φ v w l h → R s w w' → φ v w' l h
theorem Fact.mono_eq (R : Rs) (ex : Ex) (d : Option Tmp) (c : Value) : Fact.Mono R ex d (fun v _ _ _ => v = c) := fun _ _ _ _ _ _ _ _ _ h _ => h

def slotFact (ex : Ex) (d : Option Tmp) (a0 : Act) (known : List (Tmp × Fact)) (a : Act) (w : World) (lo hi : Tmp → Nat) (t : Tmp) : Prop :=
  match known.lookup t with
  | some φ => (ex t = none ∨ ex t = d) → φ (a.tmps.getD t undef) w (lo t) (hi t)
  | none => a.tmps.getD t undef = a0.tmps.getD t undef

def ApartAt (known : List (Tmp × Fact)) (lo hi : Tmp → Nat) (ts : List Tmp) : Prop := ∀ t ∈ ts, ∀ t' ∈ ts, (known.lookup t).isSome = true → (known.lookup t').isSome = true → ¬ t = t' → hi t ≤ lo t' ∨ hi t' ≤ lo t
def Obl (R : Rs) (sp : Tmp) (ex : Ex) (P : Program) (ops : Array Oper) (Q : Exit → Act → World → Prop) (W : World) (a0 : Act) (known : List (Tmp × Fact)) (o : Oper) (φ : Fact) : Prop :=
  ∀ (a : Act) (w : World) (K : Act → World → Prop) (lo hi : Tmp → Nat), a.tmps.size = a0.tmps.size → R none W w → (o.dst = some sp → Below W.heap.size W w) → (∀ t ∈ o.looksAt ops, slotFact ex o.dst a0 known a w lo hi t) → ApartAt known lo hi (o.looksAt ops) →
    (∀ v w', R o.dst w w' → φ v w' w.heap.size w'.heap.size → K (a.put o.dst v) w') → if Region.wanted o (yielded ops a.tmps) = true then o.wp P a w K Q else K (a.put o.dst undef) w

theorem Obl.plain {R : Rs} {sp : Tmp} {ex : Ex} {P : Program} {ops : Array Oper} {Q : Exit → Act → World → Prop} {W : World} {a0 : Act} {known : List (Tmp × Fact)} {o : Oper} {φ : Fact} (hg : o.guard = none)
    (h : ∀ (a : Act) (w : World) (K : Act → World → Prop) (lo hi : Tmp → Nat), a.tmps.size = a0.tmps.size → R none W w → (o.dst = some sp → Below W.heap.size W w) → (∀ t ∈ looksOf o, slotFact ex o.dst a0 known a w lo hi t) → ApartAt known lo hi (looksOf o) → (∀ v w', R o.dst w w' → φ v w' w.heap.size w'.heap.size → K (a.put o.dst v) w') → o.wp P a w K Q) : Obl R sp ex P ops Q W a0 known o φ := by
  intro a w K lo hi h1 h2 h6 h3 h5 h4
  have hw : Region.wanted o (yielded ops a.tmps) = true := by simp [Region.wanted, hg]
  rw [if_pos hw]
  have hs : ∀ t ∈ looksOf o, t ∈ o.looksAt ops := fun t ht => by unfold Oper.looksAt; exact List.mem_append_left _ ht
  exact h a w K lo hi h1 h2 h6 (fun t ht => h3 t (hs t ht)) (fun t ht t' ht' => h5 t (hs t ht) t' (hs t' ht')) h4

def putsAll (a0 : Act) (known : List (Tmp × Fact)) (x : Tmp → Value) : Act := known.foldr (fun p b => b.put (some p.1) (x p.1)) a0
def Apart (known : List (Tmp × Fact)) (lo hi : Tmp → Nat) : Prop := ∀ p ∈ known, ∀ q ∈ known, ¬ p.1 = q.1 → hi p.1 ≤ lo q.1 ∨ hi q.1 ≤ lo p.1
def Fin (R : Rs) (ex : Ex) (P : Program) (ops : Array Oper) (Q : Exit → Act → World → Prop) (W : World) (a0 : Act) (back : Option Oper) (known : List (Tmp × Fact)) : Prop :=
  ∀ (x : Tmp → Value) (w : World) (lo hi : Tmp → Nat), R none W w → (∀ p ∈ known, ex p.1 = none → p.2 (x p.1) w (lo p.1) (hi p.1)) → Apart known lo hi → lastStep P ops Q back (putsAll a0 known x) w

def kn (d : Option Tmp) (φ : Fact) (known : List (Tmp × Fact)) : List (Tmp × Fact) := match d with | some t => (t, φ) :: known | none => known

def Grow (R : Rs) (sp : Tmp) (ex : Ex) (P : Program) (ops : Array Oper) (Q : Exit → Act → World → Prop) (W : World) (a0 : Act) (back : Option Oper) : List Oper → List (Tmp × Fact) → Prop
  | [], known => Fin R ex P ops Q W a0 back known
  | o :: rest, known => ∃ φ : Fact, φ.Mono R ex o.dst ∧ Obl R sp ex P ops Q W a0 known o φ ∧ Grow R sp ex P ops Q W a0 back rest (kn o.dst φ known)
theorem Grow.step {R : Rs} {sp : Tmp} {ex : Ex} {P : Program} {ops : Array Oper} {Q : Exit → Act → World → Prop} {W : World} {a0 : Act} {back : Option Oper} {o : Oper} {rest : List Oper} {known : List (Tmp × Fact)} {t : Tmp} (φ : Fact) (hd : o.dst = some t) (hφ : φ.Mono R ex (some t)) (ho : Obl R sp ex P ops Q W a0 known o φ)
    (h : Grow R sp ex P ops Q W a0 back rest ((t, φ) :: known)) : Grow R sp ex P ops Q W a0 back (o :: rest) known := ⟨φ, by rw [hd]; exact hφ, ho, by rw [hd]; exact h⟩
theorem Grow.stepC {R : Rs} {sp : Tmp} {ex : Ex} {P : Program} {ops : Array Oper} {Q : Exit → Act → World → Prop} {W : World} {a0 : Act} {back : Option Oper} {o : Oper} {rest : List Oper} {known : List (Tmp × Fact)} {t : Tmp} (c : Value) (hd : o.dst = some t) (ho : Obl R sp ex P ops Q W a0 known o (fun v _ _ _ => v = c))
    (h : Grow R sp ex P ops Q W a0 back rest ((t, fun v _ _ _ => v = c) :: known)) : Grow R sp ex P ops Q W a0 back (o :: rest) known := Grow.step _ hd (Fact.mono_eq R ex _ c) ho h
theorem Grow.done {R : Rs} {sp : Tmp} {ex : Ex} {P : Program} {ops : Array Oper} {Q : Exit → Act → World → Prop} {W : World} {a0 : Act} {back : Option Oper} {known : List (Tmp × Fact)} (h : Fin R ex P ops Q W a0 back known) : Grow R sp ex P ops Q W a0 back [] known := h

section
variable {R : Rs} {sp : Tmp} {ex : Ex} {P : Program} {ops : Array Oper} {Q : Exit → Act → World → Prop} {W : World} {a0 : Act} {back : Option Oper}

def knAll : List (Tmp × Fact) → List Oper → List Fact → List (Tmp × Fact)
  | known, o :: l, φ :: φs => knAll (kn o.dst φ known) l φs
  | known, _, _ => known
theorem knAll_nil (known : List (Tmp × Fact)) (φs : List Fact) : knAll known [] φs = known := by cases φs <;> rfl

theorem Grow.spec : ∀ (l : List Oper) (known : List (Tmp × Fact)), Grow R sp ex P ops Q W a0 back l known → ∃ φs : List Fact, φs.length = l.length ∧
    (∀ (i : Nat) (o : Oper) (φ : Fact), l[i]? = some o → φs[i]? = some φ → φ.Mono R ex o.dst ∧ Obl R sp ex P ops Q W a0 (knAll known (l.take i) (φs.take i)) o φ) ∧ Fin R ex P ops Q W a0 back (knAll known l φs)
  | [], known, h => ⟨[], rfl, fun i o φ h => by simp at h, by rw [knAll_nil]; exact h⟩
  | o :: l, known, h => by
    obtain ⟨φ, hφ, ho, hr⟩ := h
    obtain ⟨φs, hl, hs, hf⟩ := Grow.spec l _ hr
    refine ⟨φ :: φs, by simp [hl], ?_, hf⟩
    intro i o' φ' h1 h2
    cases i with
    | zero =>
      simp only [List.getElem?_cons_zero, Option.some.injEq] at h1 h2
      subst h1; subst h2
      exact ⟨hφ, ho⟩
    | succ i =>
      simp only [List.getElem?_cons_succ] at h1 h2
      simpa [knAll] using hs i o' φ' h1 h2

theorem lookup_kn (d : Option Tmp) (φ : Fact) (known : List (Tmp × Fact)) (t : Tmp) : (kn d φ known).lookup t = if d = some t then some φ else known.lookup t := by
  cases d with
  | none => simp [kn]
  | some d =>
    simp only [kn, Option.some.injEq, List.lookup_cons]
    by_cases h : d = t
    · subst h; simp
    · rw [if_neg h]
      have : (t == d) = false := by simpa using fun e => h e.symm
      rw [this]

theorem lookup_some : ∀ (l : List Oper) (φs : List Fact) (known : List (Tmp × Fact)) {t : Tmp} {φ : Fact}, (knAll known l φs).lookup t = some φ →
    (∃ (i : Nat) (o : Oper), l[i]? = some o ∧ o.dst = some t ∧ φs[i]? = some φ) ∨ known.lookup t = some φ
  | [], φs, known, t, φ, h => by rw [knAll_nil] at h; exact .inr h
  | o :: l, [], known, t, φ, h => .inr h
  | o :: l, ψ :: φs, known, t, φ, h => by
    rcases lookup_some l φs (kn o.dst ψ known) h with ⟨i, o', h1, h2, h3⟩ | h
    · exact .inl ⟨i + 1, o', by simpa using h1, h2, by simpa using h3⟩
    · rw [lookup_kn] at h
      by_cases hd : o.dst = some t
      · rw [if_pos hd] at h
        exact .inl ⟨0, o, rfl, hd, by simpa using h⟩
      · rw [if_neg hd] at h
        exact .inr h
theorem lookup_none : ∀ (l : List Oper) (φs : List Fact) (known : List (Tmp × Fact)) {t : Tmp}, (knAll known l φs).lookup t = none →
    known.lookup t = none ∧ ∀ (i : Nat) (o : Oper) (φ : Fact), l[i]? = some o → φs[i]? = some φ → o.dst ≠ some t
  | [], φs, known, t, h => by rw [knAll_nil] at h; exact ⟨h, fun i o φ h => by simp at h⟩
  | o :: l, [], known, t, h => ⟨h, fun i o φ _ h => by simp at h⟩
  | o :: l, ψ :: φs, known, t, h => by
    obtain ⟨h1, h2⟩ := lookup_none l φs (kn o.dst ψ known) h
    rw [lookup_kn] at h1
    by_cases hd : o.dst = some t
    · rw [if_pos hd] at h1; cases h1
    · rw [if_neg hd] at h1
      refine ⟨h1, fun i o' φ h3 h4 => ?_⟩
      cases i with
      | zero => simp only [List.getElem?_cons_zero, Option.some.injEq] at h3; subst h3; exact hd
      | succ i => exact h2 i o' φ (by simpa using h3) (by simpa using h4)
theorem mem_knAll : ∀ (l : List Oper) (φs : List Fact) (known : List (Tmp × Fact)) {p : Tmp × Fact}, p ∈ knAll known l φs →
    (∃ (i : Nat) (o : Oper), l[i]? = some o ∧ o.dst = some p.1 ∧ φs[i]? = some p.2) ∨ p ∈ known
  | [], φs, known, p, h => by rw [knAll_nil] at h; exact .inr h
  | o :: l, [], known, p, h => .inr h
  | o :: l, ψ :: φs, known, p, h => by
    rcases mem_knAll l φs (kn o.dst ψ known) h with ⟨i, o', h1, h2, h3⟩ | h
    · exact .inl ⟨i + 1, o', by simpa using h1, h2, by simpa using h3⟩
    · cases hd : o.dst with
      | none => rw [hd] at h; exact .inr h
      | some d =>
        rw [hd] at h
        simp only [kn, List.mem_cons] at h
        rcases h with rfl | h
        · exact .inl ⟨0, o, rfl, hd, rfl⟩
        · exact .inr h

theorem putsAll_size (a0 : Act) (x : Tmp → Value) : ∀ known, (putsAll a0 known x).tmps.size = a0.tmps.size
  | [] => rfl
  | p :: l => by unfold putsAll; rw [List.foldr_cons, size_put]; exact putsAll_size a0 x l
theorem putsAll_defers (a0 : Act) (x : Tmp → Value) : ∀ known, (putsAll a0 known x).defers = a0.defers
  | [] => rfl
  | p :: l => by unfold putsAll; rw [List.foldr_cons, defers_put]; exact putsAll_defers a0 x l
theorem putsAll_getD (a0 a : Act) (known : List (Tmp × Fact)) (hk : ∀ p ∈ known, p.1 < a0.tmps.size) (t : Tmp) (h : (∀ p ∈ known, p.1 ≠ t) → a.tmps.getD t undef = a0.tmps.getD t undef) :
    (putsAll a0 known (fun t => a.tmps.getD t undef)).tmps.getD t undef = a.tmps.getD t undef := by
  induction known with
  | nil => exact (h (fun p hp => by simp at hp)).symm
  | cons p l ih =>
    have e : putsAll a0 (p :: l) (fun t => a.tmps.getD t undef) = (putsAll a0 l (fun t => a.tmps.getD t undef)).put (some p.1) (a.tmps.getD p.1 undef) := rfl
    rw [e, getD_put, putsAll_size]
    by_cases hp : p.1 = t
    · subst hp
      rw [if_pos ⟨rfl, hk p (by simp)⟩]
    · rw [if_neg (fun h => hp h.1)]
      exact ih (fun q hq => hk q (by simp [hq])) (fun hn => h (fun q hq => by
        rcases List.mem_cons.1 hq with rfl | hq
        · exact hp
        · exact hn q hq))
structure At (R : Rs) (sp : Tmp) (ex : Ex) (front : List Oper) (φs : List Fact) (W : World) (a0 : Act) (listed : Array Bool) (a : Act) (w : World) (lo hi : Tmp → Nat) : Prop where
  size : a.tmps.size = a0.tmps.size
  defers : a.defers = a0.defers
  below : R none W w
  pre : (∀ (i : Nat) (p : Oper), front[i]? = some p → p.dst = some sp → listed.getD i false = false) → Below W.heap.size W w
  known : ∀ (i : Nat) (o : Oper) (φ : Fact), front[i]? = some o → φs[i]? = some φ → ∀ t, o.dst = some t → listed.getD i false = true → (∀ e, ex t = some e → ∀ (i' : Nat) (p' : Oper), front[i']? = some p' → p'.dst = some e → listed.getD i' false = false) → φ (a.tmps.getD t undef) w (lo t) (hi t)
  top : ∀ (i : Nat) (o : Oper), front[i]? = some o → ∀ t, o.dst = some t → listed.getD i false = true → hi t ≤ w.heap.size
  apart : ∀ (i : Nat) (o : Oper) (i' : Nat) (o' : Oper), front[i]? = some o → front[i']? = some o' → ∀ t t', o.dst = some t → o'.dst = some t' → listed.getD i false = true → listed.getD i' false = true → ¬ t = t' → hi t ≤ lo t' ∨ hi t' ≤ lo t
  other : ∀ t, (∀ (i : Nat) (o : Oper), front[i]? = some o → o.dst = some t → listed.getD i false = false) → a.tmps.getD t undef = a0.tmps.getD t undef

theorem At.step {front : List Oper} {φs : List Fact} {listed : Array Bool} {a : Act} {w w' : World} {lo hi : Tmp → Nat} {j : Nat} {o : Oper} {φ : Fact} {v : Value} (hR : Rel R sp) (hds : ¬ o.dst = none) (h : At R sp ex front φs W a0 listed a w lo hi)
    (hn : (front.filterMap (·.dst)).Nodup) (hin : ∀ o ∈ front, ∀ t, o.dst = some t → t < a0.tmps.size) (hmono : ∀ (i : Nat) (o : Oper) (φ : Fact), front[i]? = some o → φs[i]? = some φ → φ.Mono R ex o.dst)
    (ho : front[j]? = some o) (hφ : φs[j]? = some φ) (hj : j < listed.size) (hb : R o.dst w w') (hv : φ v w' w.heap.size w'.heap.size) : ∃ lo hi, At R sp ex front φs W a0 (listed.setIfInBounds j true) (a.put o.dst v) w' lo hi := by
  have old : ∀ (i : Nat) (p : Oper) t, front[i]? = some p → p.dst = some t → ¬ j = i → (listed.setIfInBounds j true).getD i false = true → ¬ o.dst = some t ∧ listed.getD i false = true := fun i p t hp ht e hl =>
    ⟨fun hd => e (nodup_dst front hn ho hp hd ht), by simpa [Array.getD_eq_getD_getElem?, Array.getElem?_setIfInBounds, e] using hl⟩
  refine ⟨fun t => if o.dst = some t then w.heap.size else lo t, fun t => if o.dst = some t then w'.heap.size else hi t, (size_put _ _ _).trans h.size, (defers_put _ _ _).trans h.defers, hR.trans h.below (hR.sub _ hb), fun hx => ?_, ?_, ?_, ?_, ?_⟩
  · have hns : ¬ o.dst = some sp := fun e => by
      have := hx j o ho e
      simp [Array.getD_eq_getD_getElem?, hj] at this
    have h1 := h.pre (fun i p hp hd => by
      have h2 := hx i p hp hd
      have e : ¬ j = i := fun e => by subst e; exact hns (by rw [Option.some.inj (ho.symm.trans hp)]; exact hd)
      simpa [Array.getD_eq_getD_getElem?, Array.getElem?_setIfInBounds, e] using h2)
    exact h1.trans ((hR.low _ hds hns hb).mono h1.size)
  · intro i p ψ hp hψ t ht hl hx
    by_cases e : j = i
    · subst e
      obtain rfl : o = p := Option.some.inj (ho.symm.trans hp)
      obtain rfl : φ = ψ := Option.some.inj (hφ.symm.trans hψ)
      simp only [if_pos ht]
      rw [ht, getD_put, if_pos ⟨rfl, by rw [h.size]; exact hin o (List.mem_of_getElem? ho) t ht⟩]
      exact hv
    · obtain ⟨hne, hl'⟩ := old i p t hp ht e hl
      simp only [if_neg hne]
      have hxo : ∀ e, ex t = some e → ∀ (i' : Nat) (p' : Oper), front[i']? = some p' → p'.dst = some e → ¬ j = i' ∧ listed.getD i' false = false := fun e9 he i' p' hp' hd' => by
        have h9 := hx e9 he i' p' hp' hd'
        by_cases ej : j = i'
        · subst ej; simp [Array.getD_eq_getD_getElem?, hj] at h9
        · exact ⟨ej, by simpa [Array.getD_eq_getD_getElem?, Array.getElem?_setIfInBounds, ej] using h9⟩
      have h1 := hmono i p ψ hp hψ o.dst hds (fun e9 => hne (e9.trans ht)) (fun t9 e9 h8 h9 hd => by
        obtain rfl : t = t9 := Option.some.inj (ht.symm.trans h8)
        exact (hxo e9 h9 j o ho hd).1 rfl) _ _ _ _ _ (h.known i p ψ hp hψ t ht hl' (fun e9 he i' p' hp' hd' => (hxo e9 he i' p' hp' hd').2)) hb
      cases hd : o.dst with
      | none => exact h1
      | some d =>
        rw [getD_put, if_neg (fun hx => hne (hd.trans (by rw [hx.1])))]
        exact h1
  · intro i p hp t ht hl
    by_cases e : j = i
    · subst e
      obtain rfl : o = p := Option.some.inj (ho.symm.trans hp)
      simp only [if_pos ht]
      exact Nat.le_refl _
    · obtain ⟨hne, hl'⟩ := old i p t hp ht e hl
      simp only [if_neg hne]
      exact Nat.le_trans (h.top i p hp t ht hl') (hR.size (hR.sub _ hb))
  · intro i p i' p' hp hp' t t' ht ht' hl hl' hne
    by_cases e : j = i
    · subst e
      obtain rfl : o = p := Option.some.inj (ho.symm.trans hp)
      by_cases e' : j = i'
      · subst e'
        obtain rfl : o = p' := Option.some.inj (ho.symm.trans hp')
        exact absurd (Option.some.inj (ht.symm.trans ht')) hne
      · obtain ⟨hne', hl''⟩ := old i' p' t' hp' ht' e' hl'
        simp only [if_pos ht, if_neg hne']
        exact .inr (h.top i' p' hp' t' ht' hl'')
    · obtain ⟨hne1, hl1⟩ := old i p t hp ht e hl
      by_cases e' : j = i'
      · subst e'
        obtain rfl : o = p' := Option.some.inj (ho.symm.trans hp')
        simp only [if_pos ht', if_neg hne1]
        exact .inl (h.top i p hp t ht hl1)
      · obtain ⟨hne', hl''⟩ := old i' p' t' hp' ht' e' hl'
        simp only [if_neg hne1, if_neg hne']
        exact h.apart i p i' p' hp hp' t t' ht ht' hl1 hl'' hne
  · intro t ht
    have hne : o.dst ≠ some t := fun hd => by
      have := ht j o ho hd
      simp [Array.getD_eq_getD_getElem?, hj] at this
    have h1 := h.other t (fun i p hp hd => by
      have h2 := ht i p hp hd
      have e : ¬ j = i := fun e => by subst e; exact hne (by rw [Option.some.inj (ho.symm.trans hp)]; exact hd)
      simpa [Array.getD_eq_getD_getElem?, Array.getElem?_setIfInBounds, e] using h2)
    cases hd : o.dst with
    | none => exact h1
    | some d =>
      rw [getD_put, if_neg (fun hx => hne (hd.trans (by rw [hx.1])))]
      exact h1

theorem Fin.last {front : List Oper} {φs : List Fact} {listed : Array Bool} {a : Act} {w : World} {lo hi : Tmp → Nat} (hf : Fin R ex P ops Q W a0 back (knAll [] front φs)) (hlen : φs.length = front.length) (hin : ∀ o ∈ front, ∀ t, o.dst = some t → t < a0.tmps.size)
    (h : At R sp ex front φs W a0 listed a w lo hi) (hall : ∀ i, i < front.length → listed.getD i false = true) : lastStep P ops Q back a w := by
  have h1 := hf (fun t => a.tmps.getD t undef) w lo hi h.below (fun p hp hpe => by
    rcases mem_knAll front φs [] hp with ⟨i, o, h1, h2, h3⟩ | h1
    · exact h.known i o p.2 h1 h3 p.1 h2 (hall i (List.getElem?_eq_some_iff.1 h1).1) (fun e he => by rw [hpe] at he; cases he)
    · simp at h1) (fun p hp q hq hne => by
    rcases mem_knAll front φs [] hp with ⟨i, o, h1, h2, h3⟩ | h1
    · rcases mem_knAll front φs [] hq with ⟨i', o', g1, g2, g3⟩ | g1
      · exact h.apart i o i' o' h1 g1 p.1 q.1 h2 g2 (hall i (List.getElem?_eq_some_iff.1 h1).1) (hall i' (List.getElem?_eq_some_iff.1 g1).1) hne
      · simp at g1
    · simp at h1)
  have e : putsAll a0 (knAll [] front φs) (fun t => a.tmps.getD t undef) = a := by
    refine act_ext ((putsAll_size _ _ _).trans h.size.symm) ((putsAll_defers _ _ _).trans h.defers.symm) (fun t => putsAll_getD a0 a _ (fun p hp => ?_) t (fun hn => ?_))
    · rcases mem_knAll front φs [] hp with ⟨i, o, h1, h2, h3⟩ | h1
      · exact hin o (List.mem_of_getElem? h1) _ h2
      · simp at h1
    · refine h.other t (fun i o ho hd => ?_)
      exfalso
      have hi := (List.getElem?_eq_some_iff.1 ho).1
      have hφ : φs[i]? = some (φs[i]'(by omega)) := List.getElem?_eq_getElem _
      cases hk : (knAll [] front φs).lookup t with
      | none => exact (lookup_none front φs [] hk).2 i o _ ho hφ hd
      | some φ =>
        have : ∃ p ∈ knAll [] front φs, p.1 = t := by
          revert hk
          generalize knAll [] front φs = l
          intro hk
          induction l with
          | nil => simp at hk
          | cons p l ih =>
            rw [List.lookup_cons] at hk
            cases hb : t == p.1 with
            | true => exact ⟨p, by simp, (by simpa using hb : t = p.1).symm⟩
            | false =>
              rw [hb] at hk
              obtain ⟨q, hq, he⟩ := ih hk
              exact ⟨q, by simp [hq], he⟩
        obtain ⟨p, hp, he⟩ := this
        exact hn p hp he
  rw [e] at h1
  exact h1

theorem wpAny_grow {front : List Oper} {φs : List Fact} (hR : Rel R sp) (hds : ∀ o ∈ front, ¬ o.dst = none) (hops : ops = (front ++ back.toList).toArray) (hB : growB a0.tmps.size front back = true) (hlen : φs.length = front.length)
    (hs : ∀ (i : Nat) (o : Oper) (φ : Fact), front[i]? = some o → φs[i]? = some φ → φ.Mono R ex o.dst ∧ Obl R sp ex P ops Q W a0 (knAll [] (front.take i) (φs.take i)) o φ) (hf : Fin R ex P ops Q W a0 back (knAll [] front φs)) :
    ∀ (fuel : Nat) (listed : Array Bool) (a : Act) (w : World), listed.size = ops.size → listed.toList.count false ≤ fuel → (∀ o, back = some o → listed.getD front.length false = false) → (∃ lo hi, At R sp ex front φs W a0 listed a w lo hi) → wpAny P .any ops Q fuel listed a w := by
  obtain ⟨hn, hin, hdep, hlt, hback⟩ := growB_spec hB
  rw [← hops] at hdep hlt
  have hsz : ops.size = front.length + back.toList.length := by rw [hops]; simp
  -- all have come up
  have hend : ∀ (listed : Array Bool) (a : Act) (w : World), listed.size = ops.size → (∀ i, i < ops.size → listed.getD i false = true) → (∀ o, back = some o → listed.getD front.length false = false) → (∃ lo hi, At R sp ex front φs W a0 listed a w lo hi) → Q .normal a w := by
    rintro listed a w hz hall hb ⟨lo, hi, h⟩
    have h1 := hf.last hlen hin h (fun i hi => hall i (by omega))
    cases hk : back with
    | none => rw [hk] at h1; exact h1
    | some o =>
      have h2 := hb o hk
      rw [hall _ (by rw [hsz, hk]; simp)] at h2
      cases h2
  intro fuel
  induction fuel with
  | zero =>
    intro listed a w hz hc hb h
    have hall : ∀ i, i < ops.size → listed.getD i false = true := fun i hi => no_false (by omega) i (by omega)
    refine ⟨?_, hend listed a w hz hall hb h⟩
    cases hr : Region.ready .any ops listed with
    | nil => rfl
    | cons j js =>
      have hm : j ∈ Region.ready .any ops listed := by rw [hr]; simp
      obtain ⟨h1, o, ho, -⟩ := mem_ready.1 hm
      have hj := (Array.getElem?_eq_some_iff.1 ho).1
      rw [← getD_ft (by omega), hall j hj] at h1
      cases h1
  | succ fuel ih =>
    intro listed a w hz hc hb hlh
    refine ⟨fun hr => hend listed a w hz (all_listed hz hlt hr) hb hlh, fun j hj => ?_⟩
    obtain ⟨lo, hi, h⟩ := hlh
    obtain ⟨hun, o, ho, hall⟩ := mem_ready.1 hj
    have hjs : j < ops.size := (Array.getElem?_eq_some_iff.1 ho).1
    have hcs := count_set (listed := listed) (i := j) (by omega) hun
    by_cases hjf : j < front.length
    · have hof : front[j]? = some o := by rw [hops] at ho; simpa [List.getElem?_append_left hjf] using ho
      have hφ : φs[j]? = some (φs[j]'(by omega)) := List.getElem?_eq_getElem _
      obtain ⟨hm, hob⟩ := hs j o _ hof hφ
      have hfacts : ∀ t ∈ o.looksAt ops, slotFact ex o.dst a0 (knAll [] (front.take j) (φs.take j)) a w lo hi t := by
        intro t ht
        unfold slotFact
        cases hk : (knAll [] (front.take j) (φs.take j)).lookup t with
        | some φ =>
          rcases lookup_some _ _ _ hk with ⟨i, p, h1, h2, h3⟩ | h1
          · have hij : i < j := by have := (List.getElem?_eq_some_iff.1 h1).1; simp at this; omega
            rw [List.getElem?_take, if_pos hij] at h1 h3
            obtain ⟨-, e, he, hon, hbi⟩ := hdep j o hof t ht i p h1 h2
            have hl := hall e he hbi
            rw [hon] at hl
            intro hex
            refine h.known i p φ h1 h3 t h2 hl (fun e9 he i' p' hp' hd' => ?_)
            rcases hex with h9 | h9
            · rw [h9] at he; cases he
            · have : i' = j := nodup_dst front hn hp' hof hd' (h9.symm.trans he)
              subst this
              rw [getD_ft (by omega)]
              exact hun
          · simp at h1
        | none =>
          refine h.other t (fun i p hp hd => ?_)
          exfalso
          obtain ⟨hij, -⟩ := hdep j o hof t ht i p hp hd
          have hi := (List.getElem?_eq_some_iff.1 hp).1
          exact (lookup_none _ _ _ hk).2 i p (φs[i]'(by omega)) (by rw [List.getElem?_take, if_pos hij]; exact hp) (by rw [List.getElem?_take, if_pos hij]; exact List.getElem?_eq_getElem _) hd
      have hfind : ∀ t ∈ o.looksAt ops, ((knAll [] (front.take j) (φs.take j)).lookup t).isSome = true → ∃ (i : Nat) (p : Oper), front[i]? = some p ∧ p.dst = some t ∧ listed.getD i false = true := by
        intro t ht hk
        obtain ⟨φ, hφ'⟩ := Option.isSome_iff_exists.1 hk
        rcases lookup_some _ _ _ hφ' with ⟨i, p, h1, h2, h3⟩ | h1
        · have hij : i < j := by have := (List.getElem?_eq_some_iff.1 h1).1; simp at this; omega
          rw [List.getElem?_take, if_pos hij] at h1
          obtain ⟨-, e, he, hon, hbi⟩ := hdep j o hof t ht i p h1 h2
          have hl := hall e he hbi
          rw [hon] at hl
          exact ⟨i, p, h1, h2, hl⟩
        · simp at h1
      have hap : ApartAt (knAll [] (front.take j) (φs.take j)) lo hi (o.looksAt ops) := by
        intro t ht t' ht' hk hk' hne
        obtain ⟨i, p, h1, h2, h3⟩ := hfind t ht hk
        obtain ⟨i', p', g1, g2, g3⟩ := hfind t' ht' hk'
        exact h.apart i p i' p' h1 g1 t t' h2 g2 h3 g3 hne
      have hpre : o.dst = some sp → Below W.heap.size W w := fun hd => h.pre (fun i p hp hd' => by
        have : i = j := nodup_dst front hn hp hof hd' hd
        subst this
        rw [getD_ft (by omega)]
        exact hun)
      have h1 := hob a w (wpAny P .any ops Q fuel (listed.setIfInBounds j true)) lo hi h.size h.below hpre hfacts hap (fun v w' hbw hv => by
        refine ih _ _ _ (by simpa using hz) (by omega) (fun o' ho' => ?_) (h.step hR (hds o (List.mem_of_getElem? hof)) hn hin (fun i o φ h1 h2 => (hs i o φ h1 h2).1) hof hφ (by omega) hbw hv)
        have h2 := hb o' ho'
        have e : ¬ j = front.length := by omega
        simpa [Array.getD_eq_getD_getElem?, Array.getElem?_setIfInBounds, e] using h2)
      unfold wpOp
      rw [ho]
      simp only
      split
      · rename_i hw
        rw [if_pos hw] at h1
        exact .inl h1
      · rename_i hw
        rw [if_neg hw] at h1
        exact h1
    · cases hk : back with
      | none => rw [hk] at hsz; simp at hsz; omega
      | some b =>
        have hjn : j = front.length := by rw [hk] at hsz; simp at hsz; omega
        subst hjn
        have hob : o = b := by
          rw [hops, hk] at ho
          simp at ho
          exact ho.symm
        subst hob
        have hfl : ∀ i, i < front.length → listed.getD i false = true := fun i hi => by
          obtain ⟨e, he, hon, hbi⟩ := hback o hk i hi
          have := hall e he hbi
          rwa [hon] at this
        have h1 := hf.last hlen hin h hfl
        rw [hk] at h1
        have h2 := h1 (wpAny P .any ops Q fuel (listed.setIfInBounds front.length true)) (fun a' w' hq => by
          have hr : Region.ready .any ops (listed.setIfInBounds front.length true) = [] := by
            cases hr : Region.ready .any ops (listed.setIfInBounds front.length true) with
            | nil => rfl
            | cons i is =>
              have hm : i ∈ Region.ready .any ops (listed.setIfInBounds front.length true) := by rw [hr]; simp
              obtain ⟨h3, o', ho', -⟩ := mem_ready.1 hm
              have hi := (Array.getElem?_eq_some_iff.1 ho').1
              exfalso
              by_cases e : front.length = i
              · subst e
                simp [Array.getD_eq_getD_getElem?, show front.length < listed.size from by omega] at h3
              · have h4 := hfl i (by rw [hk] at hsz; simp at hsz; omega)
                rw [getD_ft (by omega)] at h4
                simp [Array.getD_eq_getD_getElem?, e] at h3 h4
                rw [h3] at h4
                cases h4
          cases fuel with
          | zero => exact ⟨hr, hq⟩
          | succ fuel => exact ⟨fun _ => hq, fun i hi => by rw [hr] at hi; cases hi⟩)
        unfold wpOp
        rw [ho]
        simp only
        split
        · rename_i hw
          rw [if_pos hw] at h2
          exact .inl h2
        · rename_i hw
          rw [if_neg hw] at h2
          exact h2
end

theorem wp_region_grow {R : Rs} {sp : Tmp} {ex : Ex} (hR : Rel R sp) {P : Program} {id : Nat} {Q : Exit → Act → World → Prop} {a0 : Act} {W : World} {l : List Oper} {front : List Oper} {back : Option Oper} (hm : P.follows .mixedOrders = true) (hl : l = front ++ back.toList) (hds : front.all (fun o => o.dst.isSome) = true) (hB : growB a0.tmps.size front back = true)
    (h : Grow R sp ex P l.toArray Q W a0 back front []) : (Code.region id l.toArray true).wp P Q a0 W := by
  obtain ⟨φs, hlen, hs, hf⟩ := Grow.spec _ _ h
  refine wp_region_any hm (wpAny_grow hR (fun o ho e => by have := List.all_eq_true.1 hds o ho; rw [e] at this; cases this) (by rw [hl]) hB hlen hs hf _ _ _ _ (by simp) ?_ (fun o ho => ?_) ⟨fun _ => 0, fun _ => 0, rfl, rfl, hR.drew _, fun _ => (Below.refl _ _).drew, fun i o φ h1 h2 t ht hx _ => ?_, fun i o h1 t ht hx => ?_, fun i o i' o' h1 h2 t t' ht ht' hx => ?_, fun t _ => rfl⟩)
  · have := List.count_le_length (a := false) (l := (Array.replicate l.toArray.size false).toList)
    simp at this ⊢
  · exact repl_false _ _
  · rw [repl_false] at hx; cases hx
  · rw [repl_false] at hx; cases hx
  · rw [repl_false] at hx; cases hx
theorem wp_region_grow_last {R : Rs} {sp : Tmp} {ex : Ex} (hR : Rel R sp) {P : Program} {id : Nat} {Q : Exit → Act → World → Prop} {a0 : Act} {W : World} {l : List Oper} {front : List Oper} {last : Oper} (hm : P.follows .mixedOrders = true) (hf : l.dropLast = front) (hb : l.getLast? = some last) (hds : front.all (fun o => o.dst.isSome) = true) (hB : growB a0.tmps.size front (some last) = true)
    (h : Grow R sp ex P l.toArray Q W a0 (some last) front []) : (Code.region id l.toArray true).wp P Q a0 W := by
  refine wp_region_grow hR hm ?_ hds hB h
  obtain ⟨l', rfl⟩ := List.getLast?_eq_some_iff.1 hb
  rw [← hf]
  simp

def Bel (w w' : World) : Prop := Below w.heap.size w w'
theorem Bel.rel (sp : Tmp) : Rel (fun _ => Bel) sp := ⟨fun _ => Below.refl _ _, fun h k => Below.trans h (Below.mono k (Below.size h)), fun h => Below.size h, fun _ => (Below.refl _ _).drew, fun _ _ _ h => h, fun _ _ _ _ _ h => h⟩
end Gi
end Go.Proofs.YtfapjochclhfpaaGreatDoor
