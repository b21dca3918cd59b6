/-
  Whether pods are where they may be, as the specification asks it.
-/
import Derived.Test.YtcljghpfclegmaaGreatDoorSp2
namespace Go.Proofs.YtcljghpfclegmaaGreatDoor
open Go.RowKit
namespace Rc
open Mk

def PSa (c : Cl) (p : Pd) : Prop := p.d = ⟨#[]⟩ ∨ ∃ (i : Nat) (n : Nd), c.ns[i]? = some n ∧ n.n = p.d ∧ (p.z = ⟨#[]⟩ ∨ n.z = p.z)
def PSb1 (c : Cl) (p : Pd) (t : ByteArray) : Prop := (∃ (i : Nat) (x : Xd), c.xs[i]? = some x ∧ x.n = t) ∧ (p.d = ⟨#[]⟩ ∨ ∃ (v : Vd) (i : Nat) (n : Nd), IsBd c t v ∧ c.ns[i]? = some n ∧ n.n = p.d ∧ v.z = n.z)
def PSb (c : Cl) (p : Pd) : Prop := ∀ (j : Nat) t, p.zs[j]? = some t → PSb1 c p t
def PSc (c : Cl) (k : Nat) (p : Pd) : Prop := ∀ (j : Nat) q, j < k → c.ps[j]? = some q → PairS c q p
def PS (c : Cl) (k : Nat) (p : Pd) : Prop := PSa c p ∧ PSb c p ∧ PSc c k p
def PlacedS (c : Cl) : Prop := (∀ (k : Nat) p, c.ps[k]? = some p → PS c k p) ∧ ∀ (j : Nat) n, c.ns[j]? = some n → cpuOf n.n c.ps ≤ n.c

set_option maxRecDepth 100000 in
set_option maxHeartbeats 12800000 in
theorem splaced_any (d : Ad) (c : Cl) (w : World) (hr : ClRow w d c.raw) (hn : RisBy Nd.n c.ns) (hx : RisBy Xd.n c.xs) (hv : RisBy Vd.n c.vs) (hne : ∀ (j : Nat) v, c.vs[j]? = some v → ¬ v.n = ⟨#[]⟩) (hps8 : c.ps.length ≤ 8) (hpc : ∀ (j : Nat) p, c.ps[j]? = some p → 0 ≤ p.c ∧ p.c ≤ 1000000) :
    Calls Tryz.prog 57 #[.agg #[.slice d.a1 d.l1 d.c1, .slice d.a2 d.l2 d.c2, .slice d.a3 d.l3 d.c3, .slice d.a4 d.l4 d.c4, .slice d.a5 d.l5 d.c5, .int .i64 c.now]] w (BoolB (PlacedS c) w) := by
  obtain ⟨a1, l1, y1, a2, l2, y2, a3, l3, y3, a4, l4, y4, a5, l5, y5⟩ := d
  dsimp only
  have HR := hidK hr
  have hl1 : c.ns.length = l1 := by simpa using (show (c.ns.map ndF).length = l1 from hr.n.1)
  have hm1 : l1 ≤ 9223372036854775807 := Nat.le_trans hr.n.2.1 hr.n.2.2.1
  have hl2 : c.ks.length = l2 := by simpa using (show (c.ks.map kdF).length = l2 from hr.k.1)
  have hm2 : l2 ≤ 9223372036854775807 := Nat.le_trans hr.k.2.1 hr.k.2.2.1
  have hl3 : c.vs.length = l3 := by simpa using (show (c.vs.map vdF).length = l3 from hr.v.1)
  have hm3 : l3 ≤ 9223372036854775807 := Nat.le_trans hr.v.2.1 hr.v.2.2.1
  have hl4 : c.xs.length = l4 := by simpa using (show (c.xs.map xdF).length = l4 from hr.x.1)
  have hm4 : l4 ≤ 9223372036854775807 := Nat.le_trans hr.x.2.1 hr.x.2.2.1
  have hl5 : c.ps.length = l5 := by simpa using (show (c.ps.map pdF).length = l5 from hr.p.1)
  have hm5 : l5 ≤ 9223372036854775807 := Nat.le_trans hr.p.2.1 hr.p.2.2.1
  clear hr
  have HNR := hidK hn
  have HX := hidK hx
  have HV := hidK hv
  have HNE := hidK hne
  have HL5 := hidK hps8
  have HPC := hidK hpc
  clear hn hx hv hne hps8 hpc
  go_enter Tryz.func57, Tryz.ntmps57
  go_wp2
  go_loopw [3] (fun i wr => ∃ k : Nat, k ≤ l5 ∧ i = .int .i64 k ∧ Hid (∀ (j : Nat) z, j < k → c.ps[j]? = some z → PS c j z) ∧ Hid (Below w.heap.size w wr) ∧ Hid (wr.heap[w.heap.size]? = some (.cells #[.slice a1 l1 y1, .slice a2 l2 y2, .slice a3 l3 y3, .slice a4 l4 y4, .slice a5 l5 y5, .int .i64 c.now] 37 (0, 0)))) (fun i _ => l5 - (intOf i).toNat)
  case atStart => exact ⟨0, by omega, rfl, fun _ _ h => absurd h (by omega), below1 _ _, Array.getElem?_push_size⟩
  case round =>
    obtain ⟨k, hk, rfl, HQ, HB, Bk⟩ := hrel
    have pk : wr.cell? ⟨w.heap.size, 4, none⟩ = some (.slice a5 l5 y5) := cellK Bk.out 4
    by_cases hlt : k < l5
    · obtain ⟨b, o, p, rfl, hb, hx, hat⟩ := pd_at (HR.out.p.below HB.out) hlt
      obtain ⟨va, vl, vc, hvr, z0, z2, z4, c0, c1, c2, c3, c4, c5⟩ := pd_cells hat
      have HXp := hidK hx
      have HTp := hidK hvr
      have HZp0 := hidK z0
      have HZp2 := hidK z2
      have HZp4 := hidK z4
      clear hat hx z0 z2 z4 hvr
      have hvl : p.zs.length = vl := HTp.out.1
      have hvc : vl ≤ 9223372036854775807 := Nat.le_trans HTp.out.2.1 HTp.out.2.2.1
      have HVL := hidK hvl
      clear hvl
      have k0 : wr.cell? ⟨w.heap.size, 0, none⟩ = some (.slice a1 l1 y1) := cellK Bk.out 0
      have k1 : wr.cell? ⟨w.heap.size, 1, none⟩ = some (.slice a2 l2 y2) := cellK Bk.out 1
      have k2 : wr.cell? ⟨w.heap.size, 2, none⟩ = some (.slice a3 l3 y3) := cellK Bk.out 2
      have k3 : wr.cell? ⟨w.heap.size, 3, none⟩ = some (.slice a4 l4 y4) := cellK Bk.out 3
      have k4 : wr.cell? ⟨w.heap.size, 4, none⟩ = some (.slice (some ⟨b, o, none⟩) l5 y5) := cellK Bk.out 4
      have k5 : wr.cell? ⟨w.heap.size, 5, none⟩ = some (.int .i64 c.now) := cellK Bk.out 5
      have ltk_0 : w.heap.size < wr.heap.size := lt_of_some Bk.out
      go_wp2_with fail
      refine (sxnd_any ⟨a1, l1, y1, a2, l2, y2, a3, l3, y3, a4, l4, y4, (some ⟨b, o, none⟩), l5, y5⟩ c.now c.ns p.d _ (HR.out.n.below (HB.out.trans ((below1 _ _).mono HB.out.size)))).mono ?_
      rintro e w1 ⟨hb2, hf⟩
      clear k0 k1 k2 k3 k4 k5 ltk_0
      have hsz1 : (wr.alloc (.cells #[.string p.n, .int .i64 p.c, .string p.z, .slice va vl vc, .string p.d, .int .i64 p.p] 76)).heap.size = wr.heap.size + 1 := by simp
      have Ck := hidK ((hb2.block (w.heap.size) (by rw [hsz1]; have := lt_of_some Bk.out; omega)).trans ((Below.heap_alloc _ _ _ (lt_of_some Bk.out)).trans (Bk.out)))
      have Cr : Hid (w1.heap[wr.heap.size]? = some (.cells #[.string p.n, .int .i64 p.c, .string p.z, .slice va vl vc, .string p.d, .int .i64 p.p] 76 (0, 0))) := (hb2.block (wr.heap.size) (by rw [hsz1]; omega)).trans (Array.getElem?_push_size)
      have CHTp := hidK ((HTp.out.below (below1 _ _)).below hb2)
      have HB1 := hidK (HB.out.trans (((below1 _ _ : Below wr.heap.size wr (wr.alloc (.cells #[.string p.n, .int .i64 p.c, .string p.z, .slice va vl vc, .string p.d, .int .i64 p.p] 76))).trans (hb2.mono (by rw [hsz1]; omega))).mono HB.out.size))
      clear HB hb2 HTp Bk hsz1
      have HB := HB1
      clear HB1
      have HTp := CHTp
      clear CHTp
      have Bk := Ck
      clear Ck
      have Br := Cr
      clear Cr
      clear pk hb c0 c1 c2 c3 c4 c5
      by_cases he : p.d = ⟨#[]⟩
      · have hq := isE_y he
        have HEm := hidK he
        clear he
        obtain ⟨r5, hre⟩ : ∃ r : Int, e = .returned (.int .i64 r) := by rcases hf with ⟨j, y, _, _, h⟩ | ⟨_, h⟩ <;> exact ⟨_, h⟩
        subst hre
        clear hf
        have Gk : Hid (w1.heap[w.heap.size]? = some (.cells #[.slice a1 l1 y1, .slice a2 l2 y2, .slice a3 l3 y3, .slice a4 l4 y4, .slice (some ⟨b, o, none⟩) l5 y5, .int .i64 c.now] 37 (0, 0))) := Bk.out
        have Gr : Hid (w1.heap[wr.heap.size]? = some (.cells #[.string p.n, .int .i64 p.c, .string p.z, .slice va vl vc, .string p.d, .int .i64 p.p] 76 (0, 0))) := Br.out
        have HW : Hid (Below w.heap.size w w1) := HB.out
        have k0 : ∀ q : Wd w1, q.w.cell? ⟨w.heap.size, 0, none⟩ = some (.slice a1 l1 y1) := fun q => q.slot Gk.out rfl
        have r0 : ∀ q : Wd w1, q.w.cell? ⟨wr.heap.size, 0, none⟩ = some (.string p.n) := fun q => q.slot Gr.out rfl
        have r1 : ∀ q : Wd w1, q.w.cell? ⟨wr.heap.size, 1, none⟩ = some (.int .i64 p.c) := fun q => q.slot Gr.out rfl
        have r2 : ∀ q : Wd w1, q.w.cell? ⟨wr.heap.size, 2, none⟩ = some (.string p.z) := fun q => q.slot Gr.out rfl
        have r3 : ∀ q : Wd w1, q.w.cell? ⟨wr.heap.size, 3, none⟩ = some (.slice va vl vc) := fun q => q.slot Gr.out rfl
        have r4 : ∀ q : Wd w1, q.w.cell? ⟨wr.heap.size, 4, none⟩ = some (.string p.d) := fun q => q.slot Gr.out rfl
        have r5 : ∀ q : Wd w1, q.w.cell? ⟨wr.heap.size, 5, none⟩ = some (.int .i64 p.p) := fun q => q.slot Gr.out rfl
        have hne0 := Wd.ne w1
        go_wp2_with fail
        refine wp_region_wide (by kernel_rfl) (by kernel_rfl) ?_
        repeat (go_big_quiet_step (first | fail))
        refine wpQuiet_nil ?_
        rintro _ ⟨q0, rfl⟩
        have HB2 := hidK (HW.out.trans (q0.b.mono HW.out.size))
        have Ck := hidK ((q0.b.block _ (lt_of_some Gk.out)).trans Gk.out)
        have Cr := hidK ((q0.b.block _ (lt_of_some Gr.out)).trans Gr.out)
        have CHTp := hidK ((HTp.out).below q0.b)
        clear hne0 HW HB k0 r0 r1 r2 r3 r4 r5 Gk Gr Bk Br HTp
        have HB := HB2
        clear HB2
        have HTp := CHTp
        clear CHTp
        have Bk := Ck
        clear Ck
        have Br := Cr
        clear Cr
        have HPa : Hid (PSa c p) := .inl HEm.out
        obtain ⟨gb, hgb⟩ : ∃ gb, gb = wr.heap.size := ⟨_, rfl⟩
        rw [← hgb] at Br
        have pr3 : q0.w.cell? ⟨gb, 3, none⟩ = some (.slice va vl vc) := cellK Br.out 3
        rw [hgb] at pr3
        go_wp2
        rw [← hgb]
        clear pr3 hgb
        have KV := Bk
        have GV := Br
        have BV := HB
        have TV := HTp
        clear Bk Br HB HTp
        obtain ⟨W, hW⟩ : ∃ W, W = q0.w := ⟨_, rfl⟩
        rw [← hW] at KV GV BV TV ⊢
        clear hW
        go_loopw [6] (fun i wr => ∃ kq : Nat, kq ≤ vl ∧ i = .int .i64 kq ∧ Hid (∀ (j : Nat) t, j < kq → p.zs[j]? = some t → PSb1 c p t) ∧ Hid (Below W.heap.size W wr)) (fun i _ => vl - (intOf i).toNat)
        case atStart => exact ⟨0, by omega, rfl, fun _ _ h => absurd h (by omega), Below.refl _ _⟩
        case round =>
          obtain ⟨kq, hkq, rfl, HQ2, HBW⟩ := hrel
          have HB := hidK (BV.out.trans (HBW.out.mono BV.out.size))
          have Bk := hidK ((HBW.out.block _ (lt_of_some KV.out)).trans KV.out)
          have Br := hidK ((HBW.out.block _ (lt_of_some GV.out)).trans GV.out)
          have pr3 : wr.cell? ⟨gb, 3, none⟩ = some (.slice va vl vc) := cellK Br.out 3
          by_cases hlt2 : kq < vl
          · obtain ⟨b2, o2, t, rfl, hb, hxt, hc, hsz⟩ := (TV.out.below HBW.out).at hlt2
            have HXt := hidK hxt
            clear hxt hsz
            have hcase : (∃ v, IsBd c t v) ∨ (∀ v, ¬ IsBd c t v) := by
              by_cases h : ∃ v, IsBd c t v
              · exact .inl h
              · exact .inr (fun v hv => h ⟨v, hv⟩)
            rcases hcase with ⟨v, hbd⟩ | hbd
            · obtain ⟨j3, hj3⟩ := hbd.at
              have hl3' : j3 < l3 := by have h1 := (List.getElem?_eq_some_iff.1 hj3).1; omega
              obtain ⟨b3, o3, v', rfl, hb3, hv', hat⟩ := vd_at HR.out.v hl3'
              rw [hj3] at hv'
              obtain rfl := Option.some.inj hv'
              obtain ⟨xa, xl, xc, hvr, z0, z2, z3, z5, d0, d1, d2, d3, d4, d5, d6, d7⟩ := vd_cells hat
              have HJ := hidK hj3
              have HD := hidK hbd
              have HC2 := hidK d2
              have HB3 := hidK hb3
              have hj31 : decide ((j3 : Int) < 0) = false := by simp
              clear hv' hat hvr z0 z2 z3 z5 d0 d1 d2 d3 d4 d5 d6 d7 hj3 hbd hb3
              have Gk : Hid (wr.heap[w.heap.size]? = some (.cells #[.slice a1 l1 y1, .slice a2 l2 y2, .slice (some ⟨b3, o3, none⟩) l3 y3, .slice a4 l4 y4, .slice (some ⟨b, o, none⟩) l5 y5, .int .i64 c.now] 37 (0, 0))) := Bk.out
              have Gr : Hid (wr.heap[gb]? = some (.cells #[.string p.n, .int .i64 p.c, .string p.z, .slice (some ⟨b2, o2, none⟩) vl vc, .string p.d, .int .i64 p.p] 76 (0, 0))) := Br.out
              have HW : Hid (Below w.heap.size w wr) := HB.out
              have k0 : ∀ q : Wd wr, q.w.cell? ⟨w.heap.size, 0, none⟩ = some (.slice a1 l1 y1) := fun q => q.slot Gk.out rfl
              have k1 : ∀ q : Wd wr, q.w.cell? ⟨w.heap.size, 1, none⟩ = some (.slice a2 l2 y2) := fun q => q.slot Gk.out rfl
              have k2 : ∀ q : Wd wr, q.w.cell? ⟨w.heap.size, 2, none⟩ = some (.slice (some ⟨b3, o3, none⟩) l3 y3) := fun q => q.slot Gk.out rfl
              have k3 : ∀ q : Wd wr, q.w.cell? ⟨w.heap.size, 3, none⟩ = some (.slice a4 l4 y4) := fun q => q.slot Gk.out rfl
              have k4 : ∀ q : Wd wr, q.w.cell? ⟨w.heap.size, 4, none⟩ = some (.slice (some ⟨b, o, none⟩) l5 y5) := fun q => q.slot Gk.out rfl
              have k5 : ∀ q : Wd wr, q.w.cell? ⟨w.heap.size, 5, none⟩ = some (.int .i64 c.now) := fun q => q.slot Gk.out rfl
              have r3 : ∀ q : Wd wr, q.w.cell? ⟨gb, 3, none⟩ = some (.slice (some ⟨b2, o2, none⟩) vl vc) := fun q => q.slot Gr.out rfl
              have tw : ∀ q : Wd wr, q.w.cell? ⟨b2, o2 + kq, none⟩ = some (.string t) := fun q => (q.cell (hb)).trans (hc)
              have hne0 := Wd.ne wr
              have HC0 := hidK (fun q : Wd wr => sbind_hit ⟨a1, l1, y1, a2, l2, y2, (some ⟨b3, o3, none⟩), l3, y3, a4, l4, y4, (some ⟨b, o, none⟩), l5, y5⟩ c t q.w (HR.out.below (HW.out.trans (q.b.mono HW.out.size))) HX.out HV.out HNE.out HJ.out HD.out)
              go_wp2_with fail
              refine wp_region_wide (by kernel_rfl) (by kernel_rfl) ?_
              repeat (go_big_quiet_step (first | (go_at_call 128; exact Calls.wide (HC0.out _)) | fail))
              refine wpQuiet_nil ?_
              rintro _ ⟨q1, rfl⟩
              have HB1 := hidK (HW.out.trans (q1.b.mono HW.out.size))
              have Ck := hidK ((q1.b.block _ (lt_of_some Gk.out)).trans Gk.out)
              have Cr := hidK ((q1.b.block _ (lt_of_some Gr.out)).trans Gr.out)
              clear hne0 HW HB HC0 k0 k1 k2 k3 k4 k5 r3 tw Gk Gr Bk Br pr3
              have HB := HB1
              clear HB1
              have Bk := Ck
              clear Ck
              have Br := Cr
              clear Cr
              have hc1 := (q1.cell hb).trans hc
              have hb1 : b2 < q1.w.heap.size := Nat.lt_of_lt_of_le hb q1.b.size
              have HBW1 := hidK (HBW.out.trans (q1.b.mono HBW.out.size))
              clear hc hb HBW
              by_cases hg : ∃ (i : Nat) (x : Xd), c.xs[i]? = some x ∧ x.n = t
              rotate_left
              · have HG := hidK hg
                clear hg
                have Gk : Hid (q1.w.heap[w.heap.size]? = some (.cells #[.slice a1 l1 y1, .slice a2 l2 y2, .slice (some ⟨b3, o3, none⟩) l3 y3, .slice a4 l4 y4, .slice (some ⟨b, o, none⟩) l5 y5, .int .i64 c.now] 37 (0, 0))) := Bk.out
                have Gr : Hid (q1.w.heap[gb]? = some (.cells #[.string p.n, .int .i64 p.c, .string p.z, .slice (some ⟨b2, o2, none⟩) vl vc, .string p.d, .int .i64 p.p] 76 (0, 0))) := Br.out
                have HW : Hid (Below w.heap.size w q1.w) := HB.out
                have k0 : ∀ q : Wd q1.w, q.w.cell? ⟨w.heap.size, 0, none⟩ = some (.slice a1 l1 y1) := fun q => q.slot Gk.out rfl
                have k1 : ∀ q : Wd q1.w, q.w.cell? ⟨w.heap.size, 1, none⟩ = some (.slice a2 l2 y2) := fun q => q.slot Gk.out rfl
                have k2 : ∀ q : Wd q1.w, q.w.cell? ⟨w.heap.size, 2, none⟩ = some (.slice (some ⟨b3, o3, none⟩) l3 y3) := fun q => q.slot Gk.out rfl
                have k3 : ∀ q : Wd q1.w, q.w.cell? ⟨w.heap.size, 3, none⟩ = some (.slice a4 l4 y4) := fun q => q.slot Gk.out rfl
                have k4 : ∀ q : Wd q1.w, q.w.cell? ⟨w.heap.size, 4, none⟩ = some (.slice (some ⟨b, o, none⟩) l5 y5) := fun q => q.slot Gk.out rfl
                have k5 : ∀ q : Wd q1.w, q.w.cell? ⟨w.heap.size, 5, none⟩ = some (.int .i64 c.now) := fun q => q.slot Gk.out rfl
                have r0 : ∀ q : Wd q1.w, q.w.cell? ⟨gb, 0, none⟩ = some (.string p.n) := fun q => q.slot Gr.out rfl
                have r1 : ∀ q : Wd q1.w, q.w.cell? ⟨gb, 1, none⟩ = some (.int .i64 p.c) := fun q => q.slot Gr.out rfl
                have r2 : ∀ q : Wd q1.w, q.w.cell? ⟨gb, 2, none⟩ = some (.string p.z) := fun q => q.slot Gr.out rfl
                have r3 : ∀ q : Wd q1.w, q.w.cell? ⟨gb, 3, none⟩ = some (.slice (some ⟨b2, o2, none⟩) vl vc) := fun q => q.slot Gr.out rfl
                have r4 : ∀ q : Wd q1.w, q.w.cell? ⟨gb, 4, none⟩ = some (.string p.d) := fun q => q.slot Gr.out rfl
                have r5 : ∀ q : Wd q1.w, q.w.cell? ⟨gb, 5, none⟩ = some (.int .i64 p.p) := fun q => q.slot Gr.out rfl
                have tw : ∀ q : Wd q1.w, q.w.cell? ⟨b2, o2 + kq, none⟩ = some (.string t) := fun q => (q.cell (hb1)).trans (hc1)
                have hne0 := Wd.ne q1.w
                have HC0 := hidK (fun q : Wd q1.w => sxxd_miss ⟨a1, l1, y1, a2, l2, y2, (some ⟨b3, o3, none⟩), l3, y3, a4, l4, y4, (some ⟨b, o, none⟩), l5, y5⟩ c.now c.xs t q.w (HR.out.x.below (HW.out.trans (q.b.mono HW.out.size))) (fun i x h1 h2 => HG.out ⟨i, x, h1, h2⟩))
                go_wp2_with fail
                refine wp_region_wide (by kernel_rfl) (by kernel_rfl) ?_
                repeat (go_big_quiet_step (first | (go_at_call 113; exact Calls.wide (HC0.out _)) | fail))
                refine wpQuiet_nil ?_
                rintro _ ⟨q2, rfl⟩
                have HB2 := hidK (HW.out.trans (q2.b.mono HW.out.size))
                have Ck := hidK ((q2.b.block _ (lt_of_some Gk.out)).trans Gk.out)
                have Cr := hidK ((q2.b.block _ (lt_of_some Gr.out)).trans Gr.out)
                clear hne0 HW HB HC0 k0 k1 k2 k3 k4 k5 r0 r1 r2 r3 r4 r5 tw Gk Gr Bk Br hc1 hb1
                have HB := HB2
                clear HB2
                have Bk := Ck
                clear Ck
                have Br := Cr
                clear Cr
                go_wp2
                go_ret
                refine BoolB.f (fun h => ?_) HB.out
                have h9 := (h.1 k p HXp.out).2.1 kq t HXt.out
                exact HG.out h9.1
              obtain ⟨i4, x4, g1, g2⟩ := hg
              have HG1 := hidK g1
              have HG2 := hidK g2
              have hi41 : decide ((i4 : Int) < 0) = false := by simp
              clear g1 g2
              have Gk : Hid (q1.w.heap[w.heap.size]? = some (.cells #[.slice a1 l1 y1, .slice a2 l2 y2, .slice (some ⟨b3, o3, none⟩) l3 y3, .slice a4 l4 y4, .slice (some ⟨b, o, none⟩) l5 y5, .int .i64 c.now] 37 (0, 0))) := Bk.out
              have Gr : Hid (q1.w.heap[gb]? = some (.cells #[.string p.n, .int .i64 p.c, .string p.z, .slice (some ⟨b2, o2, none⟩) vl vc, .string p.d, .int .i64 p.p] 76 (0, 0))) := Br.out
              have HW : Hid (Below w.heap.size w q1.w) := HB.out
              have k0 : ∀ q : Wd q1.w, q.w.cell? ⟨w.heap.size, 0, none⟩ = some (.slice a1 l1 y1) := fun q => q.slot Gk.out rfl
              have k1 : ∀ q : Wd q1.w, q.w.cell? ⟨w.heap.size, 1, none⟩ = some (.slice a2 l2 y2) := fun q => q.slot Gk.out rfl
              have k2 : ∀ q : Wd q1.w, q.w.cell? ⟨w.heap.size, 2, none⟩ = some (.slice (some ⟨b3, o3, none⟩) l3 y3) := fun q => q.slot Gk.out rfl
              have k3 : ∀ q : Wd q1.w, q.w.cell? ⟨w.heap.size, 3, none⟩ = some (.slice a4 l4 y4) := fun q => q.slot Gk.out rfl
              have k4 : ∀ q : Wd q1.w, q.w.cell? ⟨w.heap.size, 4, none⟩ = some (.slice (some ⟨b, o, none⟩) l5 y5) := fun q => q.slot Gk.out rfl
              have k5 : ∀ q : Wd q1.w, q.w.cell? ⟨w.heap.size, 5, none⟩ = some (.int .i64 c.now) := fun q => q.slot Gk.out rfl
              have r0 : ∀ q : Wd q1.w, q.w.cell? ⟨gb, 0, none⟩ = some (.string p.n) := fun q => q.slot Gr.out rfl
              have r1 : ∀ q : Wd q1.w, q.w.cell? ⟨gb, 1, none⟩ = some (.int .i64 p.c) := fun q => q.slot Gr.out rfl
              have r2 : ∀ q : Wd q1.w, q.w.cell? ⟨gb, 2, none⟩ = some (.string p.z) := fun q => q.slot Gr.out rfl
              have r3 : ∀ q : Wd q1.w, q.w.cell? ⟨gb, 3, none⟩ = some (.slice (some ⟨b2, o2, none⟩) vl vc) := fun q => q.slot Gr.out rfl
              have r4 : ∀ q : Wd q1.w, q.w.cell? ⟨gb, 4, none⟩ = some (.string p.d) := fun q => q.slot Gr.out rfl
              have r5 : ∀ q : Wd q1.w, q.w.cell? ⟨gb, 5, none⟩ = some (.int .i64 p.p) := fun q => q.slot Gr.out rfl
              have tw : ∀ q : Wd q1.w, q.w.cell? ⟨b2, o2 + kq, none⟩ = some (.string t) := fun q => (q.cell (hb1)).trans (hc1)
              have hne0 := Wd.ne q1.w
              have HC0 := hidK (fun q : Wd q1.w => sxxd_hit ⟨a1, l1, y1, a2, l2, y2, (some ⟨b3, o3, none⟩), l3, y3, a4, l4, y4, (some ⟨b, o, none⟩), l5, y5⟩ c.now c.xs t q.w (HR.out.x.below (HW.out.trans (q.b.mono HW.out.size))) HX.out HG1.out HG2.out)
              go_wp2_with fail
              refine wp_region_wide (by kernel_rfl) (by kernel_rfl) ?_
              repeat (go_big_quiet_step (first | (go_at_call 113; exact Calls.wide (HC0.out _)) | fail))
              refine wpQuiet_nil ?_
              rintro _ ⟨q2, rfl⟩
              have HB2 := hidK (HW.out.trans (q2.b.mono HW.out.size))
              have Ck := hidK ((q2.b.block _ (lt_of_some Gk.out)).trans Gk.out)
              have Cr := hidK ((q2.b.block _ (lt_of_some Gr.out)).trans Gr.out)
              clear hne0 HW HB HC0 k0 k1 k2 k3 k4 k5 r0 r1 r2 r3 r4 r5 tw Gk Gr Bk Br hc1 hb1
              have HB := HB2
              clear HB2
              have Bk := Ck
              clear Ck
              have Br := Cr
              clear Cr
              go_wp2_with fail
              refine ⟨⟨kq + 1, by omega, by go_num, fun j s hj hs => ?_, HBW1.out.trans (q2.b.mono HBW1.out.size)⟩, by simp [intOf]; omega⟩
              by_cases e : j = kq
              · subst e
                rw [HXt.out] at hs
                obtain rfl := Option.some.inj hs
                exact ⟨⟨i4, x4, HG1.out, HG2.out⟩, .inl HEm.out⟩
              · exact HQ2.out j s (by omega) hs
            · have HD := hidK hbd
              clear hbd
              have Gk : Hid (wr.heap[w.heap.size]? = some (.cells #[.slice a1 l1 y1, .slice a2 l2 y2, .slice a3 l3 y3, .slice a4 l4 y4, .slice (some ⟨b, o, none⟩) l5 y5, .int .i64 c.now] 37 (0, 0))) := Bk.out
              have Gr : Hid (wr.heap[gb]? = some (.cells #[.string p.n, .int .i64 p.c, .string p.z, .slice (some ⟨b2, o2, none⟩) vl vc, .string p.d, .int .i64 p.p] 76 (0, 0))) := Br.out
              have HW : Hid (Below w.heap.size w wr) := HB.out
              have k0 : ∀ q : Wd wr, q.w.cell? ⟨w.heap.size, 0, none⟩ = some (.slice a1 l1 y1) := fun q => q.slot Gk.out rfl
              have k1 : ∀ q : Wd wr, q.w.cell? ⟨w.heap.size, 1, none⟩ = some (.slice a2 l2 y2) := fun q => q.slot Gk.out rfl
              have k2 : ∀ q : Wd wr, q.w.cell? ⟨w.heap.size, 2, none⟩ = some (.slice a3 l3 y3) := fun q => q.slot Gk.out rfl
              have k3 : ∀ q : Wd wr, q.w.cell? ⟨w.heap.size, 3, none⟩ = some (.slice a4 l4 y4) := fun q => q.slot Gk.out rfl
              have k4 : ∀ q : Wd wr, q.w.cell? ⟨w.heap.size, 4, none⟩ = some (.slice (some ⟨b, o, none⟩) l5 y5) := fun q => q.slot Gk.out rfl
              have k5 : ∀ q : Wd wr, q.w.cell? ⟨w.heap.size, 5, none⟩ = some (.int .i64 c.now) := fun q => q.slot Gk.out rfl
              have r3 : ∀ q : Wd wr, q.w.cell? ⟨gb, 3, none⟩ = some (.slice (some ⟨b2, o2, none⟩) vl vc) := fun q => q.slot Gr.out rfl
              have tw : ∀ q : Wd wr, q.w.cell? ⟨b2, o2 + kq, none⟩ = some (.string t) := fun q => (q.cell (hb)).trans (hc)
              have hne0 := Wd.ne wr
              have HC0 := hidK (fun q : Wd wr => sbind_miss ⟨a1, l1, y1, a2, l2, y2, a3, l3, y3, a4, l4, y4, (some ⟨b, o, none⟩), l5, y5⟩ c t q.w (HR.out.below (HW.out.trans (q.b.mono HW.out.size))) HX.out HV.out HNE.out HD.out)
              go_wp2_with fail
              refine wp_region_wide (by kernel_rfl) (by kernel_rfl) ?_
              repeat (go_big_quiet_step (first | (go_at_call 128; exact Calls.wide (HC0.out _)) | fail))
              refine wpQuiet_nil ?_
              rintro _ ⟨q1, rfl⟩
              have HB1 := hidK (HW.out.trans (q1.b.mono HW.out.size))
              have Ck := hidK ((q1.b.block _ (lt_of_some Gk.out)).trans Gk.out)
              have Cr := hidK ((q1.b.block _ (lt_of_some Gr.out)).trans Gr.out)
              clear hne0 HW HB HC0 k0 k1 k2 k3 k4 k5 r3 tw Gk Gr Bk Br pr3
              have HB := HB1
              clear HB1
              have Bk := Ck
              clear Ck
              have Br := Cr
              clear Cr
              have hc1 := (q1.cell hb).trans hc
              have hb1 : b2 < q1.w.heap.size := Nat.lt_of_lt_of_le hb q1.b.size
              have HBW1 := hidK (HBW.out.trans (q1.b.mono HBW.out.size))
              clear hc hb HBW
              by_cases hg : ∃ (i : Nat) (x : Xd), c.xs[i]? = some x ∧ x.n = t
              rotate_left
              · have HG := hidK hg
                clear hg
                have Gk : Hid (q1.w.heap[w.heap.size]? = some (.cells #[.slice a1 l1 y1, .slice a2 l2 y2, .slice a3 l3 y3, .slice a4 l4 y4, .slice (some ⟨b, o, none⟩) l5 y5, .int .i64 c.now] 37 (0, 0))) := Bk.out
                have Gr : Hid (q1.w.heap[gb]? = some (.cells #[.string p.n, .int .i64 p.c, .string p.z, .slice (some ⟨b2, o2, none⟩) vl vc, .string p.d, .int .i64 p.p] 76 (0, 0))) := Br.out
                have HW : Hid (Below w.heap.size w q1.w) := HB.out
                have k0 : ∀ q : Wd q1.w, q.w.cell? ⟨w.heap.size, 0, none⟩ = some (.slice a1 l1 y1) := fun q => q.slot Gk.out rfl
                have k1 : ∀ q : Wd q1.w, q.w.cell? ⟨w.heap.size, 1, none⟩ = some (.slice a2 l2 y2) := fun q => q.slot Gk.out rfl
                have k2 : ∀ q : Wd q1.w, q.w.cell? ⟨w.heap.size, 2, none⟩ = some (.slice a3 l3 y3) := fun q => q.slot Gk.out rfl
                have k3 : ∀ q : Wd q1.w, q.w.cell? ⟨w.heap.size, 3, none⟩ = some (.slice a4 l4 y4) := fun q => q.slot Gk.out rfl
                have k4 : ∀ q : Wd q1.w, q.w.cell? ⟨w.heap.size, 4, none⟩ = some (.slice (some ⟨b, o, none⟩) l5 y5) := fun q => q.slot Gk.out rfl
                have k5 : ∀ q : Wd q1.w, q.w.cell? ⟨w.heap.size, 5, none⟩ = some (.int .i64 c.now) := fun q => q.slot Gk.out rfl
                have r0 : ∀ q : Wd q1.w, q.w.cell? ⟨gb, 0, none⟩ = some (.string p.n) := fun q => q.slot Gr.out rfl
                have r1 : ∀ q : Wd q1.w, q.w.cell? ⟨gb, 1, none⟩ = some (.int .i64 p.c) := fun q => q.slot Gr.out rfl
                have r2 : ∀ q : Wd q1.w, q.w.cell? ⟨gb, 2, none⟩ = some (.string p.z) := fun q => q.slot Gr.out rfl
                have r3 : ∀ q : Wd q1.w, q.w.cell? ⟨gb, 3, none⟩ = some (.slice (some ⟨b2, o2, none⟩) vl vc) := fun q => q.slot Gr.out rfl
                have r4 : ∀ q : Wd q1.w, q.w.cell? ⟨gb, 4, none⟩ = some (.string p.d) := fun q => q.slot Gr.out rfl
                have r5 : ∀ q : Wd q1.w, q.w.cell? ⟨gb, 5, none⟩ = some (.int .i64 p.p) := fun q => q.slot Gr.out rfl
                have tw : ∀ q : Wd q1.w, q.w.cell? ⟨b2, o2 + kq, none⟩ = some (.string t) := fun q => (q.cell (hb1)).trans (hc1)
                have hne0 := Wd.ne q1.w
                have HC0 := hidK (fun q : Wd q1.w => sxxd_miss ⟨a1, l1, y1, a2, l2, y2, a3, l3, y3, a4, l4, y4, (some ⟨b, o, none⟩), l5, y5⟩ c.now c.xs t q.w (HR.out.x.below (HW.out.trans (q.b.mono HW.out.size))) (fun i x h1 h2 => HG.out ⟨i, x, h1, h2⟩))
                go_wp2_with fail
                refine wp_region_wide (by kernel_rfl) (by kernel_rfl) ?_
                repeat (go_big_quiet_step (first | (go_at_call 113; exact Calls.wide (HC0.out _)) | fail))
                refine wpQuiet_nil ?_
                rintro _ ⟨q2, rfl⟩
                have HB2 := hidK (HW.out.trans (q2.b.mono HW.out.size))
                have Ck := hidK ((q2.b.block _ (lt_of_some Gk.out)).trans Gk.out)
                have Cr := hidK ((q2.b.block _ (lt_of_some Gr.out)).trans Gr.out)
                clear hne0 HW HB HC0 k0 k1 k2 k3 k4 k5 r0 r1 r2 r3 r4 r5 tw Gk Gr Bk Br hc1 hb1
                have HB := HB2
                clear HB2
                have Bk := Ck
                clear Ck
                have Br := Cr
                clear Cr
                go_wp2
                go_ret
                refine BoolB.f (fun h => ?_) HB.out
                have h9 := (h.1 k p HXp.out).2.1 kq t HXt.out
                exact HG.out h9.1
              obtain ⟨i4, x4, g1, g2⟩ := hg
              have HG1 := hidK g1
              have HG2 := hidK g2
              have hi41 : decide ((i4 : Int) < 0) = false := by simp
              clear g1 g2
              have Gk : Hid (q1.w.heap[w.heap.size]? = some (.cells #[.slice a1 l1 y1, .slice a2 l2 y2, .slice a3 l3 y3, .slice a4 l4 y4, .slice (some ⟨b, o, none⟩) l5 y5, .int .i64 c.now] 37 (0, 0))) := Bk.out
              have Gr : Hid (q1.w.heap[gb]? = some (.cells #[.string p.n, .int .i64 p.c, .string p.z, .slice (some ⟨b2, o2, none⟩) vl vc, .string p.d, .int .i64 p.p] 76 (0, 0))) := Br.out
              have HW : Hid (Below w.heap.size w q1.w) := HB.out
              have k0 : ∀ q : Wd q1.w, q.w.cell? ⟨w.heap.size, 0, none⟩ = some (.slice a1 l1 y1) := fun q => q.slot Gk.out rfl
              have k1 : ∀ q : Wd q1.w, q.w.cell? ⟨w.heap.size, 1, none⟩ = some (.slice a2 l2 y2) := fun q => q.slot Gk.out rfl
              have k2 : ∀ q : Wd q1.w, q.w.cell? ⟨w.heap.size, 2, none⟩ = some (.slice a3 l3 y3) := fun q => q.slot Gk.out rfl
              have k3 : ∀ q : Wd q1.w, q.w.cell? ⟨w.heap.size, 3, none⟩ = some (.slice a4 l4 y4) := fun q => q.slot Gk.out rfl
              have k4 : ∀ q : Wd q1.w, q.w.cell? ⟨w.heap.size, 4, none⟩ = some (.slice (some ⟨b, o, none⟩) l5 y5) := fun q => q.slot Gk.out rfl
              have k5 : ∀ q : Wd q1.w, q.w.cell? ⟨w.heap.size, 5, none⟩ = some (.int .i64 c.now) := fun q => q.slot Gk.out rfl
              have r0 : ∀ q : Wd q1.w, q.w.cell? ⟨gb, 0, none⟩ = some (.string p.n) := fun q => q.slot Gr.out rfl
              have r1 : ∀ q : Wd q1.w, q.w.cell? ⟨gb, 1, none⟩ = some (.int .i64 p.c) := fun q => q.slot Gr.out rfl
              have r2 : ∀ q : Wd q1.w, q.w.cell? ⟨gb, 2, none⟩ = some (.string p.z) := fun q => q.slot Gr.out rfl
              have r3 : ∀ q : Wd q1.w, q.w.cell? ⟨gb, 3, none⟩ = some (.slice (some ⟨b2, o2, none⟩) vl vc) := fun q => q.slot Gr.out rfl
              have r4 : ∀ q : Wd q1.w, q.w.cell? ⟨gb, 4, none⟩ = some (.string p.d) := fun q => q.slot Gr.out rfl
              have r5 : ∀ q : Wd q1.w, q.w.cell? ⟨gb, 5, none⟩ = some (.int .i64 p.p) := fun q => q.slot Gr.out rfl
              have tw : ∀ q : Wd q1.w, q.w.cell? ⟨b2, o2 + kq, none⟩ = some (.string t) := fun q => (q.cell (hb1)).trans (hc1)
              have hne0 := Wd.ne q1.w
              have HC0 := hidK (fun q : Wd q1.w => sxxd_hit ⟨a1, l1, y1, a2, l2, y2, a3, l3, y3, a4, l4, y4, (some ⟨b, o, none⟩), l5, y5⟩ c.now c.xs t q.w (HR.out.x.below (HW.out.trans (q.b.mono HW.out.size))) HX.out HG1.out HG2.out)
              go_wp2_with fail
              refine wp_region_wide (by kernel_rfl) (by kernel_rfl) ?_
              repeat (go_big_quiet_step (first | (go_at_call 113; exact Calls.wide (HC0.out _)) | fail))
              refine wpQuiet_nil ?_
              rintro _ ⟨q2, rfl⟩
              have HB2 := hidK (HW.out.trans (q2.b.mono HW.out.size))
              have Ck := hidK ((q2.b.block _ (lt_of_some Gk.out)).trans Gk.out)
              have Cr := hidK ((q2.b.block _ (lt_of_some Gr.out)).trans Gr.out)
              clear hne0 HW HB HC0 k0 k1 k2 k3 k4 k5 r0 r1 r2 r3 r4 r5 tw Gk Gr Bk Br hc1 hb1
              have HB := HB2
              clear HB2
              have Bk := Ck
              clear Ck
              have Br := Cr
              clear Cr
              go_wp2_with fail
              refine ⟨⟨kq + 1, by omega, by go_num, fun j s hj hs => ?_, HBW1.out.trans (q2.b.mono HBW1.out.size)⟩, by simp [intOf]; omega⟩
              by_cases e : j = kq
              · subst e
                rw [HXt.out] at hs
                obtain rfl := Option.some.inj hs
                exact ⟨⟨i4, x4, HG1.out, HG2.out⟩, .inl HEm.out⟩
              · exact HQ2.out j s (by omega) hs
          · obtain rfl : vl = kq := by omega
            have HQb : Hid (PSb c p) := fun j t ht => HQ2.out j t (by have h1 := (List.getElem?_eq_some_iff.1 ht).1; have h2 := HVL.out; omega) ht
            clear HQ2
            have TV2 := hidK (TV.out.below HBW.out)
            have KV2 := Bk
            have GV2 := Br
            have BV2 := HB
            clear KV GV BV TV Bk Br HB HBW
            obtain ⟨W2, hW⟩ : ∃ W2, W2 = wr := ⟨_, rfl⟩
            rw [← hW] at KV2 GV2 BV2 TV2
            go_wp2
            clear pr3
            rw [← hW]
            clear hW
            go_loopw [8] (fun i wr => ∃ kz : Nat, kz ≤ k ∧ i = .int .i64 kz ∧ Hid (∀ (j : Nat) q, j < kz → c.ps[j]? = some q → PairS c q p) ∧ Hid (Below W2.heap.size W2 wr)) (fun i _ => k - (intOf i).toNat)
            case atStart => exact ⟨0, by omega, rfl, fun _ _ h => absurd h (by omega), Below.refl _ _⟩
            case round =>
              obtain ⟨kz, hkz, rfl, HQ3, HBW⟩ := hrel
              have HB := hidK (BV2.out.trans (HBW.out.mono BV2.out.size))
              have Bk := hidK ((HBW.out.block _ (lt_of_some KV2.out)).trans KV2.out)
              have Br := hidK ((HBW.out.block _ (lt_of_some GV2.out)).trans GV2.out)
              have HTp := hidK (TV2.out.below HBW.out)
              by_cases hlt3 : kz < k
              · obtain ⟨b', o', pq, e', hb', hqq, hatq⟩ := pd_at (HR.out.p.below HB.out) (show kz < l5 by omega)
                cases e'
                obtain ⟨qa, ql, qc, hqr, z0, z2, z4, d0, d1, d2, d3, d4, d5⟩ := pd_cells hatq
                have HXq := hidK hqq
                have HTq := hidK hqr
                clear hatq hqq hqr z0 z2 z4
                by_cases hpr : PairS c pq p
                · have HPr := hidK hpr
                  clear hpr
                  have Gk : Hid (wr.heap[w.heap.size]? = some (.cells #[.slice a1 l1 y1, .slice a2 l2 y2, .slice a3 l3 y3, .slice a4 l4 y4, .slice (some ⟨b, o, none⟩) l5 y5, .int .i64 c.now] 37 (0, 0))) := Bk.out
                  have Gr : Hid (wr.heap[gb]? = some (.cells #[.string p.n, .int .i64 p.c, .string p.z, .slice va vl vc, .string p.d, .int .i64 p.p] 76 (0, 0))) := Br.out
                  have HW : Hid (Below w.heap.size w wr) := HB.out
                  have k0 : ∀ q : Wd wr, q.w.cell? ⟨w.heap.size, 0, none⟩ = some (.slice a1 l1 y1) := fun q => q.slot Gk.out rfl
                  have k1 : ∀ q : Wd wr, q.w.cell? ⟨w.heap.size, 1, none⟩ = some (.slice a2 l2 y2) := fun q => q.slot Gk.out rfl
                  have k2 : ∀ q : Wd wr, q.w.cell? ⟨w.heap.size, 2, none⟩ = some (.slice a3 l3 y3) := fun q => q.slot Gk.out rfl
                  have k3 : ∀ q : Wd wr, q.w.cell? ⟨w.heap.size, 3, none⟩ = some (.slice a4 l4 y4) := fun q => q.slot Gk.out rfl
                  have k4 : ∀ q : Wd wr, q.w.cell? ⟨w.heap.size, 4, none⟩ = some (.slice (some ⟨b, o, none⟩) l5 y5) := fun q => q.slot Gk.out rfl
                  have k5 : ∀ q : Wd wr, q.w.cell? ⟨w.heap.size, 5, none⟩ = some (.int .i64 c.now) := fun q => q.slot Gk.out rfl
                  have r0 : ∀ q : Wd wr, q.w.cell? ⟨gb, 0, none⟩ = some (.string p.n) := fun q => q.slot Gr.out rfl
                  have r1 : ∀ q : Wd wr, q.w.cell? ⟨gb, 1, none⟩ = some (.int .i64 p.c) := fun q => q.slot Gr.out rfl
                  have r2 : ∀ q : Wd wr, q.w.cell? ⟨gb, 2, none⟩ = some (.string p.z) := fun q => q.slot Gr.out rfl
                  have r3 : ∀ q : Wd wr, q.w.cell? ⟨gb, 3, none⟩ = some (.slice va vl vc) := fun q => q.slot Gr.out rfl
                  have r4 : ∀ q : Wd wr, q.w.cell? ⟨gb, 4, none⟩ = some (.string p.d) := fun q => q.slot Gr.out rfl
                  have r5 : ∀ q : Wd wr, q.w.cell? ⟨gb, 5, none⟩ = some (.int .i64 p.p) := fun q => q.slot Gr.out rfl
                  have q0 : ∀ q : Wd wr, q.w.cell? ⟨b, o + kz * 6, none⟩ = some (.string pq.n) := fun q => (q.cell (hb')).trans (d0)
                  have q1 : ∀ q : Wd wr, q.w.cell? ⟨b, o + kz * 6 + 1, none⟩ = some (.int .i64 pq.c) := fun q => (q.cell (hb')).trans (d1)
                  have q2 : ∀ q : Wd wr, q.w.cell? ⟨b, o + kz * 6 + 2, none⟩ = some (.string pq.z) := fun q => (q.cell (hb')).trans (d2)
                  have q3 : ∀ q : Wd wr, q.w.cell? ⟨b, o + kz * 6 + 3, none⟩ = some (.slice qa ql qc) := fun q => (q.cell (hb')).trans (d3)
                  have q4 : ∀ q : Wd wr, q.w.cell? ⟨b, o + kz * 6 + 4, none⟩ = some (.string pq.d) := fun q => (q.cell (hb')).trans (d4)
                  have q5 : ∀ q : Wd wr, q.w.cell? ⟨b, o + kz * 6 + 5, none⟩ = some (.int .i64 pq.p) := fun q => (q.cell (hb')).trans (d5)
                  have hne0 := Wd.ne wr
                  have HC0 := hidK (fun qw : Wd wr => (spair_any ⟨a1, l1, y1, a2, l2, y2, a3, l3, y3, a4, l4, y4, (some ⟨b, o, none⟩), l5, y5⟩ c pq p qa ql qc va vl vc qw.w (HR.out.below (HW.out.trans (qw.b.mono HW.out.size))) HX.out HV.out HNE.out (HTq.out.below qw.b) (HTp.out.below qw.b)).mono (fun _ _ h => BoolB.yes h HPr.out))
                  go_wp2_with fail
                  refine wp_region_wide (by kernel_rfl) (by kernel_rfl) ?_
                  repeat (go_big_quiet_step (first | (go_at_call 140; exact Calls.wide (HC0.out _)) | fail))
                  refine wpQuiet_nil ?_
                  rintro _ ⟨q9, rfl⟩
                  have HB1 := hidK (HW.out.trans (q9.b.mono HW.out.size))
                  have Ck := hidK ((q9.b.block _ (lt_of_some Gk.out)).trans Gk.out)
                  have Cr := hidK ((q9.b.block _ (lt_of_some Gr.out)).trans Gr.out)
                  clear hne0 HW HB HC0 k0 k1 k2 k3 k4 k5 r0 r1 r2 r3 r4 r5 q0 q1 q2 q3 q4 q5 Gk Gr Bk Br d0 d1 d2 d3 d4 d5
                  have HB := HB1
                  clear HB1
                  have Bk := Ck
                  clear Ck
                  have Br := Cr
                  clear Cr
                  go_wp2_with fail
                  refine ⟨⟨kz + 1, by omega, by go_num, fun j s hj hs => ?_, HBW.out.trans (q9.b.mono HBW.out.size)⟩, by simp [intOf]; omega⟩
                  by_cases e : j = kz
                  · subst e
                    rw [HXq.out] at hs
                    obtain rfl := Option.some.inj hs
                    exact HPr.out
                  · exact HQ3.out j s (by omega) hs
                · have HPr := hidK hpr
                  clear hpr
                  have Gk : Hid (wr.heap[w.heap.size]? = some (.cells #[.slice a1 l1 y1, .slice a2 l2 y2, .slice a3 l3 y3, .slice a4 l4 y4, .slice (some ⟨b, o, none⟩) l5 y5, .int .i64 c.now] 37 (0, 0))) := Bk.out
                  have Gr : Hid (wr.heap[gb]? = some (.cells #[.string p.n, .int .i64 p.c, .string p.z, .slice va vl vc, .string p.d, .int .i64 p.p] 76 (0, 0))) := Br.out
                  have HW : Hid (Below w.heap.size w wr) := HB.out
                  have k0 : ∀ q : Wd wr, q.w.cell? ⟨w.heap.size, 0, none⟩ = some (.slice a1 l1 y1) := fun q => q.slot Gk.out rfl
                  have k1 : ∀ q : Wd wr, q.w.cell? ⟨w.heap.size, 1, none⟩ = some (.slice a2 l2 y2) := fun q => q.slot Gk.out rfl
                  have k2 : ∀ q : Wd wr, q.w.cell? ⟨w.heap.size, 2, none⟩ = some (.slice a3 l3 y3) := fun q => q.slot Gk.out rfl
                  have k3 : ∀ q : Wd wr, q.w.cell? ⟨w.heap.size, 3, none⟩ = some (.slice a4 l4 y4) := fun q => q.slot Gk.out rfl
                  have k4 : ∀ q : Wd wr, q.w.cell? ⟨w.heap.size, 4, none⟩ = some (.slice (some ⟨b, o, none⟩) l5 y5) := fun q => q.slot Gk.out rfl
                  have k5 : ∀ q : Wd wr, q.w.cell? ⟨w.heap.size, 5, none⟩ = some (.int .i64 c.now) := fun q => q.slot Gk.out rfl
                  have r0 : ∀ q : Wd wr, q.w.cell? ⟨gb, 0, none⟩ = some (.string p.n) := fun q => q.slot Gr.out rfl
                  have r1 : ∀ q : Wd wr, q.w.cell? ⟨gb, 1, none⟩ = some (.int .i64 p.c) := fun q => q.slot Gr.out rfl
                  have r2 : ∀ q : Wd wr, q.w.cell? ⟨gb, 2, none⟩ = some (.string p.z) := fun q => q.slot Gr.out rfl
                  have r3 : ∀ q : Wd wr, q.w.cell? ⟨gb, 3, none⟩ = some (.slice va vl vc) := fun q => q.slot Gr.out rfl
                  have r4 : ∀ q : Wd wr, q.w.cell? ⟨gb, 4, none⟩ = some (.string p.d) := fun q => q.slot Gr.out rfl
                  have r5 : ∀ q : Wd wr, q.w.cell? ⟨gb, 5, none⟩ = some (.int .i64 p.p) := fun q => q.slot Gr.out rfl
                  have q0 : ∀ q : Wd wr, q.w.cell? ⟨b, o + kz * 6, none⟩ = some (.string pq.n) := fun q => (q.cell (hb')).trans (d0)
                  have q1 : ∀ q : Wd wr, q.w.cell? ⟨b, o + kz * 6 + 1, none⟩ = some (.int .i64 pq.c) := fun q => (q.cell (hb')).trans (d1)
                  have q2 : ∀ q : Wd wr, q.w.cell? ⟨b, o + kz * 6 + 2, none⟩ = some (.string pq.z) := fun q => (q.cell (hb')).trans (d2)
                  have q3 : ∀ q : Wd wr, q.w.cell? ⟨b, o + kz * 6 + 3, none⟩ = some (.slice qa ql qc) := fun q => (q.cell (hb')).trans (d3)
                  have q4 : ∀ q : Wd wr, q.w.cell? ⟨b, o + kz * 6 + 4, none⟩ = some (.string pq.d) := fun q => (q.cell (hb')).trans (d4)
                  have q5 : ∀ q : Wd wr, q.w.cell? ⟨b, o + kz * 6 + 5, none⟩ = some (.int .i64 pq.p) := fun q => (q.cell (hb')).trans (d5)
                  have hne0 := Wd.ne wr
                  have HC0 := hidK (fun qw : Wd wr => (spair_any ⟨a1, l1, y1, a2, l2, y2, a3, l3, y3, a4, l4, y4, (some ⟨b, o, none⟩), l5, y5⟩ c pq p qa ql qc va vl vc qw.w (HR.out.below (HW.out.trans (qw.b.mono HW.out.size))) HX.out HV.out HNE.out (HTq.out.below qw.b) (HTp.out.below qw.b)).mono (fun _ _ h => BoolB.no h HPr.out))
                  go_wp2_with fail
                  refine wp_region_wide (by kernel_rfl) (by kernel_rfl) ?_
                  repeat (go_big_quiet_step (first | (go_at_call 140; exact Calls.wide (HC0.out _)) | fail))
                  refine wpQuiet_nil ?_
                  rintro _ ⟨q9, rfl⟩
                  have HB1 := hidK (HW.out.trans (q9.b.mono HW.out.size))
                  have Ck := hidK ((q9.b.block _ (lt_of_some Gk.out)).trans Gk.out)
                  have Cr := hidK ((q9.b.block _ (lt_of_some Gr.out)).trans Gr.out)
                  clear hne0 HW HB HC0 k0 k1 k2 k3 k4 k5 r0 r1 r2 r3 r4 r5 q0 q1 q2 q3 q4 q5 Gk Gr Bk Br d0 d1 d2 d3 d4 d5
                  have HB := HB1
                  clear HB1
                  have Bk := Ck
                  clear Ck
                  have Br := Cr
                  clear Cr
                  go_wp2
                  go_ret
                  exact BoolB.f (fun h => HPr.out ((h.1 k p HXp.out).2.2 kz pq hlt3 HXq.out)) HB.out
              · obtain rfl : k = kz := by omega
                go_wp2_with fail
                refine ⟨⟨k + 1, by omega, by go_num, fun j z hj hz => ?_, HB.out, Bk.out⟩, by simp [intOf]; omega⟩
                by_cases e : j = k
                · subst e
                  rw [HXp.out] at hz
                  obtain rfl := Option.some.inj hz
                  exact ⟨HPa.out, HQb.out, fun j2 q2 hj2 hq2 => HQ3.out j2 q2 hj2 hq2⟩
                · exact HQ.out j z (by omega) hz
      have hq := isE_no he
      have HEm := hidK he
      clear he
      rcases hf with ⟨j1, n, h1, h2, rfl⟩ | ⟨hh, rfl⟩
      rotate_left
      · have HH := hidK hh
        clear hh
        have Gk : Hid (w1.heap[w.heap.size]? = some (.cells #[.slice a1 l1 y1, .slice a2 l2 y2, .slice a3 l3 y3, .slice a4 l4 y4, .slice (some ⟨b, o, none⟩) l5 y5, .int .i64 c.now] 37 (0, 0))) := Bk.out
        have Gr : Hid (w1.heap[wr.heap.size]? = some (.cells #[.string p.n, .int .i64 p.c, .string p.z, .slice va vl vc, .string p.d, .int .i64 p.p] 76 (0, 0))) := Br.out
        have HW : Hid (Below w.heap.size w w1) := HB.out
        have k0 : ∀ q : Wd w1, q.w.cell? ⟨w.heap.size, 0, none⟩ = some (.slice a1 l1 y1) := fun q => q.slot Gk.out rfl
        have r0 : ∀ q : Wd w1, q.w.cell? ⟨wr.heap.size, 0, none⟩ = some (.string p.n) := fun q => q.slot Gr.out rfl
        have r1 : ∀ q : Wd w1, q.w.cell? ⟨wr.heap.size, 1, none⟩ = some (.int .i64 p.c) := fun q => q.slot Gr.out rfl
        have r2 : ∀ q : Wd w1, q.w.cell? ⟨wr.heap.size, 2, none⟩ = some (.string p.z) := fun q => q.slot Gr.out rfl
        have r3 : ∀ q : Wd w1, q.w.cell? ⟨wr.heap.size, 3, none⟩ = some (.slice va vl vc) := fun q => q.slot Gr.out rfl
        have r4 : ∀ q : Wd w1, q.w.cell? ⟨wr.heap.size, 4, none⟩ = some (.string p.d) := fun q => q.slot Gr.out rfl
        have r5 : ∀ q : Wd w1, q.w.cell? ⟨wr.heap.size, 5, none⟩ = some (.int .i64 p.p) := fun q => q.slot Gr.out rfl
        have hne0 := Wd.ne w1
        go_wp2_with fail
        refine wp_region_wide (by kernel_rfl) (by kernel_rfl) ?_
        repeat (go_big_quiet_step (first | fail))
        refine wpQuiet_nil ?_
        rintro _ ⟨q0, rfl⟩
        have HB2 := hidK (HW.out.trans (q0.b.mono HW.out.size))
        have Ck := hidK ((q0.b.block _ (lt_of_some Gk.out)).trans Gk.out)
        have Cr := hidK ((q0.b.block _ (lt_of_some Gr.out)).trans Gr.out)
        have CHTp := hidK ((HTp.out).below q0.b)
        clear hne0 HW HB k0 r0 r1 r2 r3 r4 r5 Gk Gr Bk Br HTp
        have HB := HB2
        clear HB2
        have HTp := CHTp
        clear CHTp
        have Bk := Ck
        clear Ck
        have Br := Cr
        clear Cr
        go_wp2
        go_ret
        refine BoolB.f (fun h => ?_) HB.out
        rcases (h.1 k p HXp.out).1 with h2 | ⟨i, n, h2, h3, _⟩
        · exact HEm.out h2
        · exact HH.out i n h2 h3
      have hl1' : j1 < l1 := by have h3 := (List.getElem?_eq_some_iff.1 h1).1; omega
      obtain ⟨b1, o1, n', rfl, hb1n, hn', hat⟩ := nd_at HR.out.n hl1'
      rw [h1] at hn'
      obtain rfl := Option.some.inj hn'
      obtain ⟨na, nl, nc, hnr, z0, z1, d0, d1, d2, d3, d4, d5, d6⟩ := nd_cells hat
      have HJn := hidK h1
      have HNn := hidK h2
      have HCn := hidK d1
      have HBn := hidK hb1n
      have hj11 : decide ((j1 : Int) < 0) = false := by simp
      have hbn : b1 < w1.heap.size := Nat.lt_of_lt_of_le hb1n HB.out.size
      have n1 := (cell_below HB.out hb1n).trans d1
      clear hn' hat hnr z0 z1 d0 d1 d2 d3 d4 d5 d6 h1 h2 hb1n
      by_cases hz0 : p.z = ⟨#[]⟩
      · have hq2 := isE_y hz0
        have HPa : Hid (PSa c p) := .inr ⟨j1, n, HJn.out, HNn.out, .inl hz0⟩
        clear hz0
        have Gk : Hid (w1.heap[w.heap.size]? = some (.cells #[.slice (some ⟨b1, o1, none⟩) l1 y1, .slice a2 l2 y2, .slice a3 l3 y3, .slice a4 l4 y4, .slice (some ⟨b, o, none⟩) l5 y5, .int .i64 c.now] 37 (0, 0))) := Bk.out
        have Gr : Hid (w1.heap[wr.heap.size]? = some (.cells #[.string p.n, .int .i64 p.c, .string p.z, .slice va vl vc, .string p.d, .int .i64 p.p] 76 (0, 0))) := Br.out
        have HW : Hid (Below w.heap.size w w1) := HB.out
        have k0 : ∀ q : Wd w1, q.w.cell? ⟨w.heap.size, 0, none⟩ = some (.slice (some ⟨b1, o1, none⟩) l1 y1) := fun q => q.slot Gk.out rfl
        have r0 : ∀ q : Wd w1, q.w.cell? ⟨wr.heap.size, 0, none⟩ = some (.string p.n) := fun q => q.slot Gr.out rfl
        have r1 : ∀ q : Wd w1, q.w.cell? ⟨wr.heap.size, 1, none⟩ = some (.int .i64 p.c) := fun q => q.slot Gr.out rfl
        have r2 : ∀ q : Wd w1, q.w.cell? ⟨wr.heap.size, 2, none⟩ = some (.string p.z) := fun q => q.slot Gr.out rfl
        have r3 : ∀ q : Wd w1, q.w.cell? ⟨wr.heap.size, 3, none⟩ = some (.slice va vl vc) := fun q => q.slot Gr.out rfl
        have r4 : ∀ q : Wd w1, q.w.cell? ⟨wr.heap.size, 4, none⟩ = some (.string p.d) := fun q => q.slot Gr.out rfl
        have r5 : ∀ q : Wd w1, q.w.cell? ⟨wr.heap.size, 5, none⟩ = some (.int .i64 p.p) := fun q => q.slot Gr.out rfl
        have nw : ∀ q : Wd w1, q.w.cell? ⟨b1, o1 + j1 * 7 + 1, none⟩ = some (.string n.z) := fun q => (q.cell (hbn)).trans (n1)
        have hne0 := Wd.ne w1
        go_wp2_with fail
        refine wp_region_wide (by kernel_rfl) (by kernel_rfl) ?_
        repeat (go_big_quiet_step (first | fail))
        refine wpQuiet_nil ?_
        rintro _ ⟨q0, rfl⟩
        have HB2 := hidK (HW.out.trans (q0.b.mono HW.out.size))
        have Ck := hidK ((q0.b.block _ (lt_of_some Gk.out)).trans Gk.out)
        have Cr := hidK ((q0.b.block _ (lt_of_some Gr.out)).trans Gr.out)
        have CHTp := hidK ((HTp.out).below q0.b)
        clear hne0 HW HB k0 r0 r1 r2 r3 r4 r5 nw Gk Gr Bk Br HTp hbn n1
        have HB := HB2
        clear HB2
        have HTp := CHTp
        clear CHTp
        have Bk := Ck
        clear Ck
        have Br := Cr
        clear Cr
        clear hq2
        obtain ⟨gb, hgb⟩ : ∃ gb, gb = wr.heap.size := ⟨_, rfl⟩
        rw [← hgb] at Br
        have pr3 : q0.w.cell? ⟨gb, 3, none⟩ = some (.slice va vl vc) := cellK Br.out 3
        rw [hgb] at pr3
        go_wp2
        rw [← hgb]
        clear pr3 hgb
        have KV := Bk
        have GV := Br
        have BV := HB
        have TV := HTp
        clear Bk Br HB HTp
        obtain ⟨W, hW⟩ : ∃ W, W = q0.w := ⟨_, rfl⟩
        rw [← hW] at KV GV BV TV ⊢
        clear hW
        go_loopw [6] (fun i wr => ∃ kq : Nat, kq ≤ vl ∧ i = .int .i64 kq ∧ Hid (∀ (j : Nat) t, j < kq → p.zs[j]? = some t → PSb1 c p t) ∧ Hid (Below W.heap.size W wr)) (fun i _ => vl - (intOf i).toNat)
        case atStart => exact ⟨0, by omega, rfl, fun _ _ h => absurd h (by omega), Below.refl _ _⟩
        case round =>
          obtain ⟨kq, hkq, rfl, HQ2, HBW⟩ := hrel
          have HB := hidK (BV.out.trans (HBW.out.mono BV.out.size))
          have Bk := hidK ((HBW.out.block _ (lt_of_some KV.out)).trans KV.out)
          have Br := hidK ((HBW.out.block _ (lt_of_some GV.out)).trans GV.out)
          have pr3 : wr.cell? ⟨gb, 3, none⟩ = some (.slice va vl vc) := cellK Br.out 3
          by_cases hlt2 : kq < vl
          · obtain ⟨b2, o2, t, rfl, hb, hxt, hc, hsz⟩ := (TV.out.below HBW.out).at hlt2
            have HXt := hidK hxt
            clear hxt hsz
            have hcase : (∃ v, IsBd c t v) ∨ (∀ v, ¬ IsBd c t v) := by
              by_cases h : ∃ v, IsBd c t v
              · exact .inl h
              · exact .inr (fun v hv => h ⟨v, hv⟩)
            rcases hcase with ⟨v, hbd⟩ | hbd
            · obtain ⟨j3, hj3⟩ := hbd.at
              have hl3' : j3 < l3 := by have h1 := (List.getElem?_eq_some_iff.1 hj3).1; omega
              obtain ⟨b3, o3, v', rfl, hb3, hv', hat⟩ := vd_at HR.out.v hl3'
              rw [hj3] at hv'
              obtain rfl := Option.some.inj hv'
              obtain ⟨xa, xl, xc, hvr, z0, z2, z3, z5, d0, d1, d2, d3, d4, d5, d6, d7⟩ := vd_cells hat
              have HJ := hidK hj3
              have HD := hidK hbd
              have HC2 := hidK d2
              have HB3 := hidK hb3
              have hj31 : decide ((j3 : Int) < 0) = false := by simp
              clear hv' hat hvr z0 z2 z3 z5 d0 d1 d2 d3 d4 d5 d6 d7 hj3 hbd hb3
              have Gk : Hid (wr.heap[w.heap.size]? = some (.cells #[.slice (some ⟨b1, o1, none⟩) l1 y1, .slice a2 l2 y2, .slice (some ⟨b3, o3, none⟩) l3 y3, .slice a4 l4 y4, .slice (some ⟨b, o, none⟩) l5 y5, .int .i64 c.now] 37 (0, 0))) := Bk.out
              have Gr : Hid (wr.heap[gb]? = some (.cells #[.string p.n, .int .i64 p.c, .string p.z, .slice (some ⟨b2, o2, none⟩) vl vc, .string p.d, .int .i64 p.p] 76 (0, 0))) := Br.out
              have HW : Hid (Below w.heap.size w wr) := HB.out
              have k0 : ∀ q : Wd wr, q.w.cell? ⟨w.heap.size, 0, none⟩ = some (.slice (some ⟨b1, o1, none⟩) l1 y1) := fun q => q.slot Gk.out rfl
              have k1 : ∀ q : Wd wr, q.w.cell? ⟨w.heap.size, 1, none⟩ = some (.slice a2 l2 y2) := fun q => q.slot Gk.out rfl
              have k2 : ∀ q : Wd wr, q.w.cell? ⟨w.heap.size, 2, none⟩ = some (.slice (some ⟨b3, o3, none⟩) l3 y3) := fun q => q.slot Gk.out rfl
              have k3 : ∀ q : Wd wr, q.w.cell? ⟨w.heap.size, 3, none⟩ = some (.slice a4 l4 y4) := fun q => q.slot Gk.out rfl
              have k4 : ∀ q : Wd wr, q.w.cell? ⟨w.heap.size, 4, none⟩ = some (.slice (some ⟨b, o, none⟩) l5 y5) := fun q => q.slot Gk.out rfl
              have k5 : ∀ q : Wd wr, q.w.cell? ⟨w.heap.size, 5, none⟩ = some (.int .i64 c.now) := fun q => q.slot Gk.out rfl
              have r3 : ∀ q : Wd wr, q.w.cell? ⟨gb, 3, none⟩ = some (.slice (some ⟨b2, o2, none⟩) vl vc) := fun q => q.slot Gr.out rfl
              have tw : ∀ q : Wd wr, q.w.cell? ⟨b2, o2 + kq, none⟩ = some (.string t) := fun q => (q.cell (hb)).trans (hc)
              have hne0 := Wd.ne wr
              have HC0 := hidK (fun q : Wd wr => sbind_hit ⟨(some ⟨b1, o1, none⟩), l1, y1, a2, l2, y2, (some ⟨b3, o3, none⟩), l3, y3, a4, l4, y4, (some ⟨b, o, none⟩), l5, y5⟩ c t q.w (HR.out.below (HW.out.trans (q.b.mono HW.out.size))) HX.out HV.out HNE.out HJ.out HD.out)
              go_wp2_with fail
              refine wp_region_wide (by kernel_rfl) (by kernel_rfl) ?_
              repeat (go_big_quiet_step (first | (go_at_call 128; exact Calls.wide (HC0.out _)) | fail))
              refine wpQuiet_nil ?_
              rintro _ ⟨q1, rfl⟩
              have HB1 := hidK (HW.out.trans (q1.b.mono HW.out.size))
              have Ck := hidK ((q1.b.block _ (lt_of_some Gk.out)).trans Gk.out)
              have Cr := hidK ((q1.b.block _ (lt_of_some Gr.out)).trans Gr.out)
              clear hne0 HW HB HC0 k0 k1 k2 k3 k4 k5 r3 tw Gk Gr Bk Br pr3
              have HB := HB1
              clear HB1
              have Bk := Ck
              clear Ck
              have Br := Cr
              clear Cr
              have hc1 := (q1.cell hb).trans hc
              have hb1 : b2 < q1.w.heap.size := Nat.lt_of_lt_of_le hb q1.b.size
              have HBW1 := hidK (HBW.out.trans (q1.b.mono HBW.out.size))
              clear hc hb HBW
              by_cases hg : ∃ (i : Nat) (x : Xd), c.xs[i]? = some x ∧ x.n = t
              rotate_left
              · have HG := hidK hg
                clear hg
                have Gk : Hid (q1.w.heap[w.heap.size]? = some (.cells #[.slice (some ⟨b1, o1, none⟩) l1 y1, .slice a2 l2 y2, .slice (some ⟨b3, o3, none⟩) l3 y3, .slice a4 l4 y4, .slice (some ⟨b, o, none⟩) l5 y5, .int .i64 c.now] 37 (0, 0))) := Bk.out
                have Gr : Hid (q1.w.heap[gb]? = some (.cells #[.string p.n, .int .i64 p.c, .string p.z, .slice (some ⟨b2, o2, none⟩) vl vc, .string p.d, .int .i64 p.p] 76 (0, 0))) := Br.out
                have HW : Hid (Below w.heap.size w q1.w) := HB.out
                have k0 : ∀ q : Wd q1.w, q.w.cell? ⟨w.heap.size, 0, none⟩ = some (.slice (some ⟨b1, o1, none⟩) l1 y1) := fun q => q.slot Gk.out rfl
                have k1 : ∀ q : Wd q1.w, q.w.cell? ⟨w.heap.size, 1, none⟩ = some (.slice a2 l2 y2) := fun q => q.slot Gk.out rfl
                have k2 : ∀ q : Wd q1.w, q.w.cell? ⟨w.heap.size, 2, none⟩ = some (.slice (some ⟨b3, o3, none⟩) l3 y3) := fun q => q.slot Gk.out rfl
                have k3 : ∀ q : Wd q1.w, q.w.cell? ⟨w.heap.size, 3, none⟩ = some (.slice a4 l4 y4) := fun q => q.slot Gk.out rfl
                have k4 : ∀ q : Wd q1.w, q.w.cell? ⟨w.heap.size, 4, none⟩ = some (.slice (some ⟨b, o, none⟩) l5 y5) := fun q => q.slot Gk.out rfl
                have k5 : ∀ q : Wd q1.w, q.w.cell? ⟨w.heap.size, 5, none⟩ = some (.int .i64 c.now) := fun q => q.slot Gk.out rfl
                have r0 : ∀ q : Wd q1.w, q.w.cell? ⟨gb, 0, none⟩ = some (.string p.n) := fun q => q.slot Gr.out rfl
                have r1 : ∀ q : Wd q1.w, q.w.cell? ⟨gb, 1, none⟩ = some (.int .i64 p.c) := fun q => q.slot Gr.out rfl
                have r2 : ∀ q : Wd q1.w, q.w.cell? ⟨gb, 2, none⟩ = some (.string p.z) := fun q => q.slot Gr.out rfl
                have r3 : ∀ q : Wd q1.w, q.w.cell? ⟨gb, 3, none⟩ = some (.slice (some ⟨b2, o2, none⟩) vl vc) := fun q => q.slot Gr.out rfl
                have r4 : ∀ q : Wd q1.w, q.w.cell? ⟨gb, 4, none⟩ = some (.string p.d) := fun q => q.slot Gr.out rfl
                have r5 : ∀ q : Wd q1.w, q.w.cell? ⟨gb, 5, none⟩ = some (.int .i64 p.p) := fun q => q.slot Gr.out rfl
                have tw : ∀ q : Wd q1.w, q.w.cell? ⟨b2, o2 + kq, none⟩ = some (.string t) := fun q => (q.cell (hb1)).trans (hc1)
                have hne0 := Wd.ne q1.w
                have HC0 := hidK (fun q : Wd q1.w => sxxd_miss ⟨(some ⟨b1, o1, none⟩), l1, y1, a2, l2, y2, (some ⟨b3, o3, none⟩), l3, y3, a4, l4, y4, (some ⟨b, o, none⟩), l5, y5⟩ c.now c.xs t q.w (HR.out.x.below (HW.out.trans (q.b.mono HW.out.size))) (fun i x h1 h2 => HG.out ⟨i, x, h1, h2⟩))
                go_wp2_with fail
                refine wp_region_wide (by kernel_rfl) (by kernel_rfl) ?_
                repeat (go_big_quiet_step (first | (go_at_call 113; exact Calls.wide (HC0.out _)) | fail))
                refine wpQuiet_nil ?_
                rintro _ ⟨q2, rfl⟩
                have HB2 := hidK (HW.out.trans (q2.b.mono HW.out.size))
                have Ck := hidK ((q2.b.block _ (lt_of_some Gk.out)).trans Gk.out)
                have Cr := hidK ((q2.b.block _ (lt_of_some Gr.out)).trans Gr.out)
                clear hne0 HW HB HC0 k0 k1 k2 k3 k4 k5 r0 r1 r2 r3 r4 r5 tw Gk Gr Bk Br hc1 hb1
                have HB := HB2
                clear HB2
                have Bk := Ck
                clear Ck
                have Br := Cr
                clear Cr
                go_wp2
                go_ret
                refine BoolB.f (fun h => ?_) HB.out
                have h9 := (h.1 k p HXp.out).2.1 kq t HXt.out
                exact HG.out h9.1
              obtain ⟨i4, x4, g1, g2⟩ := hg
              have HG1 := hidK g1
              have HG2 := hidK g2
              have hi41 : decide ((i4 : Int) < 0) = false := by simp
              clear g1 g2
              have hbv : b3 < q1.w.heap.size := Nat.lt_of_lt_of_le HB3.out HB.out.size
              have v2 := (cell_below HB.out HB3.out).trans HC2.out
              have hbn : b1 < q1.w.heap.size := Nat.lt_of_lt_of_le HBn.out HB.out.size
              have n1 := (cell_below HB.out HBn.out).trans HCn.out
              by_cases hz : v.z = n.z
              · have hzq := tl_yes hz
                have HZ := hidK hz
                clear hz
                have Gk : Hid (q1.w.heap[w.heap.size]? = some (.cells #[.slice (some ⟨b1, o1, none⟩) l1 y1, .slice a2 l2 y2, .slice (some ⟨b3, o3, none⟩) l3 y3, .slice a4 l4 y4, .slice (some ⟨b, o, none⟩) l5 y5, .int .i64 c.now] 37 (0, 0))) := Bk.out
                have Gr : Hid (q1.w.heap[gb]? = some (.cells #[.string p.n, .int .i64 p.c, .string p.z, .slice (some ⟨b2, o2, none⟩) vl vc, .string p.d, .int .i64 p.p] 76 (0, 0))) := Br.out
                have HW : Hid (Below w.heap.size w q1.w) := HB.out
                have k0 : ∀ q : Wd q1.w, q.w.cell? ⟨w.heap.size, 0, none⟩ = some (.slice (some ⟨b1, o1, none⟩) l1 y1) := fun q => q.slot Gk.out rfl
                have k1 : ∀ q : Wd q1.w, q.w.cell? ⟨w.heap.size, 1, none⟩ = some (.slice a2 l2 y2) := fun q => q.slot Gk.out rfl
                have k2 : ∀ q : Wd q1.w, q.w.cell? ⟨w.heap.size, 2, none⟩ = some (.slice (some ⟨b3, o3, none⟩) l3 y3) := fun q => q.slot Gk.out rfl
                have k3 : ∀ q : Wd q1.w, q.w.cell? ⟨w.heap.size, 3, none⟩ = some (.slice a4 l4 y4) := fun q => q.slot Gk.out rfl
                have k4 : ∀ q : Wd q1.w, q.w.cell? ⟨w.heap.size, 4, none⟩ = some (.slice (some ⟨b, o, none⟩) l5 y5) := fun q => q.slot Gk.out rfl
                have k5 : ∀ q : Wd q1.w, q.w.cell? ⟨w.heap.size, 5, none⟩ = some (.int .i64 c.now) := fun q => q.slot Gk.out rfl
                have r0 : ∀ q : Wd q1.w, q.w.cell? ⟨gb, 0, none⟩ = some (.string p.n) := fun q => q.slot Gr.out rfl
                have r1 : ∀ q : Wd q1.w, q.w.cell? ⟨gb, 1, none⟩ = some (.int .i64 p.c) := fun q => q.slot Gr.out rfl
                have r2 : ∀ q : Wd q1.w, q.w.cell? ⟨gb, 2, none⟩ = some (.string p.z) := fun q => q.slot Gr.out rfl
                have r3 : ∀ q : Wd q1.w, q.w.cell? ⟨gb, 3, none⟩ = some (.slice (some ⟨b2, o2, none⟩) vl vc) := fun q => q.slot Gr.out rfl
                have r4 : ∀ q : Wd q1.w, q.w.cell? ⟨gb, 4, none⟩ = some (.string p.d) := fun q => q.slot Gr.out rfl
                have r5 : ∀ q : Wd q1.w, q.w.cell? ⟨gb, 5, none⟩ = some (.int .i64 p.p) := fun q => q.slot Gr.out rfl
                have tw : ∀ q : Wd q1.w, q.w.cell? ⟨b2, o2 + kq, none⟩ = some (.string t) := fun q => (q.cell (hb1)).trans (hc1)
                have vw : ∀ q : Wd q1.w, q.w.cell? ⟨b3, o3 + j3 * 8 + 2, none⟩ = some (.string v.z) := fun q => (q.cell (hbv)).trans (v2)
                have nw : ∀ q : Wd q1.w, q.w.cell? ⟨b1, o1 + j1 * 7 + 1, none⟩ = some (.string n.z) := fun q => (q.cell (hbn)).trans (n1)
                have hne0 := Wd.ne q1.w
                have HC0 := hidK (fun q : Wd q1.w => sxxd_hit ⟨(some ⟨b1, o1, none⟩), l1, y1, a2, l2, y2, (some ⟨b3, o3, none⟩), l3, y3, a4, l4, y4, (some ⟨b, o, none⟩), l5, y5⟩ c.now c.xs t q.w (HR.out.x.below (HW.out.trans (q.b.mono HW.out.size))) HX.out HG1.out HG2.out)
                go_wp2_with fail
                refine wp_region_wide (by kernel_rfl) (by kernel_rfl) ?_
                repeat (go_big_quiet_step (first | (go_at_call 113; exact Calls.wide (HC0.out _)) | fail))
                refine wpQuiet_nil ?_
                rintro _ ⟨q2, rfl⟩
                have HB2 := hidK (HW.out.trans (q2.b.mono HW.out.size))
                have Ck := hidK ((q2.b.block _ (lt_of_some Gk.out)).trans Gk.out)
                have Cr := hidK ((q2.b.block _ (lt_of_some Gr.out)).trans Gr.out)
                clear hne0 HW HB HC0 k0 k1 k2 k3 k4 k5 r0 r1 r2 r3 r4 r5 tw vw nw Gk Gr Bk Br hc1 hb1 hbv v2 hbn n1
                have HB := HB2
                clear HB2
                have Bk := Ck
                clear Ck
                have Br := Cr
                clear Cr
                clear hzq
                go_wp2_with fail
                refine ⟨⟨kq + 1, by omega, by go_num, fun j s hj hs => ?_, HBW1.out.trans (q2.b.mono HBW1.out.size)⟩, by simp [intOf]; omega⟩
                by_cases e : j = kq
                · subst e
                  rw [HXt.out] at hs
                  obtain rfl := Option.some.inj hs
                  exact ⟨⟨i4, x4, HG1.out, HG2.out⟩, .inr ⟨v, j1, n, HD.out, HJn.out, HNn.out, HZ.out⟩⟩
                · exact HQ2.out j s (by omega) hs
              · have hzq := tl_no hz
                have HZ := hidK hz
                clear hz
                have Gk : Hid (q1.w.heap[w.heap.size]? = some (.cells #[.slice (some ⟨b1, o1, none⟩) l1 y1, .slice a2 l2 y2, .slice (some ⟨b3, o3, none⟩) l3 y3, .slice a4 l4 y4, .slice (some ⟨b, o, none⟩) l5 y5, .int .i64 c.now] 37 (0, 0))) := Bk.out
                have Gr : Hid (q1.w.heap[gb]? = some (.cells #[.string p.n, .int .i64 p.c, .string p.z, .slice (some ⟨b2, o2, none⟩) vl vc, .string p.d, .int .i64 p.p] 76 (0, 0))) := Br.out
                have HW : Hid (Below w.heap.size w q1.w) := HB.out
                have k0 : ∀ q : Wd q1.w, q.w.cell? ⟨w.heap.size, 0, none⟩ = some (.slice (some ⟨b1, o1, none⟩) l1 y1) := fun q => q.slot Gk.out rfl
                have k1 : ∀ q : Wd q1.w, q.w.cell? ⟨w.heap.size, 1, none⟩ = some (.slice a2 l2 y2) := fun q => q.slot Gk.out rfl
                have k2 : ∀ q : Wd q1.w, q.w.cell? ⟨w.heap.size, 2, none⟩ = some (.slice (some ⟨b3, o3, none⟩) l3 y3) := fun q => q.slot Gk.out rfl
                have k3 : ∀ q : Wd q1.w, q.w.cell? ⟨w.heap.size, 3, none⟩ = some (.slice a4 l4 y4) := fun q => q.slot Gk.out rfl
                have k4 : ∀ q : Wd q1.w, q.w.cell? ⟨w.heap.size, 4, none⟩ = some (.slice (some ⟨b, o, none⟩) l5 y5) := fun q => q.slot Gk.out rfl
                have k5 : ∀ q : Wd q1.w, q.w.cell? ⟨w.heap.size, 5, none⟩ = some (.int .i64 c.now) := fun q => q.slot Gk.out rfl
                have r0 : ∀ q : Wd q1.w, q.w.cell? ⟨gb, 0, none⟩ = some (.string p.n) := fun q => q.slot Gr.out rfl
                have r1 : ∀ q : Wd q1.w, q.w.cell? ⟨gb, 1, none⟩ = some (.int .i64 p.c) := fun q => q.slot Gr.out rfl
                have r2 : ∀ q : Wd q1.w, q.w.cell? ⟨gb, 2, none⟩ = some (.string p.z) := fun q => q.slot Gr.out rfl
                have r3 : ∀ q : Wd q1.w, q.w.cell? ⟨gb, 3, none⟩ = some (.slice (some ⟨b2, o2, none⟩) vl vc) := fun q => q.slot Gr.out rfl
                have r4 : ∀ q : Wd q1.w, q.w.cell? ⟨gb, 4, none⟩ = some (.string p.d) := fun q => q.slot Gr.out rfl
                have r5 : ∀ q : Wd q1.w, q.w.cell? ⟨gb, 5, none⟩ = some (.int .i64 p.p) := fun q => q.slot Gr.out rfl
                have tw : ∀ q : Wd q1.w, q.w.cell? ⟨b2, o2 + kq, none⟩ = some (.string t) := fun q => (q.cell (hb1)).trans (hc1)
                have vw : ∀ q : Wd q1.w, q.w.cell? ⟨b3, o3 + j3 * 8 + 2, none⟩ = some (.string v.z) := fun q => (q.cell (hbv)).trans (v2)
                have nw : ∀ q : Wd q1.w, q.w.cell? ⟨b1, o1 + j1 * 7 + 1, none⟩ = some (.string n.z) := fun q => (q.cell (hbn)).trans (n1)
                have hne0 := Wd.ne q1.w
                have HC0 := hidK (fun q : Wd q1.w => sxxd_hit ⟨(some ⟨b1, o1, none⟩), l1, y1, a2, l2, y2, (some ⟨b3, o3, none⟩), l3, y3, a4, l4, y4, (some ⟨b, o, none⟩), l5, y5⟩ c.now c.xs t q.w (HR.out.x.below (HW.out.trans (q.b.mono HW.out.size))) HX.out HG1.out HG2.out)
                go_wp2_with fail
                refine wp_region_wide (by kernel_rfl) (by kernel_rfl) ?_
                repeat (go_big_quiet_step (first | (go_at_call 113; exact Calls.wide (HC0.out _)) | fail))
                refine wpQuiet_nil ?_
                rintro _ ⟨q2, rfl⟩
                have HB2 := hidK (HW.out.trans (q2.b.mono HW.out.size))
                have Ck := hidK ((q2.b.block _ (lt_of_some Gk.out)).trans Gk.out)
                have Cr := hidK ((q2.b.block _ (lt_of_some Gr.out)).trans Gr.out)
                clear hne0 HW HB HC0 k0 k1 k2 k3 k4 k5 r0 r1 r2 r3 r4 r5 tw vw nw Gk Gr Bk Br hc1 hb1 hbv v2 hbn n1
                have HB := HB2
                clear HB2
                have Bk := Ck
                clear Ck
                have Br := Cr
                clear Cr
                go_wp2
                go_ret
                refine BoolB.f (fun h => ?_) HB.out
                have h9 := (h.1 k p HXp.out).2.1 kq t HXt.out
                rcases h9.2 with h2 | ⟨v', i, n', h2, h3, h4, h5⟩
                · exact HEm.out h2
                · obtain rfl := IsBd.inj HX.out HV.out HD.out h2
                  obtain ⟨_, rfl⟩ := HNR.out.inj h3 HJn.out (h4.trans HNn.out.symm)
                  exact HZ.out h5
            · have HD := hidK hbd
              clear hbd
              have Gk : Hid (wr.heap[w.heap.size]? = some (.cells #[.slice (some ⟨b1, o1, none⟩) l1 y1, .slice a2 l2 y2, .slice a3 l3 y3, .slice a4 l4 y4, .slice (some ⟨b, o, none⟩) l5 y5, .int .i64 c.now] 37 (0, 0))) := Bk.out
              have Gr : Hid (wr.heap[gb]? = some (.cells #[.string p.n, .int .i64 p.c, .string p.z, .slice (some ⟨b2, o2, none⟩) vl vc, .string p.d, .int .i64 p.p] 76 (0, 0))) := Br.out
              have HW : Hid (Below w.heap.size w wr) := HB.out
              have k0 : ∀ q : Wd wr, q.w.cell? ⟨w.heap.size, 0, none⟩ = some (.slice (some ⟨b1, o1, none⟩) l1 y1) := fun q => q.slot Gk.out rfl
              have k1 : ∀ q : Wd wr, q.w.cell? ⟨w.heap.size, 1, none⟩ = some (.slice a2 l2 y2) := fun q => q.slot Gk.out rfl
              have k2 : ∀ q : Wd wr, q.w.cell? ⟨w.heap.size, 2, none⟩ = some (.slice a3 l3 y3) := fun q => q.slot Gk.out rfl
              have k3 : ∀ q : Wd wr, q.w.cell? ⟨w.heap.size, 3, none⟩ = some (.slice a4 l4 y4) := fun q => q.slot Gk.out rfl
              have k4 : ∀ q : Wd wr, q.w.cell? ⟨w.heap.size, 4, none⟩ = some (.slice (some ⟨b, o, none⟩) l5 y5) := fun q => q.slot Gk.out rfl
              have k5 : ∀ q : Wd wr, q.w.cell? ⟨w.heap.size, 5, none⟩ = some (.int .i64 c.now) := fun q => q.slot Gk.out rfl
              have r3 : ∀ q : Wd wr, q.w.cell? ⟨gb, 3, none⟩ = some (.slice (some ⟨b2, o2, none⟩) vl vc) := fun q => q.slot Gr.out rfl
              have tw : ∀ q : Wd wr, q.w.cell? ⟨b2, o2 + kq, none⟩ = some (.string t) := fun q => (q.cell (hb)).trans (hc)
              have hne0 := Wd.ne wr
              have HC0 := hidK (fun q : Wd wr => sbind_miss ⟨(some ⟨b1, o1, none⟩), l1, y1, a2, l2, y2, a3, l3, y3, a4, l4, y4, (some ⟨b, o, none⟩), l5, y5⟩ c t q.w (HR.out.below (HW.out.trans (q.b.mono HW.out.size))) HX.out HV.out HNE.out HD.out)
              go_wp2_with fail
              refine wp_region_wide (by kernel_rfl) (by kernel_rfl) ?_
              repeat (go_big_quiet_step (first | (go_at_call 128; exact Calls.wide (HC0.out _)) | fail))
              refine wpQuiet_nil ?_
              rintro _ ⟨q1, rfl⟩
              have HB1 := hidK (HW.out.trans (q1.b.mono HW.out.size))
              have Ck := hidK ((q1.b.block _ (lt_of_some Gk.out)).trans Gk.out)
              have Cr := hidK ((q1.b.block _ (lt_of_some Gr.out)).trans Gr.out)
              clear hne0 HW HB HC0 k0 k1 k2 k3 k4 k5 r3 tw Gk Gr Bk Br pr3
              have HB := HB1
              clear HB1
              have Bk := Ck
              clear Ck
              have Br := Cr
              clear Cr
              have hc1 := (q1.cell hb).trans hc
              have hb1 : b2 < q1.w.heap.size := Nat.lt_of_lt_of_le hb q1.b.size
              have HBW1 := hidK (HBW.out.trans (q1.b.mono HBW.out.size))
              clear hc hb HBW
              by_cases hg : ∃ (i : Nat) (x : Xd), c.xs[i]? = some x ∧ x.n = t
              rotate_left
              · have HG := hidK hg
                clear hg
                have Gk : Hid (q1.w.heap[w.heap.size]? = some (.cells #[.slice (some ⟨b1, o1, none⟩) l1 y1, .slice a2 l2 y2, .slice a3 l3 y3, .slice a4 l4 y4, .slice (some ⟨b, o, none⟩) l5 y5, .int .i64 c.now] 37 (0, 0))) := Bk.out
                have Gr : Hid (q1.w.heap[gb]? = some (.cells #[.string p.n, .int .i64 p.c, .string p.z, .slice (some ⟨b2, o2, none⟩) vl vc, .string p.d, .int .i64 p.p] 76 (0, 0))) := Br.out
                have HW : Hid (Below w.heap.size w q1.w) := HB.out
                have k0 : ∀ q : Wd q1.w, q.w.cell? ⟨w.heap.size, 0, none⟩ = some (.slice (some ⟨b1, o1, none⟩) l1 y1) := fun q => q.slot Gk.out rfl
                have k1 : ∀ q : Wd q1.w, q.w.cell? ⟨w.heap.size, 1, none⟩ = some (.slice a2 l2 y2) := fun q => q.slot Gk.out rfl
                have k2 : ∀ q : Wd q1.w, q.w.cell? ⟨w.heap.size, 2, none⟩ = some (.slice a3 l3 y3) := fun q => q.slot Gk.out rfl
                have k3 : ∀ q : Wd q1.w, q.w.cell? ⟨w.heap.size, 3, none⟩ = some (.slice a4 l4 y4) := fun q => q.slot Gk.out rfl
                have k4 : ∀ q : Wd q1.w, q.w.cell? ⟨w.heap.size, 4, none⟩ = some (.slice (some ⟨b, o, none⟩) l5 y5) := fun q => q.slot Gk.out rfl
                have k5 : ∀ q : Wd q1.w, q.w.cell? ⟨w.heap.size, 5, none⟩ = some (.int .i64 c.now) := fun q => q.slot Gk.out rfl
                have r0 : ∀ q : Wd q1.w, q.w.cell? ⟨gb, 0, none⟩ = some (.string p.n) := fun q => q.slot Gr.out rfl
                have r1 : ∀ q : Wd q1.w, q.w.cell? ⟨gb, 1, none⟩ = some (.int .i64 p.c) := fun q => q.slot Gr.out rfl
                have r2 : ∀ q : Wd q1.w, q.w.cell? ⟨gb, 2, none⟩ = some (.string p.z) := fun q => q.slot Gr.out rfl
                have r3 : ∀ q : Wd q1.w, q.w.cell? ⟨gb, 3, none⟩ = some (.slice (some ⟨b2, o2, none⟩) vl vc) := fun q => q.slot Gr.out rfl
                have r4 : ∀ q : Wd q1.w, q.w.cell? ⟨gb, 4, none⟩ = some (.string p.d) := fun q => q.slot Gr.out rfl
                have r5 : ∀ q : Wd q1.w, q.w.cell? ⟨gb, 5, none⟩ = some (.int .i64 p.p) := fun q => q.slot Gr.out rfl
                have tw : ∀ q : Wd q1.w, q.w.cell? ⟨b2, o2 + kq, none⟩ = some (.string t) := fun q => (q.cell (hb1)).trans (hc1)
                have hne0 := Wd.ne q1.w
                have HC0 := hidK (fun q : Wd q1.w => sxxd_miss ⟨(some ⟨b1, o1, none⟩), l1, y1, a2, l2, y2, a3, l3, y3, a4, l4, y4, (some ⟨b, o, none⟩), l5, y5⟩ c.now c.xs t q.w (HR.out.x.below (HW.out.trans (q.b.mono HW.out.size))) (fun i x h1 h2 => HG.out ⟨i, x, h1, h2⟩))
                go_wp2_with fail
                refine wp_region_wide (by kernel_rfl) (by kernel_rfl) ?_
                repeat (go_big_quiet_step (first | (go_at_call 113; exact Calls.wide (HC0.out _)) | fail))
                refine wpQuiet_nil ?_
                rintro _ ⟨q2, rfl⟩
                have HB2 := hidK (HW.out.trans (q2.b.mono HW.out.size))
                have Ck := hidK ((q2.b.block _ (lt_of_some Gk.out)).trans Gk.out)
                have Cr := hidK ((q2.b.block _ (lt_of_some Gr.out)).trans Gr.out)
                clear hne0 HW HB HC0 k0 k1 k2 k3 k4 k5 r0 r1 r2 r3 r4 r5 tw Gk Gr Bk Br hc1 hb1
                have HB := HB2
                clear HB2
                have Bk := Ck
                clear Ck
                have Br := Cr
                clear Cr
                go_wp2
                go_ret
                refine BoolB.f (fun h => ?_) HB.out
                have h9 := (h.1 k p HXp.out).2.1 kq t HXt.out
                exact HG.out h9.1
              obtain ⟨i4, x4, g1, g2⟩ := hg
              have HG1 := hidK g1
              have HG2 := hidK g2
              have hi41 : decide ((i4 : Int) < 0) = false := by simp
              clear g1 g2
              have Gk : Hid (q1.w.heap[w.heap.size]? = some (.cells #[.slice (some ⟨b1, o1, none⟩) l1 y1, .slice a2 l2 y2, .slice a3 l3 y3, .slice a4 l4 y4, .slice (some ⟨b, o, none⟩) l5 y5, .int .i64 c.now] 37 (0, 0))) := Bk.out
              have Gr : Hid (q1.w.heap[gb]? = some (.cells #[.string p.n, .int .i64 p.c, .string p.z, .slice (some ⟨b2, o2, none⟩) vl vc, .string p.d, .int .i64 p.p] 76 (0, 0))) := Br.out
              have HW : Hid (Below w.heap.size w q1.w) := HB.out
              have k0 : ∀ q : Wd q1.w, q.w.cell? ⟨w.heap.size, 0, none⟩ = some (.slice (some ⟨b1, o1, none⟩) l1 y1) := fun q => q.slot Gk.out rfl
              have k1 : ∀ q : Wd q1.w, q.w.cell? ⟨w.heap.size, 1, none⟩ = some (.slice a2 l2 y2) := fun q => q.slot Gk.out rfl
              have k2 : ∀ q : Wd q1.w, q.w.cell? ⟨w.heap.size, 2, none⟩ = some (.slice a3 l3 y3) := fun q => q.slot Gk.out rfl
              have k3 : ∀ q : Wd q1.w, q.w.cell? ⟨w.heap.size, 3, none⟩ = some (.slice a4 l4 y4) := fun q => q.slot Gk.out rfl
              have k4 : ∀ q : Wd q1.w, q.w.cell? ⟨w.heap.size, 4, none⟩ = some (.slice (some ⟨b, o, none⟩) l5 y5) := fun q => q.slot Gk.out rfl
              have k5 : ∀ q : Wd q1.w, q.w.cell? ⟨w.heap.size, 5, none⟩ = some (.int .i64 c.now) := fun q => q.slot Gk.out rfl
              have r0 : ∀ q : Wd q1.w, q.w.cell? ⟨gb, 0, none⟩ = some (.string p.n) := fun q => q.slot Gr.out rfl
              have r1 : ∀ q : Wd q1.w, q.w.cell? ⟨gb, 1, none⟩ = some (.int .i64 p.c) := fun q => q.slot Gr.out rfl
              have r2 : ∀ q : Wd q1.w, q.w.cell? ⟨gb, 2, none⟩ = some (.string p.z) := fun q => q.slot Gr.out rfl
              have r3 : ∀ q : Wd q1.w, q.w.cell? ⟨gb, 3, none⟩ = some (.slice (some ⟨b2, o2, none⟩) vl vc) := fun q => q.slot Gr.out rfl
              have r4 : ∀ q : Wd q1.w, q.w.cell? ⟨gb, 4, none⟩ = some (.string p.d) := fun q => q.slot Gr.out rfl
              have r5 : ∀ q : Wd q1.w, q.w.cell? ⟨gb, 5, none⟩ = some (.int .i64 p.p) := fun q => q.slot Gr.out rfl
              have tw : ∀ q : Wd q1.w, q.w.cell? ⟨b2, o2 + kq, none⟩ = some (.string t) := fun q => (q.cell (hb1)).trans (hc1)
              have hne0 := Wd.ne q1.w
              have HC0 := hidK (fun q : Wd q1.w => sxxd_hit ⟨(some ⟨b1, o1, none⟩), l1, y1, a2, l2, y2, a3, l3, y3, a4, l4, y4, (some ⟨b, o, none⟩), l5, y5⟩ c.now c.xs t q.w (HR.out.x.below (HW.out.trans (q.b.mono HW.out.size))) HX.out HG1.out HG2.out)
              go_wp2_with fail
              refine wp_region_wide (by kernel_rfl) (by kernel_rfl) ?_
              repeat (go_big_quiet_step (first | (go_at_call 113; exact Calls.wide (HC0.out _)) | fail))
              refine wpQuiet_nil ?_
              rintro _ ⟨q2, rfl⟩
              have HB2 := hidK (HW.out.trans (q2.b.mono HW.out.size))
              have Ck := hidK ((q2.b.block _ (lt_of_some Gk.out)).trans Gk.out)
              have Cr := hidK ((q2.b.block _ (lt_of_some Gr.out)).trans Gr.out)
              clear hne0 HW HB HC0 k0 k1 k2 k3 k4 k5 r0 r1 r2 r3 r4 r5 tw Gk Gr Bk Br hc1 hb1
              have HB := HB2
              clear HB2
              have Bk := Ck
              clear Ck
              have Br := Cr
              clear Cr
              go_wp2
              go_ret
              refine BoolB.f (fun h => ?_) HB.out
              have h9 := (h.1 k p HXp.out).2.1 kq t HXt.out
              rcases h9.2 with h2 | ⟨v', i, n', h2, _⟩
              · exact HEm.out h2
              · exact HD.out v' h2
          · obtain rfl : vl = kq := by omega
            have HQb : Hid (PSb c p) := fun j t ht => HQ2.out j t (by have h1 := (List.getElem?_eq_some_iff.1 ht).1; have h2 := HVL.out; omega) ht
            clear HQ2
            have TV2 := hidK (TV.out.below HBW.out)
            have KV2 := Bk
            have GV2 := Br
            have BV2 := HB
            clear KV GV BV TV Bk Br HB HBW
            obtain ⟨W2, hW⟩ : ∃ W2, W2 = wr := ⟨_, rfl⟩
            rw [← hW] at KV2 GV2 BV2 TV2
            go_wp2
            clear pr3
            rw [← hW]
            clear hW
            go_loopw [8] (fun i wr => ∃ kz : Nat, kz ≤ k ∧ i = .int .i64 kz ∧ Hid (∀ (j : Nat) q, j < kz → c.ps[j]? = some q → PairS c q p) ∧ Hid (Below W2.heap.size W2 wr)) (fun i _ => k - (intOf i).toNat)
            case atStart => exact ⟨0, by omega, rfl, fun _ _ h => absurd h (by omega), Below.refl _ _⟩
            case round =>
              obtain ⟨kz, hkz, rfl, HQ3, HBW⟩ := hrel
              have HB := hidK (BV2.out.trans (HBW.out.mono BV2.out.size))
              have Bk := hidK ((HBW.out.block _ (lt_of_some KV2.out)).trans KV2.out)
              have Br := hidK ((HBW.out.block _ (lt_of_some GV2.out)).trans GV2.out)
              have HTp := hidK (TV2.out.below HBW.out)
              by_cases hlt3 : kz < k
              · obtain ⟨b', o', pq, e', hb', hqq, hatq⟩ := pd_at (HR.out.p.below HB.out) (show kz < l5 by omega)
                cases e'
                obtain ⟨qa, ql, qc, hqr, z0, z2, z4, d0, d1, d2, d3, d4, d5⟩ := pd_cells hatq
                have HXq := hidK hqq
                have HTq := hidK hqr
                clear hatq hqq hqr z0 z2 z4
                by_cases hpr : PairS c pq p
                · have HPr := hidK hpr
                  clear hpr
                  have Gk : Hid (wr.heap[w.heap.size]? = some (.cells #[.slice (some ⟨b1, o1, none⟩) l1 y1, .slice a2 l2 y2, .slice a3 l3 y3, .slice a4 l4 y4, .slice (some ⟨b, o, none⟩) l5 y5, .int .i64 c.now] 37 (0, 0))) := Bk.out
                  have Gr : Hid (wr.heap[gb]? = some (.cells #[.string p.n, .int .i64 p.c, .string p.z, .slice va vl vc, .string p.d, .int .i64 p.p] 76 (0, 0))) := Br.out
                  have HW : Hid (Below w.heap.size w wr) := HB.out
                  have k0 : ∀ q : Wd wr, q.w.cell? ⟨w.heap.size, 0, none⟩ = some (.slice (some ⟨b1, o1, none⟩) l1 y1) := fun q => q.slot Gk.out rfl
                  have k1 : ∀ q : Wd wr, q.w.cell? ⟨w.heap.size, 1, none⟩ = some (.slice a2 l2 y2) := fun q => q.slot Gk.out rfl
                  have k2 : ∀ q : Wd wr, q.w.cell? ⟨w.heap.size, 2, none⟩ = some (.slice a3 l3 y3) := fun q => q.slot Gk.out rfl
                  have k3 : ∀ q : Wd wr, q.w.cell? ⟨w.heap.size, 3, none⟩ = some (.slice a4 l4 y4) := fun q => q.slot Gk.out rfl
                  have k4 : ∀ q : Wd wr, q.w.cell? ⟨w.heap.size, 4, none⟩ = some (.slice (some ⟨b, o, none⟩) l5 y5) := fun q => q.slot Gk.out rfl
                  have k5 : ∀ q : Wd wr, q.w.cell? ⟨w.heap.size, 5, none⟩ = some (.int .i64 c.now) := fun q => q.slot Gk.out rfl
                  have r0 : ∀ q : Wd wr, q.w.cell? ⟨gb, 0, none⟩ = some (.string p.n) := fun q => q.slot Gr.out rfl
                  have r1 : ∀ q : Wd wr, q.w.cell? ⟨gb, 1, none⟩ = some (.int .i64 p.c) := fun q => q.slot Gr.out rfl
                  have r2 : ∀ q : Wd wr, q.w.cell? ⟨gb, 2, none⟩ = some (.string p.z) := fun q => q.slot Gr.out rfl
                  have r3 : ∀ q : Wd wr, q.w.cell? ⟨gb, 3, none⟩ = some (.slice va vl vc) := fun q => q.slot Gr.out rfl
                  have r4 : ∀ q : Wd wr, q.w.cell? ⟨gb, 4, none⟩ = some (.string p.d) := fun q => q.slot Gr.out rfl
                  have r5 : ∀ q : Wd wr, q.w.cell? ⟨gb, 5, none⟩ = some (.int .i64 p.p) := fun q => q.slot Gr.out rfl
                  have q0 : ∀ q : Wd wr, q.w.cell? ⟨b, o + kz * 6, none⟩ = some (.string pq.n) := fun q => (q.cell (hb')).trans (d0)
                  have q1 : ∀ q : Wd wr, q.w.cell? ⟨b, o + kz * 6 + 1, none⟩ = some (.int .i64 pq.c) := fun q => (q.cell (hb')).trans (d1)
                  have q2 : ∀ q : Wd wr, q.w.cell? ⟨b, o + kz * 6 + 2, none⟩ = some (.string pq.z) := fun q => (q.cell (hb')).trans (d2)
                  have q3 : ∀ q : Wd wr, q.w.cell? ⟨b, o + kz * 6 + 3, none⟩ = some (.slice qa ql qc) := fun q => (q.cell (hb')).trans (d3)
                  have q4 : ∀ q : Wd wr, q.w.cell? ⟨b, o + kz * 6 + 4, none⟩ = some (.string pq.d) := fun q => (q.cell (hb')).trans (d4)
                  have q5 : ∀ q : Wd wr, q.w.cell? ⟨b, o + kz * 6 + 5, none⟩ = some (.int .i64 pq.p) := fun q => (q.cell (hb')).trans (d5)
                  have hne0 := Wd.ne wr
                  have HC0 := hidK (fun qw : Wd wr => (spair_any ⟨(some ⟨b1, o1, none⟩), l1, y1, a2, l2, y2, a3, l3, y3, a4, l4, y4, (some ⟨b, o, none⟩), l5, y5⟩ c pq p qa ql qc va vl vc qw.w (HR.out.below (HW.out.trans (qw.b.mono HW.out.size))) HX.out HV.out HNE.out (HTq.out.below qw.b) (HTp.out.below qw.b)).mono (fun _ _ h => BoolB.yes h HPr.out))
                  go_wp2_with fail
                  refine wp_region_wide (by kernel_rfl) (by kernel_rfl) ?_
                  repeat (go_big_quiet_step (first | (go_at_call 140; exact Calls.wide (HC0.out _)) | fail))
                  refine wpQuiet_nil ?_
                  rintro _ ⟨q9, rfl⟩
                  have HB1 := hidK (HW.out.trans (q9.b.mono HW.out.size))
                  have Ck := hidK ((q9.b.block _ (lt_of_some Gk.out)).trans Gk.out)
                  have Cr := hidK ((q9.b.block _ (lt_of_some Gr.out)).trans Gr.out)
                  clear hne0 HW HB HC0 k0 k1 k2 k3 k4 k5 r0 r1 r2 r3 r4 r5 q0 q1 q2 q3 q4 q5 Gk Gr Bk Br d0 d1 d2 d3 d4 d5
                  have HB := HB1
                  clear HB1
                  have Bk := Ck
                  clear Ck
                  have Br := Cr
                  clear Cr
                  go_wp2_with fail
                  refine ⟨⟨kz + 1, by omega, by go_num, fun j s hj hs => ?_, HBW.out.trans (q9.b.mono HBW.out.size)⟩, by simp [intOf]; omega⟩
                  by_cases e : j = kz
                  · subst e
                    rw [HXq.out] at hs
                    obtain rfl := Option.some.inj hs
                    exact HPr.out
                  · exact HQ3.out j s (by omega) hs
                · have HPr := hidK hpr
                  clear hpr
                  have Gk : Hid (wr.heap[w.heap.size]? = some (.cells #[.slice (some ⟨b1, o1, none⟩) l1 y1, .slice a2 l2 y2, .slice a3 l3 y3, .slice a4 l4 y4, .slice (some ⟨b, o, none⟩) l5 y5, .int .i64 c.now] 37 (0, 0))) := Bk.out
                  have Gr : Hid (wr.heap[gb]? = some (.cells #[.string p.n, .int .i64 p.c, .string p.z, .slice va vl vc, .string p.d, .int .i64 p.p] 76 (0, 0))) := Br.out
                  have HW : Hid (Below w.heap.size w wr) := HB.out
                  have k0 : ∀ q : Wd wr, q.w.cell? ⟨w.heap.size, 0, none⟩ = some (.slice (some ⟨b1, o1, none⟩) l1 y1) := fun q => q.slot Gk.out rfl
                  have k1 : ∀ q : Wd wr, q.w.cell? ⟨w.heap.size, 1, none⟩ = some (.slice a2 l2 y2) := fun q => q.slot Gk.out rfl
                  have k2 : ∀ q : Wd wr, q.w.cell? ⟨w.heap.size, 2, none⟩ = some (.slice a3 l3 y3) := fun q => q.slot Gk.out rfl
                  have k3 : ∀ q : Wd wr, q.w.cell? ⟨w.heap.size, 3, none⟩ = some (.slice a4 l4 y4) := fun q => q.slot Gk.out rfl
                  have k4 : ∀ q : Wd wr, q.w.cell? ⟨w.heap.size, 4, none⟩ = some (.slice (some ⟨b, o, none⟩) l5 y5) := fun q => q.slot Gk.out rfl
                  have k5 : ∀ q : Wd wr, q.w.cell? ⟨w.heap.size, 5, none⟩ = some (.int .i64 c.now) := fun q => q.slot Gk.out rfl
                  have r0 : ∀ q : Wd wr, q.w.cell? ⟨gb, 0, none⟩ = some (.string p.n) := fun q => q.slot Gr.out rfl
                  have r1 : ∀ q : Wd wr, q.w.cell? ⟨gb, 1, none⟩ = some (.int .i64 p.c) := fun q => q.slot Gr.out rfl
                  have r2 : ∀ q : Wd wr, q.w.cell? ⟨gb, 2, none⟩ = some (.string p.z) := fun q => q.slot Gr.out rfl
                  have r3 : ∀ q : Wd wr, q.w.cell? ⟨gb, 3, none⟩ = some (.slice va vl vc) := fun q => q.slot Gr.out rfl
                  have r4 : ∀ q : Wd wr, q.w.cell? ⟨gb, 4, none⟩ = some (.string p.d) := fun q => q.slot Gr.out rfl
                  have r5 : ∀ q : Wd wr, q.w.cell? ⟨gb, 5, none⟩ = some (.int .i64 p.p) := fun q => q.slot Gr.out rfl
                  have q0 : ∀ q : Wd wr, q.w.cell? ⟨b, o + kz * 6, none⟩ = some (.string pq.n) := fun q => (q.cell (hb')).trans (d0)
                  have q1 : ∀ q : Wd wr, q.w.cell? ⟨b, o + kz * 6 + 1, none⟩ = some (.int .i64 pq.c) := fun q => (q.cell (hb')).trans (d1)
                  have q2 : ∀ q : Wd wr, q.w.cell? ⟨b, o + kz * 6 + 2, none⟩ = some (.string pq.z) := fun q => (q.cell (hb')).trans (d2)
                  have q3 : ∀ q : Wd wr, q.w.cell? ⟨b, o + kz * 6 + 3, none⟩ = some (.slice qa ql qc) := fun q => (q.cell (hb')).trans (d3)
                  have q4 : ∀ q : Wd wr, q.w.cell? ⟨b, o + kz * 6 + 4, none⟩ = some (.string pq.d) := fun q => (q.cell (hb')).trans (d4)
                  have q5 : ∀ q : Wd wr, q.w.cell? ⟨b, o + kz * 6 + 5, none⟩ = some (.int .i64 pq.p) := fun q => (q.cell (hb')).trans (d5)
                  have hne0 := Wd.ne wr
                  have HC0 := hidK (fun qw : Wd wr => (spair_any ⟨(some ⟨b1, o1, none⟩), l1, y1, a2, l2, y2, a3, l3, y3, a4, l4, y4, (some ⟨b, o, none⟩), l5, y5⟩ c pq p qa ql qc va vl vc qw.w (HR.out.below (HW.out.trans (qw.b.mono HW.out.size))) HX.out HV.out HNE.out (HTq.out.below qw.b) (HTp.out.below qw.b)).mono (fun _ _ h => BoolB.no h HPr.out))
                  go_wp2_with fail
                  refine wp_region_wide (by kernel_rfl) (by kernel_rfl) ?_
                  repeat (go_big_quiet_step (first | (go_at_call 140; exact Calls.wide (HC0.out _)) | fail))
                  refine wpQuiet_nil ?_
                  rintro _ ⟨q9, rfl⟩
                  have HB1 := hidK (HW.out.trans (q9.b.mono HW.out.size))
                  have Ck := hidK ((q9.b.block _ (lt_of_some Gk.out)).trans Gk.out)
                  have Cr := hidK ((q9.b.block _ (lt_of_some Gr.out)).trans Gr.out)
                  clear hne0 HW HB HC0 k0 k1 k2 k3 k4 k5 r0 r1 r2 r3 r4 r5 q0 q1 q2 q3 q4 q5 Gk Gr Bk Br d0 d1 d2 d3 d4 d5
                  have HB := HB1
                  clear HB1
                  have Bk := Ck
                  clear Ck
                  have Br := Cr
                  clear Cr
                  go_wp2
                  go_ret
                  exact BoolB.f (fun h => HPr.out ((h.1 k p HXp.out).2.2 kz pq hlt3 HXq.out)) HB.out
              · obtain rfl : k = kz := by omega
                go_wp2_with fail
                refine ⟨⟨k + 1, by omega, by go_num, fun j z hj hz => ?_, HB.out, Bk.out⟩, by simp [intOf]; omega⟩
                by_cases e : j = k
                · subst e
                  rw [HXp.out] at hz
                  obtain rfl := Option.some.inj hz
                  exact ⟨HPa.out, HQb.out, fun j2 q2 hj2 hq2 => HQ3.out j2 q2 hj2 hq2⟩
                · exact HQ.out j z (by omega) hz
      have hq2 := isE_no hz0
      by_cases hz1 : n.z = p.z
      · have hq3 := tl_yes hz1
        have HPa : Hid (PSa c p) := .inr ⟨j1, n, HJn.out, HNn.out, .inr hz1⟩
        clear hz0 hz1
        have Gk : Hid (w1.heap[w.heap.size]? = some (.cells #[.slice (some ⟨b1, o1, none⟩) l1 y1, .slice a2 l2 y2, .slice a3 l3 y3, .slice a4 l4 y4, .slice (some ⟨b, o, none⟩) l5 y5, .int .i64 c.now] 37 (0, 0))) := Bk.out
        have Gr : Hid (w1.heap[wr.heap.size]? = some (.cells #[.string p.n, .int .i64 p.c, .string p.z, .slice va vl vc, .string p.d, .int .i64 p.p] 76 (0, 0))) := Br.out
        have HW : Hid (Below w.heap.size w w1) := HB.out
        have k0 : ∀ q : Wd w1, q.w.cell? ⟨w.heap.size, 0, none⟩ = some (.slice (some ⟨b1, o1, none⟩) l1 y1) := fun q => q.slot Gk.out rfl
        have r0 : ∀ q : Wd w1, q.w.cell? ⟨wr.heap.size, 0, none⟩ = some (.string p.n) := fun q => q.slot Gr.out rfl
        have r1 : ∀ q : Wd w1, q.w.cell? ⟨wr.heap.size, 1, none⟩ = some (.int .i64 p.c) := fun q => q.slot Gr.out rfl
        have r2 : ∀ q : Wd w1, q.w.cell? ⟨wr.heap.size, 2, none⟩ = some (.string p.z) := fun q => q.slot Gr.out rfl
        have r3 : ∀ q : Wd w1, q.w.cell? ⟨wr.heap.size, 3, none⟩ = some (.slice va vl vc) := fun q => q.slot Gr.out rfl
        have r4 : ∀ q : Wd w1, q.w.cell? ⟨wr.heap.size, 4, none⟩ = some (.string p.d) := fun q => q.slot Gr.out rfl
        have r5 : ∀ q : Wd w1, q.w.cell? ⟨wr.heap.size, 5, none⟩ = some (.int .i64 p.p) := fun q => q.slot Gr.out rfl
        have nw : ∀ q : Wd w1, q.w.cell? ⟨b1, o1 + j1 * 7 + 1, none⟩ = some (.string n.z) := fun q => (q.cell (hbn)).trans (n1)
        have hne0 := Wd.ne w1
        go_wp2_with fail
        refine wp_region_wide (by kernel_rfl) (by kernel_rfl) ?_
        repeat (go_big_quiet_step (first | fail))
        refine wpQuiet_nil ?_
        rintro _ ⟨q0, rfl⟩
        have HB2 := hidK (HW.out.trans (q0.b.mono HW.out.size))
        have Ck := hidK ((q0.b.block _ (lt_of_some Gk.out)).trans Gk.out)
        have Cr := hidK ((q0.b.block _ (lt_of_some Gr.out)).trans Gr.out)
        have CHTp := hidK ((HTp.out).below q0.b)
        clear hne0 HW HB k0 r0 r1 r2 r3 r4 r5 nw Gk Gr Bk Br HTp hbn n1
        have HB := HB2
        clear HB2
        have HTp := CHTp
        clear CHTp
        have Bk := Ck
        clear Ck
        have Br := Cr
        clear Cr
        clear hq2 hq3
        obtain ⟨gb, hgb⟩ : ∃ gb, gb = wr.heap.size := ⟨_, rfl⟩
        rw [← hgb] at Br
        have pr3 : q0.w.cell? ⟨gb, 3, none⟩ = some (.slice va vl vc) := cellK Br.out 3
        rw [hgb] at pr3
        go_wp2
        rw [← hgb]
        clear pr3 hgb
        have KV := Bk
        have GV := Br
        have BV := HB
        have TV := HTp
        clear Bk Br HB HTp
        obtain ⟨W, hW⟩ : ∃ W, W = q0.w := ⟨_, rfl⟩
        rw [← hW] at KV GV BV TV ⊢
        clear hW
        go_loopw [6] (fun i wr => ∃ kq : Nat, kq ≤ vl ∧ i = .int .i64 kq ∧ Hid (∀ (j : Nat) t, j < kq → p.zs[j]? = some t → PSb1 c p t) ∧ Hid (Below W.heap.size W wr)) (fun i _ => vl - (intOf i).toNat)
        case atStart => exact ⟨0, by omega, rfl, fun _ _ h => absurd h (by omega), Below.refl _ _⟩
        case round =>
          obtain ⟨kq, hkq, rfl, HQ2, HBW⟩ := hrel
          have HB := hidK (BV.out.trans (HBW.out.mono BV.out.size))
          have Bk := hidK ((HBW.out.block _ (lt_of_some KV.out)).trans KV.out)
          have Br := hidK ((HBW.out.block _ (lt_of_some GV.out)).trans GV.out)
          have pr3 : wr.cell? ⟨gb, 3, none⟩ = some (.slice va vl vc) := cellK Br.out 3
          by_cases hlt2 : kq < vl
          · obtain ⟨b2, o2, t, rfl, hb, hxt, hc, hsz⟩ := (TV.out.below HBW.out).at hlt2
            have HXt := hidK hxt
            clear hxt hsz
            have hcase : (∃ v, IsBd c t v) ∨ (∀ v, ¬ IsBd c t v) := by
              by_cases h : ∃ v, IsBd c t v
              · exact .inl h
              · exact .inr (fun v hv => h ⟨v, hv⟩)
            rcases hcase with ⟨v, hbd⟩ | hbd
            · obtain ⟨j3, hj3⟩ := hbd.at
              have hl3' : j3 < l3 := by have h1 := (List.getElem?_eq_some_iff.1 hj3).1; omega
              obtain ⟨b3, o3, v', rfl, hb3, hv', hat⟩ := vd_at HR.out.v hl3'
              rw [hj3] at hv'
              obtain rfl := Option.some.inj hv'
              obtain ⟨xa, xl, xc, hvr, z0, z2, z3, z5, d0, d1, d2, d3, d4, d5, d6, d7⟩ := vd_cells hat
              have HJ := hidK hj3
              have HD := hidK hbd
              have HC2 := hidK d2
              have HB3 := hidK hb3
              have hj31 : decide ((j3 : Int) < 0) = false := by simp
              clear hv' hat hvr z0 z2 z3 z5 d0 d1 d2 d3 d4 d5 d6 d7 hj3 hbd hb3
              have Gk : Hid (wr.heap[w.heap.size]? = some (.cells #[.slice (some ⟨b1, o1, none⟩) l1 y1, .slice a2 l2 y2, .slice (some ⟨b3, o3, none⟩) l3 y3, .slice a4 l4 y4, .slice (some ⟨b, o, none⟩) l5 y5, .int .i64 c.now] 37 (0, 0))) := Bk.out
              have Gr : Hid (wr.heap[gb]? = some (.cells #[.string p.n, .int .i64 p.c, .string p.z, .slice (some ⟨b2, o2, none⟩) vl vc, .string p.d, .int .i64 p.p] 76 (0, 0))) := Br.out
              have HW : Hid (Below w.heap.size w wr) := HB.out
              have k0 : ∀ q : Wd wr, q.w.cell? ⟨w.heap.size, 0, none⟩ = some (.slice (some ⟨b1, o1, none⟩) l1 y1) := fun q => q.slot Gk.out rfl
              have k1 : ∀ q : Wd wr, q.w.cell? ⟨w.heap.size, 1, none⟩ = some (.slice a2 l2 y2) := fun q => q.slot Gk.out rfl
              have k2 : ∀ q : Wd wr, q.w.cell? ⟨w.heap.size, 2, none⟩ = some (.slice (some ⟨b3, o3, none⟩) l3 y3) := fun q => q.slot Gk.out rfl
              have k3 : ∀ q : Wd wr, q.w.cell? ⟨w.heap.size, 3, none⟩ = some (.slice a4 l4 y4) := fun q => q.slot Gk.out rfl
              have k4 : ∀ q : Wd wr, q.w.cell? ⟨w.heap.size, 4, none⟩ = some (.slice (some ⟨b, o, none⟩) l5 y5) := fun q => q.slot Gk.out rfl
              have k5 : ∀ q : Wd wr, q.w.cell? ⟨w.heap.size, 5, none⟩ = some (.int .i64 c.now) := fun q => q.slot Gk.out rfl
              have r3 : ∀ q : Wd wr, q.w.cell? ⟨gb, 3, none⟩ = some (.slice (some ⟨b2, o2, none⟩) vl vc) := fun q => q.slot Gr.out rfl
              have tw : ∀ q : Wd wr, q.w.cell? ⟨b2, o2 + kq, none⟩ = some (.string t) := fun q => (q.cell (hb)).trans (hc)
              have hne0 := Wd.ne wr
              have HC0 := hidK (fun q : Wd wr => sbind_hit ⟨(some ⟨b1, o1, none⟩), l1, y1, a2, l2, y2, (some ⟨b3, o3, none⟩), l3, y3, a4, l4, y4, (some ⟨b, o, none⟩), l5, y5⟩ c t q.w (HR.out.below (HW.out.trans (q.b.mono HW.out.size))) HX.out HV.out HNE.out HJ.out HD.out)
              go_wp2_with fail
              refine wp_region_wide (by kernel_rfl) (by kernel_rfl) ?_
              repeat (go_big_quiet_step (first | (go_at_call 128; exact Calls.wide (HC0.out _)) | fail))
              refine wpQuiet_nil ?_
              rintro _ ⟨q1, rfl⟩
              have HB1 := hidK (HW.out.trans (q1.b.mono HW.out.size))
              have Ck := hidK ((q1.b.block _ (lt_of_some Gk.out)).trans Gk.out)
              have Cr := hidK ((q1.b.block _ (lt_of_some Gr.out)).trans Gr.out)
              clear hne0 HW HB HC0 k0 k1 k2 k3 k4 k5 r3 tw Gk Gr Bk Br pr3
              have HB := HB1
              clear HB1
              have Bk := Ck
              clear Ck
              have Br := Cr
              clear Cr
              have hc1 := (q1.cell hb).trans hc
              have hb1 : b2 < q1.w.heap.size := Nat.lt_of_lt_of_le hb q1.b.size
              have HBW1 := hidK (HBW.out.trans (q1.b.mono HBW.out.size))
              clear hc hb HBW
              by_cases hg : ∃ (i : Nat) (x : Xd), c.xs[i]? = some x ∧ x.n = t
              rotate_left
              · have HG := hidK hg
                clear hg
                have Gk : Hid (q1.w.heap[w.heap.size]? = some (.cells #[.slice (some ⟨b1, o1, none⟩) l1 y1, .slice a2 l2 y2, .slice (some ⟨b3, o3, none⟩) l3 y3, .slice a4 l4 y4, .slice (some ⟨b, o, none⟩) l5 y5, .int .i64 c.now] 37 (0, 0))) := Bk.out
                have Gr : Hid (q1.w.heap[gb]? = some (.cells #[.string p.n, .int .i64 p.c, .string p.z, .slice (some ⟨b2, o2, none⟩) vl vc, .string p.d, .int .i64 p.p] 76 (0, 0))) := Br.out
                have HW : Hid (Below w.heap.size w q1.w) := HB.out
                have k0 : ∀ q : Wd q1.w, q.w.cell? ⟨w.heap.size, 0, none⟩ = some (.slice (some ⟨b1, o1, none⟩) l1 y1) := fun q => q.slot Gk.out rfl
                have k1 : ∀ q : Wd q1.w, q.w.cell? ⟨w.heap.size, 1, none⟩ = some (.slice a2 l2 y2) := fun q => q.slot Gk.out rfl
                have k2 : ∀ q : Wd q1.w, q.w.cell? ⟨w.heap.size, 2, none⟩ = some (.slice (some ⟨b3, o3, none⟩) l3 y3) := fun q => q.slot Gk.out rfl
                have k3 : ∀ q : Wd q1.w, q.w.cell? ⟨w.heap.size, 3, none⟩ = some (.slice a4 l4 y4) := fun q => q.slot Gk.out rfl
                have k4 : ∀ q : Wd q1.w, q.w.cell? ⟨w.heap.size, 4, none⟩ = some (.slice (some ⟨b, o, none⟩) l5 y5) := fun q => q.slot Gk.out rfl
                have k5 : ∀ q : Wd q1.w, q.w.cell? ⟨w.heap.size, 5, none⟩ = some (.int .i64 c.now) := fun q => q.slot Gk.out rfl
                have r0 : ∀ q : Wd q1.w, q.w.cell? ⟨gb, 0, none⟩ = some (.string p.n) := fun q => q.slot Gr.out rfl
                have r1 : ∀ q : Wd q1.w, q.w.cell? ⟨gb, 1, none⟩ = some (.int .i64 p.c) := fun q => q.slot Gr.out rfl
                have r2 : ∀ q : Wd q1.w, q.w.cell? ⟨gb, 2, none⟩ = some (.string p.z) := fun q => q.slot Gr.out rfl
                have r3 : ∀ q : Wd q1.w, q.w.cell? ⟨gb, 3, none⟩ = some (.slice (some ⟨b2, o2, none⟩) vl vc) := fun q => q.slot Gr.out rfl
                have r4 : ∀ q : Wd q1.w, q.w.cell? ⟨gb, 4, none⟩ = some (.string p.d) := fun q => q.slot Gr.out rfl
                have r5 : ∀ q : Wd q1.w, q.w.cell? ⟨gb, 5, none⟩ = some (.int .i64 p.p) := fun q => q.slot Gr.out rfl
                have tw : ∀ q : Wd q1.w, q.w.cell? ⟨b2, o2 + kq, none⟩ = some (.string t) := fun q => (q.cell (hb1)).trans (hc1)
                have hne0 := Wd.ne q1.w
                have HC0 := hidK (fun q : Wd q1.w => sxxd_miss ⟨(some ⟨b1, o1, none⟩), l1, y1, a2, l2, y2, (some ⟨b3, o3, none⟩), l3, y3, a4, l4, y4, (some ⟨b, o, none⟩), l5, y5⟩ c.now c.xs t q.w (HR.out.x.below (HW.out.trans (q.b.mono HW.out.size))) (fun i x h1 h2 => HG.out ⟨i, x, h1, h2⟩))
                go_wp2_with fail
                refine wp_region_wide (by kernel_rfl) (by kernel_rfl) ?_
                repeat (go_big_quiet_step (first | (go_at_call 113; exact Calls.wide (HC0.out _)) | fail))
                refine wpQuiet_nil ?_
                rintro _ ⟨q2, rfl⟩
                have HB2 := hidK (HW.out.trans (q2.b.mono HW.out.size))
                have Ck := hidK ((q2.b.block _ (lt_of_some Gk.out)).trans Gk.out)
                have Cr := hidK ((q2.b.block _ (lt_of_some Gr.out)).trans Gr.out)
                clear hne0 HW HB HC0 k0 k1 k2 k3 k4 k5 r0 r1 r2 r3 r4 r5 tw Gk Gr Bk Br hc1 hb1
                have HB := HB2
                clear HB2
                have Bk := Ck
                clear Ck
                have Br := Cr
                clear Cr
                go_wp2
                go_ret
                refine BoolB.f (fun h => ?_) HB.out
                have h9 := (h.1 k p HXp.out).2.1 kq t HXt.out
                exact HG.out h9.1
              obtain ⟨i4, x4, g1, g2⟩ := hg
              have HG1 := hidK g1
              have HG2 := hidK g2
              have hi41 : decide ((i4 : Int) < 0) = false := by simp
              clear g1 g2
              have hbv : b3 < q1.w.heap.size := Nat.lt_of_lt_of_le HB3.out HB.out.size
              have v2 := (cell_below HB.out HB3.out).trans HC2.out
              have hbn : b1 < q1.w.heap.size := Nat.lt_of_lt_of_le HBn.out HB.out.size
              have n1 := (cell_below HB.out HBn.out).trans HCn.out
              by_cases hz : v.z = n.z
              · have hzq := tl_yes hz
                have HZ := hidK hz
                clear hz
                have Gk : Hid (q1.w.heap[w.heap.size]? = some (.cells #[.slice (some ⟨b1, o1, none⟩) l1 y1, .slice a2 l2 y2, .slice (some ⟨b3, o3, none⟩) l3 y3, .slice a4 l4 y4, .slice (some ⟨b, o, none⟩) l5 y5, .int .i64 c.now] 37 (0, 0))) := Bk.out
                have Gr : Hid (q1.w.heap[gb]? = some (.cells #[.string p.n, .int .i64 p.c, .string p.z, .slice (some ⟨b2, o2, none⟩) vl vc, .string p.d, .int .i64 p.p] 76 (0, 0))) := Br.out
                have HW : Hid (Below w.heap.size w q1.w) := HB.out
                have k0 : ∀ q : Wd q1.w, q.w.cell? ⟨w.heap.size, 0, none⟩ = some (.slice (some ⟨b1, o1, none⟩) l1 y1) := fun q => q.slot Gk.out rfl
                have k1 : ∀ q : Wd q1.w, q.w.cell? ⟨w.heap.size, 1, none⟩ = some (.slice a2 l2 y2) := fun q => q.slot Gk.out rfl
                have k2 : ∀ q : Wd q1.w, q.w.cell? ⟨w.heap.size, 2, none⟩ = some (.slice (some ⟨b3, o3, none⟩) l3 y3) := fun q => q.slot Gk.out rfl
                have k3 : ∀ q : Wd q1.w, q.w.cell? ⟨w.heap.size, 3, none⟩ = some (.slice a4 l4 y4) := fun q => q.slot Gk.out rfl
                have k4 : ∀ q : Wd q1.w, q.w.cell? ⟨w.heap.size, 4, none⟩ = some (.slice (some ⟨b, o, none⟩) l5 y5) := fun q => q.slot Gk.out rfl
                have k5 : ∀ q : Wd q1.w, q.w.cell? ⟨w.heap.size, 5, none⟩ = some (.int .i64 c.now) := fun q => q.slot Gk.out rfl
                have r0 : ∀ q : Wd q1.w, q.w.cell? ⟨gb, 0, none⟩ = some (.string p.n) := fun q => q.slot Gr.out rfl
                have r1 : ∀ q : Wd q1.w, q.w.cell? ⟨gb, 1, none⟩ = some (.int .i64 p.c) := fun q => q.slot Gr.out rfl
                have r2 : ∀ q : Wd q1.w, q.w.cell? ⟨gb, 2, none⟩ = some (.string p.z) := fun q => q.slot Gr.out rfl
                have r3 : ∀ q : Wd q1.w, q.w.cell? ⟨gb, 3, none⟩ = some (.slice (some ⟨b2, o2, none⟩) vl vc) := fun q => q.slot Gr.out rfl
                have r4 : ∀ q : Wd q1.w, q.w.cell? ⟨gb, 4, none⟩ = some (.string p.d) := fun q => q.slot Gr.out rfl
                have r5 : ∀ q : Wd q1.w, q.w.cell? ⟨gb, 5, none⟩ = some (.int .i64 p.p) := fun q => q.slot Gr.out rfl
                have tw : ∀ q : Wd q1.w, q.w.cell? ⟨b2, o2 + kq, none⟩ = some (.string t) := fun q => (q.cell (hb1)).trans (hc1)
                have vw : ∀ q : Wd q1.w, q.w.cell? ⟨b3, o3 + j3 * 8 + 2, none⟩ = some (.string v.z) := fun q => (q.cell (hbv)).trans (v2)
                have nw : ∀ q : Wd q1.w, q.w.cell? ⟨b1, o1 + j1 * 7 + 1, none⟩ = some (.string n.z) := fun q => (q.cell (hbn)).trans (n1)
                have hne0 := Wd.ne q1.w
                have HC0 := hidK (fun q : Wd q1.w => sxxd_hit ⟨(some ⟨b1, o1, none⟩), l1, y1, a2, l2, y2, (some ⟨b3, o3, none⟩), l3, y3, a4, l4, y4, (some ⟨b, o, none⟩), l5, y5⟩ c.now c.xs t q.w (HR.out.x.below (HW.out.trans (q.b.mono HW.out.size))) HX.out HG1.out HG2.out)
                go_wp2_with fail
                refine wp_region_wide (by kernel_rfl) (by kernel_rfl) ?_
                repeat (go_big_quiet_step (first | (go_at_call 113; exact Calls.wide (HC0.out _)) | fail))
                refine wpQuiet_nil ?_
                rintro _ ⟨q2, rfl⟩
                have HB2 := hidK (HW.out.trans (q2.b.mono HW.out.size))
                have Ck := hidK ((q2.b.block _ (lt_of_some Gk.out)).trans Gk.out)
                have Cr := hidK ((q2.b.block _ (lt_of_some Gr.out)).trans Gr.out)
                clear hne0 HW HB HC0 k0 k1 k2 k3 k4 k5 r0 r1 r2 r3 r4 r5 tw vw nw Gk Gr Bk Br hc1 hb1 hbv v2 hbn n1
                have HB := HB2
                clear HB2
                have Bk := Ck
                clear Ck
                have Br := Cr
                clear Cr
                clear hzq
                go_wp2_with fail
                refine ⟨⟨kq + 1, by omega, by go_num, fun j s hj hs => ?_, HBW1.out.trans (q2.b.mono HBW1.out.size)⟩, by simp [intOf]; omega⟩
                by_cases e : j = kq
                · subst e
                  rw [HXt.out] at hs
                  obtain rfl := Option.some.inj hs
                  exact ⟨⟨i4, x4, HG1.out, HG2.out⟩, .inr ⟨v, j1, n, HD.out, HJn.out, HNn.out, HZ.out⟩⟩
                · exact HQ2.out j s (by omega) hs
              · have hzq := tl_no hz
                have HZ := hidK hz
                clear hz
                have Gk : Hid (q1.w.heap[w.heap.size]? = some (.cells #[.slice (some ⟨b1, o1, none⟩) l1 y1, .slice a2 l2 y2, .slice (some ⟨b3, o3, none⟩) l3 y3, .slice a4 l4 y4, .slice (some ⟨b, o, none⟩) l5 y5, .int .i64 c.now] 37 (0, 0))) := Bk.out
                have Gr : Hid (q1.w.heap[gb]? = some (.cells #[.string p.n, .int .i64 p.c, .string p.z, .slice (some ⟨b2, o2, none⟩) vl vc, .string p.d, .int .i64 p.p] 76 (0, 0))) := Br.out
                have HW : Hid (Below w.heap.size w q1.w) := HB.out
                have k0 : ∀ q : Wd q1.w, q.w.cell? ⟨w.heap.size, 0, none⟩ = some (.slice (some ⟨b1, o1, none⟩) l1 y1) := fun q => q.slot Gk.out rfl
                have k1 : ∀ q : Wd q1.w, q.w.cell? ⟨w.heap.size, 1, none⟩ = some (.slice a2 l2 y2) := fun q => q.slot Gk.out rfl
                have k2 : ∀ q : Wd q1.w, q.w.cell? ⟨w.heap.size, 2, none⟩ = some (.slice (some ⟨b3, o3, none⟩) l3 y3) := fun q => q.slot Gk.out rfl
                have k3 : ∀ q : Wd q1.w, q.w.cell? ⟨w.heap.size, 3, none⟩ = some (.slice a4 l4 y4) := fun q => q.slot Gk.out rfl
                have k4 : ∀ q : Wd q1.w, q.w.cell? ⟨w.heap.size, 4, none⟩ = some (.slice (some ⟨b, o, none⟩) l5 y5) := fun q => q.slot Gk.out rfl
                have k5 : ∀ q : Wd q1.w, q.w.cell? ⟨w.heap.size, 5, none⟩ = some (.int .i64 c.now) := fun q => q.slot Gk.out rfl
                have r0 : ∀ q : Wd q1.w, q.w.cell? ⟨gb, 0, none⟩ = some (.string p.n) := fun q => q.slot Gr.out rfl
                have r1 : ∀ q : Wd q1.w, q.w.cell? ⟨gb, 1, none⟩ = some (.int .i64 p.c) := fun q => q.slot Gr.out rfl
                have r2 : ∀ q : Wd q1.w, q.w.cell? ⟨gb, 2, none⟩ = some (.string p.z) := fun q => q.slot Gr.out rfl
                have r3 : ∀ q : Wd q1.w, q.w.cell? ⟨gb, 3, none⟩ = some (.slice (some ⟨b2, o2, none⟩) vl vc) := fun q => q.slot Gr.out rfl
                have r4 : ∀ q : Wd q1.w, q.w.cell? ⟨gb, 4, none⟩ = some (.string p.d) := fun q => q.slot Gr.out rfl
                have r5 : ∀ q : Wd q1.w, q.w.cell? ⟨gb, 5, none⟩ = some (.int .i64 p.p) := fun q => q.slot Gr.out rfl
                have tw : ∀ q : Wd q1.w, q.w.cell? ⟨b2, o2 + kq, none⟩ = some (.string t) := fun q => (q.cell (hb1)).trans (hc1)
                have vw : ∀ q : Wd q1.w, q.w.cell? ⟨b3, o3 + j3 * 8 + 2, none⟩ = some (.string v.z) := fun q => (q.cell (hbv)).trans (v2)
                have nw : ∀ q : Wd q1.w, q.w.cell? ⟨b1, o1 + j1 * 7 + 1, none⟩ = some (.string n.z) := fun q => (q.cell (hbn)).trans (n1)
                have hne0 := Wd.ne q1.w
                have HC0 := hidK (fun q : Wd q1.w => sxxd_hit ⟨(some ⟨b1, o1, none⟩), l1, y1, a2, l2, y2, (some ⟨b3, o3, none⟩), l3, y3, a4, l4, y4, (some ⟨b, o, none⟩), l5, y5⟩ c.now c.xs t q.w (HR.out.x.below (HW.out.trans (q.b.mono HW.out.size))) HX.out HG1.out HG2.out)
                go_wp2_with fail
                refine wp_region_wide (by kernel_rfl) (by kernel_rfl) ?_
                repeat (go_big_quiet_step (first | (go_at_call 113; exact Calls.wide (HC0.out _)) | fail))
                refine wpQuiet_nil ?_
                rintro _ ⟨q2, rfl⟩
                have HB2 := hidK (HW.out.trans (q2.b.mono HW.out.size))
                have Ck := hidK ((q2.b.block _ (lt_of_some Gk.out)).trans Gk.out)
                have Cr := hidK ((q2.b.block _ (lt_of_some Gr.out)).trans Gr.out)
                clear hne0 HW HB HC0 k0 k1 k2 k3 k4 k5 r0 r1 r2 r3 r4 r5 tw vw nw Gk Gr Bk Br hc1 hb1 hbv v2 hbn n1
                have HB := HB2
                clear HB2
                have Bk := Ck
                clear Ck
                have Br := Cr
                clear Cr
                go_wp2
                go_ret
                refine BoolB.f (fun h => ?_) HB.out
                have h9 := (h.1 k p HXp.out).2.1 kq t HXt.out
                rcases h9.2 with h2 | ⟨v', i, n', h2, h3, h4, h5⟩
                · exact HEm.out h2
                · obtain rfl := IsBd.inj HX.out HV.out HD.out h2
                  obtain ⟨_, rfl⟩ := HNR.out.inj h3 HJn.out (h4.trans HNn.out.symm)
                  exact HZ.out h5
            · have HD := hidK hbd
              clear hbd
              have Gk : Hid (wr.heap[w.heap.size]? = some (.cells #[.slice (some ⟨b1, o1, none⟩) l1 y1, .slice a2 l2 y2, .slice a3 l3 y3, .slice a4 l4 y4, .slice (some ⟨b, o, none⟩) l5 y5, .int .i64 c.now] 37 (0, 0))) := Bk.out
              have Gr : Hid (wr.heap[gb]? = some (.cells #[.string p.n, .int .i64 p.c, .string p.z, .slice (some ⟨b2, o2, none⟩) vl vc, .string p.d, .int .i64 p.p] 76 (0, 0))) := Br.out
              have HW : Hid (Below w.heap.size w wr) := HB.out
              have k0 : ∀ q : Wd wr, q.w.cell? ⟨w.heap.size, 0, none⟩ = some (.slice (some ⟨b1, o1, none⟩) l1 y1) := fun q => q.slot Gk.out rfl
              have k1 : ∀ q : Wd wr, q.w.cell? ⟨w.heap.size, 1, none⟩ = some (.slice a2 l2 y2) := fun q => q.slot Gk.out rfl
              have k2 : ∀ q : Wd wr, q.w.cell? ⟨w.heap.size, 2, none⟩ = some (.slice a3 l3 y3) := fun q => q.slot Gk.out rfl
              have k3 : ∀ q : Wd wr, q.w.cell? ⟨w.heap.size, 3, none⟩ = some (.slice a4 l4 y4) := fun q => q.slot Gk.out rfl
              have k4 : ∀ q : Wd wr, q.w.cell? ⟨w.heap.size, 4, none⟩ = some (.slice (some ⟨b, o, none⟩) l5 y5) := fun q => q.slot Gk.out rfl
              have k5 : ∀ q : Wd wr, q.w.cell? ⟨w.heap.size, 5, none⟩ = some (.int .i64 c.now) := fun q => q.slot Gk.out rfl
              have r3 : ∀ q : Wd wr, q.w.cell? ⟨gb, 3, none⟩ = some (.slice (some ⟨b2, o2, none⟩) vl vc) := fun q => q.slot Gr.out rfl
              have tw : ∀ q : Wd wr, q.w.cell? ⟨b2, o2 + kq, none⟩ = some (.string t) := fun q => (q.cell (hb)).trans (hc)
              have hne0 := Wd.ne wr
              have HC0 := hidK (fun q : Wd wr => sbind_miss ⟨(some ⟨b1, o1, none⟩), l1, y1, a2, l2, y2, a3, l3, y3, a4, l4, y4, (some ⟨b, o, none⟩), l5, y5⟩ c t q.w (HR.out.below (HW.out.trans (q.b.mono HW.out.size))) HX.out HV.out HNE.out HD.out)
              go_wp2_with fail
              refine wp_region_wide (by kernel_rfl) (by kernel_rfl) ?_
              repeat (go_big_quiet_step (first | (go_at_call 128; exact Calls.wide (HC0.out _)) | fail))
              refine wpQuiet_nil ?_
              rintro _ ⟨q1, rfl⟩
              have HB1 := hidK (HW.out.trans (q1.b.mono HW.out.size))
              have Ck := hidK ((q1.b.block _ (lt_of_some Gk.out)).trans Gk.out)
              have Cr := hidK ((q1.b.block _ (lt_of_some Gr.out)).trans Gr.out)
              clear hne0 HW HB HC0 k0 k1 k2 k3 k4 k5 r3 tw Gk Gr Bk Br pr3
              have HB := HB1
              clear HB1
              have Bk := Ck
              clear Ck
              have Br := Cr
              clear Cr
              have hc1 := (q1.cell hb).trans hc
              have hb1 : b2 < q1.w.heap.size := Nat.lt_of_lt_of_le hb q1.b.size
              have HBW1 := hidK (HBW.out.trans (q1.b.mono HBW.out.size))
              clear hc hb HBW
              by_cases hg : ∃ (i : Nat) (x : Xd), c.xs[i]? = some x ∧ x.n = t
              rotate_left
              · have HG := hidK hg
                clear hg
                have Gk : Hid (q1.w.heap[w.heap.size]? = some (.cells #[.slice (some ⟨b1, o1, none⟩) l1 y1, .slice a2 l2 y2, .slice a3 l3 y3, .slice a4 l4 y4, .slice (some ⟨b, o, none⟩) l5 y5, .int .i64 c.now] 37 (0, 0))) := Bk.out
                have Gr : Hid (q1.w.heap[gb]? = some (.cells #[.string p.n, .int .i64 p.c, .string p.z, .slice (some ⟨b2, o2, none⟩) vl vc, .string p.d, .int .i64 p.p] 76 (0, 0))) := Br.out
                have HW : Hid (Below w.heap.size w q1.w) := HB.out
                have k0 : ∀ q : Wd q1.w, q.w.cell? ⟨w.heap.size, 0, none⟩ = some (.slice (some ⟨b1, o1, none⟩) l1 y1) := fun q => q.slot Gk.out rfl
                have k1 : ∀ q : Wd q1.w, q.w.cell? ⟨w.heap.size, 1, none⟩ = some (.slice a2 l2 y2) := fun q => q.slot Gk.out rfl
                have k2 : ∀ q : Wd q1.w, q.w.cell? ⟨w.heap.size, 2, none⟩ = some (.slice a3 l3 y3) := fun q => q.slot Gk.out rfl
                have k3 : ∀ q : Wd q1.w, q.w.cell? ⟨w.heap.size, 3, none⟩ = some (.slice a4 l4 y4) := fun q => q.slot Gk.out rfl
                have k4 : ∀ q : Wd q1.w, q.w.cell? ⟨w.heap.size, 4, none⟩ = some (.slice (some ⟨b, o, none⟩) l5 y5) := fun q => q.slot Gk.out rfl
                have k5 : ∀ q : Wd q1.w, q.w.cell? ⟨w.heap.size, 5, none⟩ = some (.int .i64 c.now) := fun q => q.slot Gk.out rfl
                have r0 : ∀ q : Wd q1.w, q.w.cell? ⟨gb, 0, none⟩ = some (.string p.n) := fun q => q.slot Gr.out rfl
                have r1 : ∀ q : Wd q1.w, q.w.cell? ⟨gb, 1, none⟩ = some (.int .i64 p.c) := fun q => q.slot Gr.out rfl
                have r2 : ∀ q : Wd q1.w, q.w.cell? ⟨gb, 2, none⟩ = some (.string p.z) := fun q => q.slot Gr.out rfl
                have r3 : ∀ q : Wd q1.w, q.w.cell? ⟨gb, 3, none⟩ = some (.slice (some ⟨b2, o2, none⟩) vl vc) := fun q => q.slot Gr.out rfl
                have r4 : ∀ q : Wd q1.w, q.w.cell? ⟨gb, 4, none⟩ = some (.string p.d) := fun q => q.slot Gr.out rfl
                have r5 : ∀ q : Wd q1.w, q.w.cell? ⟨gb, 5, none⟩ = some (.int .i64 p.p) := fun q => q.slot Gr.out rfl
                have tw : ∀ q : Wd q1.w, q.w.cell? ⟨b2, o2 + kq, none⟩ = some (.string t) := fun q => (q.cell (hb1)).trans (hc1)
                have hne0 := Wd.ne q1.w
                have HC0 := hidK (fun q : Wd q1.w => sxxd_miss ⟨(some ⟨b1, o1, none⟩), l1, y1, a2, l2, y2, a3, l3, y3, a4, l4, y4, (some ⟨b, o, none⟩), l5, y5⟩ c.now c.xs t q.w (HR.out.x.below (HW.out.trans (q.b.mono HW.out.size))) (fun i x h1 h2 => HG.out ⟨i, x, h1, h2⟩))
                go_wp2_with fail
                refine wp_region_wide (by kernel_rfl) (by kernel_rfl) ?_
                repeat (go_big_quiet_step (first | (go_at_call 113; exact Calls.wide (HC0.out _)) | fail))
                refine wpQuiet_nil ?_
                rintro _ ⟨q2, rfl⟩
                have HB2 := hidK (HW.out.trans (q2.b.mono HW.out.size))
                have Ck := hidK ((q2.b.block _ (lt_of_some Gk.out)).trans Gk.out)
                have Cr := hidK ((q2.b.block _ (lt_of_some Gr.out)).trans Gr.out)
                clear hne0 HW HB HC0 k0 k1 k2 k3 k4 k5 r0 r1 r2 r3 r4 r5 tw Gk Gr Bk Br hc1 hb1
                have HB := HB2
                clear HB2
                have Bk := Ck
                clear Ck
                have Br := Cr
                clear Cr
                go_wp2
                go_ret
                refine BoolB.f (fun h => ?_) HB.out
                have h9 := (h.1 k p HXp.out).2.1 kq t HXt.out
                exact HG.out h9.1
              obtain ⟨i4, x4, g1, g2⟩ := hg
              have HG1 := hidK g1
              have HG2 := hidK g2
              have hi41 : decide ((i4 : Int) < 0) = false := by simp
              clear g1 g2
              have Gk : Hid (q1.w.heap[w.heap.size]? = some (.cells #[.slice (some ⟨b1, o1, none⟩) l1 y1, .slice a2 l2 y2, .slice a3 l3 y3, .slice a4 l4 y4, .slice (some ⟨b, o, none⟩) l5 y5, .int .i64 c.now] 37 (0, 0))) := Bk.out
              have Gr : Hid (q1.w.heap[gb]? = some (.cells #[.string p.n, .int .i64 p.c, .string p.z, .slice (some ⟨b2, o2, none⟩) vl vc, .string p.d, .int .i64 p.p] 76 (0, 0))) := Br.out
              have HW : Hid (Below w.heap.size w q1.w) := HB.out
              have k0 : ∀ q : Wd q1.w, q.w.cell? ⟨w.heap.size, 0, none⟩ = some (.slice (some ⟨b1, o1, none⟩) l1 y1) := fun q => q.slot Gk.out rfl
              have k1 : ∀ q : Wd q1.w, q.w.cell? ⟨w.heap.size, 1, none⟩ = some (.slice a2 l2 y2) := fun q => q.slot Gk.out rfl
              have k2 : ∀ q : Wd q1.w, q.w.cell? ⟨w.heap.size, 2, none⟩ = some (.slice a3 l3 y3) := fun q => q.slot Gk.out rfl
              have k3 : ∀ q : Wd q1.w, q.w.cell? ⟨w.heap.size, 3, none⟩ = some (.slice a4 l4 y4) := fun q => q.slot Gk.out rfl
              have k4 : ∀ q : Wd q1.w, q.w.cell? ⟨w.heap.size, 4, none⟩ = some (.slice (some ⟨b, o, none⟩) l5 y5) := fun q => q.slot Gk.out rfl
              have k5 : ∀ q : Wd q1.w, q.w.cell? ⟨w.heap.size, 5, none⟩ = some (.int .i64 c.now) := fun q => q.slot Gk.out rfl
              have r0 : ∀ q : Wd q1.w, q.w.cell? ⟨gb, 0, none⟩ = some (.string p.n) := fun q => q.slot Gr.out rfl
              have r1 : ∀ q : Wd q1.w, q.w.cell? ⟨gb, 1, none⟩ = some (.int .i64 p.c) := fun q => q.slot Gr.out rfl
              have r2 : ∀ q : Wd q1.w, q.w.cell? ⟨gb, 2, none⟩ = some (.string p.z) := fun q => q.slot Gr.out rfl
              have r3 : ∀ q : Wd q1.w, q.w.cell? ⟨gb, 3, none⟩ = some (.slice (some ⟨b2, o2, none⟩) vl vc) := fun q => q.slot Gr.out rfl
              have r4 : ∀ q : Wd q1.w, q.w.cell? ⟨gb, 4, none⟩ = some (.string p.d) := fun q => q.slot Gr.out rfl
              have r5 : ∀ q : Wd q1.w, q.w.cell? ⟨gb, 5, none⟩ = some (.int .i64 p.p) := fun q => q.slot Gr.out rfl
              have tw : ∀ q : Wd q1.w, q.w.cell? ⟨b2, o2 + kq, none⟩ = some (.string t) := fun q => (q.cell (hb1)).trans (hc1)
              have hne0 := Wd.ne q1.w
              have HC0 := hidK (fun q : Wd q1.w => sxxd_hit ⟨(some ⟨b1, o1, none⟩), l1, y1, a2, l2, y2, a3, l3, y3, a4, l4, y4, (some ⟨b, o, none⟩), l5, y5⟩ c.now c.xs t q.w (HR.out.x.below (HW.out.trans (q.b.mono HW.out.size))) HX.out HG1.out HG2.out)
              go_wp2_with fail
              refine wp_region_wide (by kernel_rfl) (by kernel_rfl) ?_
              repeat (go_big_quiet_step (first | (go_at_call 113; exact Calls.wide (HC0.out _)) | fail))
              refine wpQuiet_nil ?_
              rintro _ ⟨q2, rfl⟩
              have HB2 := hidK (HW.out.trans (q2.b.mono HW.out.size))
              have Ck := hidK ((q2.b.block _ (lt_of_some Gk.out)).trans Gk.out)
              have Cr := hidK ((q2.b.block _ (lt_of_some Gr.out)).trans Gr.out)
              clear hne0 HW HB HC0 k0 k1 k2 k3 k4 k5 r0 r1 r2 r3 r4 r5 tw Gk Gr Bk Br hc1 hb1
              have HB := HB2
              clear HB2
              have Bk := Ck
              clear Ck
              have Br := Cr
              clear Cr
              go_wp2
              go_ret
              refine BoolB.f (fun h => ?_) HB.out
              have h9 := (h.1 k p HXp.out).2.1 kq t HXt.out
              rcases h9.2 with h2 | ⟨v', i, n', h2, _⟩
              · exact HEm.out h2
              · exact HD.out v' h2
          · obtain rfl : vl = kq := by omega
            have HQb : Hid (PSb c p) := fun j t ht => HQ2.out j t (by have h1 := (List.getElem?_eq_some_iff.1 ht).1; have h2 := HVL.out; omega) ht
            clear HQ2
            have TV2 := hidK (TV.out.below HBW.out)
            have KV2 := Bk
            have GV2 := Br
            have BV2 := HB
            clear KV GV BV TV Bk Br HB HBW
            obtain ⟨W2, hW⟩ : ∃ W2, W2 = wr := ⟨_, rfl⟩
            rw [← hW] at KV2 GV2 BV2 TV2
            go_wp2
            clear pr3
            rw [← hW]
            clear hW
            go_loopw [8] (fun i wr => ∃ kz : Nat, kz ≤ k ∧ i = .int .i64 kz ∧ Hid (∀ (j : Nat) q, j < kz → c.ps[j]? = some q → PairS c q p) ∧ Hid (Below W2.heap.size W2 wr)) (fun i _ => k - (intOf i).toNat)
            case atStart => exact ⟨0, by omega, rfl, fun _ _ h => absurd h (by omega), Below.refl _ _⟩
            case round =>
              obtain ⟨kz, hkz, rfl, HQ3, HBW⟩ := hrel
              have HB := hidK (BV2.out.trans (HBW.out.mono BV2.out.size))
              have Bk := hidK ((HBW.out.block _ (lt_of_some KV2.out)).trans KV2.out)
              have Br := hidK ((HBW.out.block _ (lt_of_some GV2.out)).trans GV2.out)
              have HTp := hidK (TV2.out.below HBW.out)
              by_cases hlt3 : kz < k
              · obtain ⟨b', o', pq, e', hb', hqq, hatq⟩ := pd_at (HR.out.p.below HB.out) (show kz < l5 by omega)
                cases e'
                obtain ⟨qa, ql, qc, hqr, z0, z2, z4, d0, d1, d2, d3, d4, d5⟩ := pd_cells hatq
                have HXq := hidK hqq
                have HTq := hidK hqr
                clear hatq hqq hqr z0 z2 z4
                by_cases hpr : PairS c pq p
                · have HPr := hidK hpr
                  clear hpr
                  have Gk : Hid (wr.heap[w.heap.size]? = some (.cells #[.slice (some ⟨b1, o1, none⟩) l1 y1, .slice a2 l2 y2, .slice a3 l3 y3, .slice a4 l4 y4, .slice (some ⟨b, o, none⟩) l5 y5, .int .i64 c.now] 37 (0, 0))) := Bk.out
                  have Gr : Hid (wr.heap[gb]? = some (.cells #[.string p.n, .int .i64 p.c, .string p.z, .slice va vl vc, .string p.d, .int .i64 p.p] 76 (0, 0))) := Br.out
                  have HW : Hid (Below w.heap.size w wr) := HB.out
                  have k0 : ∀ q : Wd wr, q.w.cell? ⟨w.heap.size, 0, none⟩ = some (.slice (some ⟨b1, o1, none⟩) l1 y1) := fun q => q.slot Gk.out rfl
                  have k1 : ∀ q : Wd wr, q.w.cell? ⟨w.heap.size, 1, none⟩ = some (.slice a2 l2 y2) := fun q => q.slot Gk.out rfl
                  have k2 : ∀ q : Wd wr, q.w.cell? ⟨w.heap.size, 2, none⟩ = some (.slice a3 l3 y3) := fun q => q.slot Gk.out rfl
                  have k3 : ∀ q : Wd wr, q.w.cell? ⟨w.heap.size, 3, none⟩ = some (.slice a4 l4 y4) := fun q => q.slot Gk.out rfl
                  have k4 : ∀ q : Wd wr, q.w.cell? ⟨w.heap.size, 4, none⟩ = some (.slice (some ⟨b, o, none⟩) l5 y5) := fun q => q.slot Gk.out rfl
                  have k5 : ∀ q : Wd wr, q.w.cell? ⟨w.heap.size, 5, none⟩ = some (.int .i64 c.now) := fun q => q.slot Gk.out rfl
                  have r0 : ∀ q : Wd wr, q.w.cell? ⟨gb, 0, none⟩ = some (.string p.n) := fun q => q.slot Gr.out rfl
                  have r1 : ∀ q : Wd wr, q.w.cell? ⟨gb, 1, none⟩ = some (.int .i64 p.c) := fun q => q.slot Gr.out rfl
                  have r2 : ∀ q : Wd wr, q.w.cell? ⟨gb, 2, none⟩ = some (.string p.z) := fun q => q.slot Gr.out rfl
                  have r3 : ∀ q : Wd wr, q.w.cell? ⟨gb, 3, none⟩ = some (.slice va vl vc) := fun q => q.slot Gr.out rfl
                  have r4 : ∀ q : Wd wr, q.w.cell? ⟨gb, 4, none⟩ = some (.string p.d) := fun q => q.slot Gr.out rfl
                  have r5 : ∀ q : Wd wr, q.w.cell? ⟨gb, 5, none⟩ = some (.int .i64 p.p) := fun q => q.slot Gr.out rfl
                  have q0 : ∀ q : Wd wr, q.w.cell? ⟨b, o + kz * 6, none⟩ = some (.string pq.n) := fun q => (q.cell (hb')).trans (d0)
                  have q1 : ∀ q : Wd wr, q.w.cell? ⟨b, o + kz * 6 + 1, none⟩ = some (.int .i64 pq.c) := fun q => (q.cell (hb')).trans (d1)
                  have q2 : ∀ q : Wd wr, q.w.cell? ⟨b, o + kz * 6 + 2, none⟩ = some (.string pq.z) := fun q => (q.cell (hb')).trans (d2)
                  have q3 : ∀ q : Wd wr, q.w.cell? ⟨b, o + kz * 6 + 3, none⟩ = some (.slice qa ql qc) := fun q => (q.cell (hb')).trans (d3)
                  have q4 : ∀ q : Wd wr, q.w.cell? ⟨b, o + kz * 6 + 4, none⟩ = some (.string pq.d) := fun q => (q.cell (hb')).trans (d4)
                  have q5 : ∀ q : Wd wr, q.w.cell? ⟨b, o + kz * 6 + 5, none⟩ = some (.int .i64 pq.p) := fun q => (q.cell (hb')).trans (d5)
                  have hne0 := Wd.ne wr
                  have HC0 := hidK (fun qw : Wd wr => (spair_any ⟨(some ⟨b1, o1, none⟩), l1, y1, a2, l2, y2, a3, l3, y3, a4, l4, y4, (some ⟨b, o, none⟩), l5, y5⟩ c pq p qa ql qc va vl vc qw.w (HR.out.below (HW.out.trans (qw.b.mono HW.out.size))) HX.out HV.out HNE.out (HTq.out.below qw.b) (HTp.out.below qw.b)).mono (fun _ _ h => BoolB.yes h HPr.out))
                  go_wp2_with fail
                  refine wp_region_wide (by kernel_rfl) (by kernel_rfl) ?_
                  repeat (go_big_quiet_step (first | (go_at_call 140; exact Calls.wide (HC0.out _)) | fail))
                  refine wpQuiet_nil ?_
                  rintro _ ⟨q9, rfl⟩
                  have HB1 := hidK (HW.out.trans (q9.b.mono HW.out.size))
                  have Ck := hidK ((q9.b.block _ (lt_of_some Gk.out)).trans Gk.out)
                  have Cr := hidK ((q9.b.block _ (lt_of_some Gr.out)).trans Gr.out)
                  clear hne0 HW HB HC0 k0 k1 k2 k3 k4 k5 r0 r1 r2 r3 r4 r5 q0 q1 q2 q3 q4 q5 Gk Gr Bk Br d0 d1 d2 d3 d4 d5
                  have HB := HB1
                  clear HB1
                  have Bk := Ck
                  clear Ck
                  have Br := Cr
                  clear Cr
                  go_wp2_with fail
                  refine ⟨⟨kz + 1, by omega, by go_num, fun j s hj hs => ?_, HBW.out.trans (q9.b.mono HBW.out.size)⟩, by simp [intOf]; omega⟩
                  by_cases e : j = kz
                  · subst e
                    rw [HXq.out] at hs
                    obtain rfl := Option.some.inj hs
                    exact HPr.out
                  · exact HQ3.out j s (by omega) hs
                · have HPr := hidK hpr
                  clear hpr
                  have Gk : Hid (wr.heap[w.heap.size]? = some (.cells #[.slice (some ⟨b1, o1, none⟩) l1 y1, .slice a2 l2 y2, .slice a3 l3 y3, .slice a4 l4 y4, .slice (some ⟨b, o, none⟩) l5 y5, .int .i64 c.now] 37 (0, 0))) := Bk.out
                  have Gr : Hid (wr.heap[gb]? = some (.cells #[.string p.n, .int .i64 p.c, .string p.z, .slice va vl vc, .string p.d, .int .i64 p.p] 76 (0, 0))) := Br.out
                  have HW : Hid (Below w.heap.size w wr) := HB.out
                  have k0 : ∀ q : Wd wr, q.w.cell? ⟨w.heap.size, 0, none⟩ = some (.slice (some ⟨b1, o1, none⟩) l1 y1) := fun q => q.slot Gk.out rfl
                  have k1 : ∀ q : Wd wr, q.w.cell? ⟨w.heap.size, 1, none⟩ = some (.slice a2 l2 y2) := fun q => q.slot Gk.out rfl
                  have k2 : ∀ q : Wd wr, q.w.cell? ⟨w.heap.size, 2, none⟩ = some (.slice a3 l3 y3) := fun q => q.slot Gk.out rfl
                  have k3 : ∀ q : Wd wr, q.w.cell? ⟨w.heap.size, 3, none⟩ = some (.slice a4 l4 y4) := fun q => q.slot Gk.out rfl
                  have k4 : ∀ q : Wd wr, q.w.cell? ⟨w.heap.size, 4, none⟩ = some (.slice (some ⟨b, o, none⟩) l5 y5) := fun q => q.slot Gk.out rfl
                  have k5 : ∀ q : Wd wr, q.w.cell? ⟨w.heap.size, 5, none⟩ = some (.int .i64 c.now) := fun q => q.slot Gk.out rfl
                  have r0 : ∀ q : Wd wr, q.w.cell? ⟨gb, 0, none⟩ = some (.string p.n) := fun q => q.slot Gr.out rfl
                  have r1 : ∀ q : Wd wr, q.w.cell? ⟨gb, 1, none⟩ = some (.int .i64 p.c) := fun q => q.slot Gr.out rfl
                  have r2 : ∀ q : Wd wr, q.w.cell? ⟨gb, 2, none⟩ = some (.string p.z) := fun q => q.slot Gr.out rfl
                  have r3 : ∀ q : Wd wr, q.w.cell? ⟨gb, 3, none⟩ = some (.slice va vl vc) := fun q => q.slot Gr.out rfl
                  have r4 : ∀ q : Wd wr, q.w.cell? ⟨gb, 4, none⟩ = some (.string p.d) := fun q => q.slot Gr.out rfl
                  have r5 : ∀ q : Wd wr, q.w.cell? ⟨gb, 5, none⟩ = some (.int .i64 p.p) := fun q => q.slot Gr.out rfl
                  have q0 : ∀ q : Wd wr, q.w.cell? ⟨b, o + kz * 6, none⟩ = some (.string pq.n) := fun q => (q.cell (hb')).trans (d0)
                  have q1 : ∀ q : Wd wr, q.w.cell? ⟨b, o + kz * 6 + 1, none⟩ = some (.int .i64 pq.c) := fun q => (q.cell (hb')).trans (d1)
                  have q2 : ∀ q : Wd wr, q.w.cell? ⟨b, o + kz * 6 + 2, none⟩ = some (.string pq.z) := fun q => (q.cell (hb')).trans (d2)
                  have q3 : ∀ q : Wd wr, q.w.cell? ⟨b, o + kz * 6 + 3, none⟩ = some (.slice qa ql qc) := fun q => (q.cell (hb')).trans (d3)
                  have q4 : ∀ q : Wd wr, q.w.cell? ⟨b, o + kz * 6 + 4, none⟩ = some (.string pq.d) := fun q => (q.cell (hb')).trans (d4)
                  have q5 : ∀ q : Wd wr, q.w.cell? ⟨b, o + kz * 6 + 5, none⟩ = some (.int .i64 pq.p) := fun q => (q.cell (hb')).trans (d5)
                  have hne0 := Wd.ne wr
                  have HC0 := hidK (fun qw : Wd wr => (spair_any ⟨(some ⟨b1, o1, none⟩), l1, y1, a2, l2, y2, a3, l3, y3, a4, l4, y4, (some ⟨b, o, none⟩), l5, y5⟩ c pq p qa ql qc va vl vc qw.w (HR.out.below (HW.out.trans (qw.b.mono HW.out.size))) HX.out HV.out HNE.out (HTq.out.below qw.b) (HTp.out.below qw.b)).mono (fun _ _ h => BoolB.no h HPr.out))
                  go_wp2_with fail
                  refine wp_region_wide (by kernel_rfl) (by kernel_rfl) ?_
                  repeat (go_big_quiet_step (first | (go_at_call 140; exact Calls.wide (HC0.out _)) | fail))
                  refine wpQuiet_nil ?_
                  rintro _ ⟨q9, rfl⟩
                  have HB1 := hidK (HW.out.trans (q9.b.mono HW.out.size))
                  have Ck := hidK ((q9.b.block _ (lt_of_some Gk.out)).trans Gk.out)
                  have Cr := hidK ((q9.b.block _ (lt_of_some Gr.out)).trans Gr.out)
                  clear hne0 HW HB HC0 k0 k1 k2 k3 k4 k5 r0 r1 r2 r3 r4 r5 q0 q1 q2 q3 q4 q5 Gk Gr Bk Br d0 d1 d2 d3 d4 d5
                  have HB := HB1
                  clear HB1
                  have Bk := Ck
                  clear Ck
                  have Br := Cr
                  clear Cr
                  go_wp2
                  go_ret
                  exact BoolB.f (fun h => HPr.out ((h.1 k p HXp.out).2.2 kz pq hlt3 HXq.out)) HB.out
              · obtain rfl : k = kz := by omega
                go_wp2_with fail
                refine ⟨⟨k + 1, by omega, by go_num, fun j z hj hz => ?_, HB.out, Bk.out⟩, by simp [intOf]; omega⟩
                by_cases e : j = k
                · subst e
                  rw [HXp.out] at hz
                  obtain rfl := Option.some.inj hz
                  exact ⟨HPa.out, HQb.out, fun j2 q2 hj2 hq2 => HQ3.out j2 q2 hj2 hq2⟩
                · exact HQ.out j z (by omega) hz
      · have hq3 := tl_no hz1
        have HZ0 := hidK hz0
        have HZ1 := hidK hz1
        clear hz0 hz1
        have Gk : Hid (w1.heap[w.heap.size]? = some (.cells #[.slice (some ⟨b1, o1, none⟩) l1 y1, .slice a2 l2 y2, .slice a3 l3 y3, .slice a4 l4 y4, .slice (some ⟨b, o, none⟩) l5 y5, .int .i64 c.now] 37 (0, 0))) := Bk.out
        have Gr : Hid (w1.heap[wr.heap.size]? = some (.cells #[.string p.n, .int .i64 p.c, .string p.z, .slice va vl vc, .string p.d, .int .i64 p.p] 76 (0, 0))) := Br.out
        have HW : Hid (Below w.heap.size w w1) := HB.out
        have k0 : ∀ q : Wd w1, q.w.cell? ⟨w.heap.size, 0, none⟩ = some (.slice (some ⟨b1, o1, none⟩) l1 y1) := fun q => q.slot Gk.out rfl
        have r0 : ∀ q : Wd w1, q.w.cell? ⟨wr.heap.size, 0, none⟩ = some (.string p.n) := fun q => q.slot Gr.out rfl
        have r1 : ∀ q : Wd w1, q.w.cell? ⟨wr.heap.size, 1, none⟩ = some (.int .i64 p.c) := fun q => q.slot Gr.out rfl
        have r2 : ∀ q : Wd w1, q.w.cell? ⟨wr.heap.size, 2, none⟩ = some (.string p.z) := fun q => q.slot Gr.out rfl
        have r3 : ∀ q : Wd w1, q.w.cell? ⟨wr.heap.size, 3, none⟩ = some (.slice va vl vc) := fun q => q.slot Gr.out rfl
        have r4 : ∀ q : Wd w1, q.w.cell? ⟨wr.heap.size, 4, none⟩ = some (.string p.d) := fun q => q.slot Gr.out rfl
        have r5 : ∀ q : Wd w1, q.w.cell? ⟨wr.heap.size, 5, none⟩ = some (.int .i64 p.p) := fun q => q.slot Gr.out rfl
        have nw : ∀ q : Wd w1, q.w.cell? ⟨b1, o1 + j1 * 7 + 1, none⟩ = some (.string n.z) := fun q => (q.cell (hbn)).trans (n1)
        have hne0 := Wd.ne w1
        go_wp2_with fail
        refine wp_region_wide (by kernel_rfl) (by kernel_rfl) ?_
        repeat (go_big_quiet_step (first | fail))
        refine wpQuiet_nil ?_
        rintro _ ⟨q0, rfl⟩
        have HB2 := hidK (HW.out.trans (q0.b.mono HW.out.size))
        have Ck := hidK ((q0.b.block _ (lt_of_some Gk.out)).trans Gk.out)
        have Cr := hidK ((q0.b.block _ (lt_of_some Gr.out)).trans Gr.out)
        have CHTp := hidK ((HTp.out).below q0.b)
        clear hne0 HW HB k0 r0 r1 r2 r3 r4 r5 nw Gk Gr Bk Br HTp hbn n1
        have HB := HB2
        clear HB2
        have HTp := CHTp
        clear CHTp
        have Bk := Ck
        clear Ck
        have Br := Cr
        clear Cr
        go_wp2
        go_ret
        refine BoolB.f (fun h => ?_) HB.out
        rcases (h.1 k p HXp.out).1 with h2 | ⟨i, n', h2, h3, h4⟩
        · exact HEm.out h2
        · obtain ⟨_, rfl⟩ := HNR.out.inj h2 HJn.out (h3.trans HNn.out.symm)
          rcases h4 with h4 | h4
          · exact HZ0.out h4
          · exact HZ1.out h4
    · obtain rfl : l5 = k := by omega
      have HQ1 : Hid (∀ (k : Nat) p, c.ps[k]? = some p → PS c k p) := fun j z hz => HQ.out j z (by have := (List.getElem?_eq_some_iff.1 hz).1; omega) hz
      clear HQ
      have kc : wr.cell? ⟨w.heap.size, 0, none⟩ = some (.slice a1 l1 y1) := cellK Bk.out 0
      go_wp2
      clear pk kc
      go_loopw [9] (fun i wr => ∃ k : Nat, k ≤ l1 ∧ i = .int .i64 k ∧ Hid (∀ (j : Nat) n, j < k → c.ns[j]? = some n → cpuOf n.n c.ps ≤ n.c) ∧ Hid (Below w.heap.size w wr) ∧ Hid (wr.heap[w.heap.size]? = some (.cells #[.slice a1 l1 y1, .slice a2 l2 y2, .slice a3 l3 y3, .slice a4 l4 y4, .slice a5 l5 y5, .int .i64 c.now] 37 (0, 0)))) (fun i _ => l1 - (intOf i).toNat)
      case atStart => exact ⟨0, by omega, rfl, fun _ _ h => absurd h (by omega), HB.out, Bk.out⟩
      case round =>
        obtain ⟨k, hk, rfl, HQ, HB, Bk⟩ := hrel
        have pk : wr.cell? ⟨w.heap.size, 0, none⟩ = some (.slice a1 l1 y1) := cellK Bk.out 0
        by_cases hlt : k < l1
        · obtain ⟨b, o, n, rfl, hb, hx, hat⟩ := nd_at (HR.out.n.below HB.out) hlt
          obtain ⟨va, vl, vc, hvr, z0, z1, c0, c1, c2, c3, c4, c5, c6⟩ := nd_cells hat
          have HXn := hidK hx
          have HTn := hidK hvr
          have HZn0 := hidK z0
          have HZn1 := hidK z1
          clear hat hx z0 z1 hvr
          have Gk : Hid (wr.heap[w.heap.size]? = some (.cells #[.slice (some ⟨b, o, none⟩) l1 y1, .slice a2 l2 y2, .slice a3 l3 y3, .slice a4 l4 y4, .slice a5 l5 y5, .int .i64 c.now] 37 (0, 0))) := Bk.out
          have HW : Hid (Below w.heap.size w wr) := HB.out
          have k0 : ∀ q : Wd wr, q.w.cell? ⟨w.heap.size, 0, none⟩ = some (.slice (some ⟨b, o, none⟩) l1 y1) := fun q => q.slot Gk.out rfl
          have k1 : ∀ q : Wd wr, q.w.cell? ⟨w.heap.size, 1, none⟩ = some (.slice a2 l2 y2) := fun q => q.slot Gk.out rfl
          have k2 : ∀ q : Wd wr, q.w.cell? ⟨w.heap.size, 2, none⟩ = some (.slice a3 l3 y3) := fun q => q.slot Gk.out rfl
          have k3 : ∀ q : Wd wr, q.w.cell? ⟨w.heap.size, 3, none⟩ = some (.slice a4 l4 y4) := fun q => q.slot Gk.out rfl
          have k4 : ∀ q : Wd wr, q.w.cell? ⟨w.heap.size, 4, none⟩ = some (.slice a5 l5 y5) := fun q => q.slot Gk.out rfl
          have k5 : ∀ q : Wd wr, q.w.cell? ⟨w.heap.size, 5, none⟩ = some (.int .i64 c.now) := fun q => q.slot Gk.out rfl
          have n0w : ∀ q : Wd wr, q.w.cell? ⟨b, o + k * 7, none⟩ = some (.string n.n) := fun q => (q.cell (hb)).trans (c0)
          have n2w : ∀ q : Wd wr, q.w.cell? ⟨b, o + k * 7 + 2, none⟩ = some (.int .i64 n.c) := fun q => (q.cell (hb)).trans (c2)
          have hne0 := Wd.ne wr
          have HC0 := hidK (fun q : Wd wr => sused_any ⟨(some ⟨b, o, none⟩), l1, y1, a2, l2, y2, a3, l3, y3, a4, l4, y4, a5, l5, y5⟩ c.now c.ps n.n q.w (HR.out.p.below (HW.out.trans (q.b.mono HW.out.size))) HL5.out HPC.out)
          go_wp2_with fail
          refine wp_region_wide (by kernel_rfl) (by kernel_rfl) ?_
          repeat (go_big_quiet_step (first | (go_at_call 141; exact Calls.wide (HC0.out _)) | fail))
          refine wpQuiet_nil ?_
          rintro _ ⟨q1, rfl⟩
          have HB1 := hidK (HW.out.trans (q1.b.mono HW.out.size))
          have Ck := hidK ((q1.b.block _ (lt_of_some Gk.out)).trans Gk.out)
          clear hne0 HW HB HC0 k0 k1 k2 k3 k4 k5 n0w n2w Gk Bk pk c0 c1 c2 c3 c4 c5 c6 hb
          have HB := HB1
          clear HB1
          have Bk := Ck
          clear Ck
          by_cases hq : cpuOf n.n c.ps ≤ n.c
          · have HCq := hidK hq
            go_wp2_with fail
            refine ⟨⟨k + 1, by omega, by go_num, fun j z hj hz => ?_, HB.out, Bk.out⟩, by simp [intOf]; omega⟩
            by_cases e : j = k
            · subst e
              rw [HXn.out] at hz
              obtain rfl := Option.some.inj hz
              exact HCq.out
            · exact HQ.out j z (by omega) hz
          · have HCq := hidK hq
            go_wp2
            go_ret
            exact BoolB.f (fun h => by have h1 : cpuOf n.n c.ps ≤ n.c := h.2 k n HXn.out; have h2 := HCq.out; omega) HB.out
        · obtain rfl : l1 = k := by omega
          go_wp2
          go_ret
          exact BoolB.t ⟨HQ1.out, fun j n hz => HQ.out j n (by have := (List.getElem?_eq_some_iff.1 hz).1; omega) hz⟩ HB.out

end Rc
end Go.Proofs.YtcljghpfclegmaaGreatDoor
