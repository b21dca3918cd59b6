/-
  Whether a cluster is right, as the program asks it.
-/
import Derived.Test.YtcljghpfclegmaaGreatDoorSui
namespace Go.Proofs.YtcljghpfclegmaaGreatDoor
open Go.RowKit
namespace Rc
open Mk

def PQ1 (c : Cl) (p : Pd) : Prop := (∀ (j : Nat) t, p.zs[j]? = some t → hit Xd.n c.xs t = true) ∧ (p.d = ⟨#[]⟩ ∨ SuitI c p)
def PQ2 (c : Cl) (n : Nd) : Prop := cpuOf n.n c.ps ≤ n.c
def PQ3 (c : Cl) (v : Vd) : Prop := v.x = true → ¬ v.m = ⟨#[]⟩ → OneNode c v.m
def PlacedI (c : Cl) : Prop := (∀ (j : Nat) z, c.ps[j]? = some z → PQ1 c z) ∧ (∀ (j : Nat) z, c.ns[j]? = some z → PQ2 c z) ∧ (∀ (j : Nat) z, c.vs[j]? = some z → PQ3 c z)

set_option maxRecDepth 100000 in
set_option maxHeartbeats 6400000 in
theorem iplaced_any (d : Ad) (c : Cl) (w : World) (hr : ClRow w d c.raw) (hn : RisBy Nd.n c.ns) (hx : RisBy Xd.n c.xs) (hv : RisBy Vd.n c.vs) (hne : ∀ (j : Nat) v, c.vs[j]? = some v → ¬ v.n = ⟨#[]⟩) (hps8 : c.ps.length ≤ 8) (hpc : ∀ (j : Nat) p, c.ps[j]? = some p → 0 ≤ p.c ∧ p.c ≤ 1000000) (hG : ens w) :
    Calls Tryz.prog 68 #[.agg #[.slice d.a1 d.l1 d.c1, .slice d.a2 d.l2 d.c2, .slice d.a3 d.l3 d.c3, .slice d.a4 d.l4 d.c4, .slice d.a5 d.l5 d.c5, .int .i64 c.now]] w (BoolB (PlacedI c) w) := by
  obtain ⟨a1, l1, y1, a2, l2, y2, a3, l3, y3, a4, l4, y4, a5, l5, y5⟩ := d
  dsimp only
  have HR := hidK hr
  have hl1 : c.ns.length = l1 := by simpa using (show (c.ns.map ndF).length = l1 from hr.n.1)
  have hm1 : l1 ≤ 9223372036854775807 := Nat.le_trans hr.n.2.1 hr.n.2.2.1
  have hl2 : c.ks.length = l2 := by simpa using (show (c.ks.map kdF).length = l2 from hr.k.1)
  have hm2 : l2 ≤ 9223372036854775807 := Nat.le_trans hr.k.2.1 hr.k.2.2.1
  have hl3 : c.vs.length = l3 := by simpa using (show (c.vs.map vdF).length = l3 from hr.v.1)
  have hm3 : l3 ≤ 9223372036854775807 := Nat.le_trans hr.v.2.1 hr.v.2.2.1
  have hl4 : c.xs.length = l4 := by simpa using (show (c.xs.map xdF).length = l4 from hr.x.1)
  have hm4 : l4 ≤ 9223372036854775807 := Nat.le_trans hr.x.2.1 hr.x.2.2.1
  have hl5 : c.ps.length = l5 := by simpa using (show (c.ps.map pdF).length = l5 from hr.p.1)
  have hm5 : l5 ≤ 9223372036854775807 := Nat.le_trans hr.p.2.1 hr.p.2.2.1
  clear hr
  have HE := hidK hG
  have HNR := hidK hn
  have HXR := hidK hx
  have HVR := hidK hv
  have HNE := hidK hne
  have HL5 := hidK hps8
  have HPC := hidK hpc
  clear hn hx hv hne hps8 hpc hG
  go_enter Tryz.func68, Tryz.ntmps68
  go_wp2
  go_loopw [12] (fun i wr => ∃ k : Nat, k ≤ l5 ∧ i = .int .i64 k ∧ Hid (∀ (j : Nat) z, j < k → c.ps[j]? = some z → PQ1 c z) ∧ Hid (Below w.heap.size w wr) ∧ Hid (wr.heap[w.heap.size]? = some (.cells #[.slice a1 l1 y1, .slice a2 l2 y2, .slice a3 l3 y3, .slice a4 l4 y4, .slice a5 l5 y5, .int .i64 c.now] 37 (0, 0)))) (fun i _ => l5 - (intOf i).toNat)
  case atStart => exact ⟨0, by omega, rfl, fun _ _ h => absurd h (by omega), below1 _ _, Array.getElem?_push_size⟩
  case round =>
    obtain ⟨k, hk, rfl, HQ, HB, Bk⟩ := hrel
    by_cases hlt : k < l5
    · obtain ⟨b, o, p, rfl, hb, hx, hat⟩ := pd_at (HR.out.p.below HB.out) hlt
      obtain ⟨va, vl, vc, hvr, z0, z2, z4, c0, c1, c2, c3, c4, c5⟩ := pd_cells hat
      have HXp := hidK hx
      have HTp := hidK hvr
      have HZp0 := hidK z0
      have HZp2 := hidK z2
      have HZp4 := hidK z4
      clear hat hx z0 z2 z4 hvr
      have k0 : wr.cell? ⟨w.heap.size, 0, none⟩ = some (.slice a1 l1 y1) := cellK Bk.out 0
      have k1 : wr.cell? ⟨w.heap.size, 1, none⟩ = some (.slice a2 l2 y2) := cellK Bk.out 1
      have k2 : wr.cell? ⟨w.heap.size, 2, none⟩ = some (.slice a3 l3 y3) := cellK Bk.out 2
      have k3 : wr.cell? ⟨w.heap.size, 3, none⟩ = some (.slice a4 l4 y4) := cellK Bk.out 3
      have k4 : wr.cell? ⟨w.heap.size, 4, none⟩ = some (.slice (some ⟨b, o, none⟩) l5 y5) := cellK Bk.out 4
      have k5 : wr.cell? ⟨w.heap.size, 5, none⟩ = some (.int .i64 c.now) := cellK Bk.out 5
      have ltk_0 : w.heap.size < wr.heap.size := lt_of_some Bk.out
      go_wp2_with fail
      refine (iclaimsWhy_any ⟨a1, l1, y1, a2, l2, y2, a3, l3, y3, a4, l4, y4, (some ⟨b, o, none⟩), l5, y5⟩ c.now c.xs va vl vc p.zs _ (HR.out.x.below (HB.out.trans ((below1 _ _).mono HB.out.size))) (HTp.out.below (below1 _ _)) (HE.out.below (HB.out.trans ((below1 _ _).mono HB.out.size)))).mono ?_
      rintro e w1 ⟨hb2, hf⟩
      clear k0 k1 k2 k3 k4 k5 ltk_0
      have hsz1 : (wr.alloc (.cells #[.string p.n, .int .i64 p.c, .string p.z, .slice va vl vc, .string p.d, .int .i64 p.p] 76)).heap.size = wr.heap.size + 1 := by simp
      have Ck := hidK ((hb2.block (w.heap.size) (by rw [hsz1]; have := lt_of_some Bk.out; omega)).trans ((Below.heap_alloc _ _ _ (lt_of_some Bk.out)).trans (Bk.out)))
      have Cr : Hid (w1.heap[wr.heap.size]? = some (.cells #[.string p.n, .int .i64 p.c, .string p.z, .slice va vl vc, .string p.d, .int .i64 p.p] 76 (0, 0))) := (hb2.block (wr.heap.size) (by rw [hsz1]; omega)).trans (Array.getElem?_push_size)
      have CHTp := hidK ((HTp.out.below (below1 _ _)).below hb2)
      have HB1 := hidK (HB.out.trans (((below1 _ _ : Below wr.heap.size wr (wr.alloc (.cells #[.string p.n, .int .i64 p.c, .string p.z, .slice va vl vc, .string p.d, .int .i64 p.p] 76))).trans (hb2.mono (by rw [hsz1]; omega))).mono HB.out.size))
      clear HB hb2 HTp Bk hsz1
      have HB := HB1
      clear HB1
      have HTp := CHTp
      clear CHTp
      have Bk := Ck
      clear Ck
      have Br := Cr
      clear Cr
      clear hb c0 c1 c2 c3 c4 c5
      rcases hf with ⟨hh, rfl⟩ | ⟨hh, T, q, rfl⟩
      rotate_left
      · have HH := hidK hh
        clear hh
        have k0 : w1.cell? ⟨w.heap.size, 0, none⟩ = some (.slice a1 l1 y1) := cellK Bk.out 0
        have k1 : w1.cell? ⟨w.heap.size, 1, none⟩ = some (.slice a2 l2 y2) := cellK Bk.out 1
        have k2 : w1.cell? ⟨w.heap.size, 2, none⟩ = some (.slice a3 l3 y3) := cellK Bk.out 2
        have k3 : w1.cell? ⟨w.heap.size, 3, none⟩ = some (.slice a4 l4 y4) := cellK Bk.out 3
        have k4 : w1.cell? ⟨w.heap.size, 4, none⟩ = some (.slice (some ⟨b, o, none⟩) l5 y5) := cellK Bk.out 4
        have k5 : w1.cell? ⟨w.heap.size, 5, none⟩ = some (.int .i64 c.now) := cellK Bk.out 5
        have ltk_1 : w.heap.size < w1.heap.size := lt_of_some Bk.out
        have r0 : w1.cell? ⟨wr.heap.size, 0, none⟩ = some (.string p.n) := cellK Br.out 0
        have r1 : w1.cell? ⟨wr.heap.size, 1, none⟩ = some (.int .i64 p.c) := cellK Br.out 1
        have r2 : w1.cell? ⟨wr.heap.size, 2, none⟩ = some (.string p.z) := cellK Br.out 2
        have r3 : w1.cell? ⟨wr.heap.size, 3, none⟩ = some (.slice va vl vc) := cellK Br.out 3
        have r4 : w1.cell? ⟨wr.heap.size, 4, none⟩ = some (.string p.d) := cellK Br.out 4
        have r5 : w1.cell? ⟨wr.heap.size, 5, none⟩ = some (.int .i64 p.p) := cellK Br.out 5
        have ltr_1 : wr.heap.size < w1.heap.size := lt_of_some Br.out
        go_wp2
        go_ret
        exact BoolB.f (fun h => HH.out (h.1 k p HXp.out).1) HB.out
      have HH := hidK hh
      clear hh
      by_cases he : p.d = ⟨#[]⟩
      · have hq := isE_y he
        have HEm := hidK he
        clear he
        have k0 : w1.cell? ⟨w.heap.size, 0, none⟩ = some (.slice a1 l1 y1) := cellK Bk.out 0
        have k1 : w1.cell? ⟨w.heap.size, 1, none⟩ = some (.slice a2 l2 y2) := cellK Bk.out 1
        have k2 : w1.cell? ⟨w.heap.size, 2, none⟩ = some (.slice a3 l3 y3) := cellK Bk.out 2
        have k3 : w1.cell? ⟨w.heap.size, 3, none⟩ = some (.slice a4 l4 y4) := cellK Bk.out 3
        have k4 : w1.cell? ⟨w.heap.size, 4, none⟩ = some (.slice (some ⟨b, o, none⟩) l5 y5) := cellK Bk.out 4
        have k5 : w1.cell? ⟨w.heap.size, 5, none⟩ = some (.int .i64 c.now) := cellK Bk.out 5
        have ltk_1 : w.heap.size < w1.heap.size := lt_of_some Bk.out
        have r0 : w1.cell? ⟨wr.heap.size, 0, none⟩ = some (.string p.n) := cellK Br.out 0
        have r1 : w1.cell? ⟨wr.heap.size, 1, none⟩ = some (.int .i64 p.c) := cellK Br.out 1
        have r2 : w1.cell? ⟨wr.heap.size, 2, none⟩ = some (.string p.z) := cellK Br.out 2
        have r3 : w1.cell? ⟨wr.heap.size, 3, none⟩ = some (.slice va vl vc) := cellK Br.out 3
        have r4 : w1.cell? ⟨wr.heap.size, 4, none⟩ = some (.string p.d) := cellK Br.out 4
        have r5 : w1.cell? ⟨wr.heap.size, 5, none⟩ = some (.int .i64 p.p) := cellK Br.out 5
        have ltr_1 : wr.heap.size < w1.heap.size := lt_of_some Br.out
        go_wp2_with fail
        refine ⟨⟨k + 1, by omega, by go_num, fun j z hj hz => ?_, HB.out, Bk.out⟩, by simp [intOf]; omega⟩
        by_cases e : j = k
        · subst e
          rw [HXp.out] at hz
          obtain rfl := Option.some.inj hz
          exact ⟨HH.out, .inl HEm.out⟩
        · exact HQ.out j z (by omega) hz
      · have hq := isE_no he
        have HEm := hidK he
        clear he
        have k0 : w1.cell? ⟨w.heap.size, 0, none⟩ = some (.slice a1 l1 y1) := cellK Bk.out 0
        have k1 : w1.cell? ⟨w.heap.size, 1, none⟩ = some (.slice a2 l2 y2) := cellK Bk.out 1
        have k2 : w1.cell? ⟨w.heap.size, 2, none⟩ = some (.slice a3 l3 y3) := cellK Bk.out 2
        have k3 : w1.cell? ⟨w.heap.size, 3, none⟩ = some (.slice a4 l4 y4) := cellK Bk.out 3
        have k4 : w1.cell? ⟨w.heap.size, 4, none⟩ = some (.slice (some ⟨b, o, none⟩) l5 y5) := cellK Bk.out 4
        have k5 : w1.cell? ⟨w.heap.size, 5, none⟩ = some (.int .i64 c.now) := cellK Bk.out 5
        have ltk_1 : w.heap.size < w1.heap.size := lt_of_some Bk.out
        have r0 : w1.cell? ⟨wr.heap.size, 0, none⟩ = some (.string p.n) := cellK Br.out 0
        have r1 : w1.cell? ⟨wr.heap.size, 1, none⟩ = some (.int .i64 p.c) := cellK Br.out 1
        have r2 : w1.cell? ⟨wr.heap.size, 2, none⟩ = some (.string p.z) := cellK Br.out 2
        have r3 : w1.cell? ⟨wr.heap.size, 3, none⟩ = some (.slice va vl vc) := cellK Br.out 3
        have r4 : w1.cell? ⟨wr.heap.size, 4, none⟩ = some (.string p.d) := cellK Br.out 4
        have r5 : w1.cell? ⟨wr.heap.size, 5, none⟩ = some (.int .i64 p.p) := cellK Br.out 5
        have ltr_1 : wr.heap.size < w1.heap.size := lt_of_some Br.out
        go_wp2_with fail
        refine (isuit_any ⟨a1, l1, y1, a2, l2, y2, a3, l3, y3, a4, l4, y4, (some ⟨b, o, none⟩), l5, y5⟩ c p va vl vc _ (HR.out.below HB.out) HNR.out HXR.out HVR.out HNE.out HTp.out).mono ?_
        rintro e w2 ⟨r, rfl, hi, hb3⟩
        clear k0 k1 k2 k3 k4 k5 ltk_1 r0 r1 r2 r3 r4 r5 ltr_1
        have Ck := hidK ((hb3.block (w.heap.size) (by have := lt_of_some Bk.out; omega)).trans (Bk.out))
        have Cr := hidK ((hb3.block (wr.heap.size) (by have := lt_of_some Br.out; omega)).trans (Br.out))
        have CHTp := hidK ((HTp.out).below hb3)
        have HB2 := hidK (HB.out.trans (hb3.mono HB.out.size))
        clear HB hb3 HTp Bk Br
        have HB := HB2
        clear HB2
        have HTp := CHTp
        clear CHTp
        have Bk := Ck
        clear Ck
        have Br := Cr
        clear Cr
        have HI := hidK hi
        clear hi
        cases r
        · go_wp2
          go_ret
          refine BoolB.f (fun h => ?_) HB.out
          rcases (h.1 k p HXp.out).2 with h2 | h2
          · exact HEm.out h2
          · have := HI.out.2 h2
            cases this
        · go_wp2_with fail
          refine ⟨⟨k + 1, by omega, by go_num, fun j z hj hz => ?_, HB.out, Bk.out⟩, by simp [intOf]; omega⟩
          by_cases e : j = k
          · subst e
            rw [HXp.out] at hz
            obtain rfl := Option.some.inj hz
            exact ⟨HH.out, .inr (HI.out.1 (by first | trivial | rfl))⟩
          · exact HQ.out j z (by omega) hz
    · obtain rfl : l5 = k := by omega
      have HQ1 : Hid (∀ (j : Nat) z, c.ps[j]? = some z → PQ1 c z) := fun j z hz => HQ.out j z (by have := (List.getElem?_eq_some_iff.1 hz).1; omega) hz
      clear HQ
      have kc : wr.cell? ⟨w.heap.size, 0, none⟩ = some (.slice a1 l1 y1) := cellK Bk.out 0
      have kl : w.heap.size < wr.heap.size := lt_of_some Bk.out
      go_wp2
      go_loopw [36] (fun i wr => ∃ k : Nat, k ≤ l1 ∧ i = .int .i64 k ∧ Hid (∀ (j : Nat) z, j < k → c.ns[j]? = some z → PQ2 c z) ∧ Hid (Below w.heap.size w wr) ∧ Hid (wr.heap[w.heap.size]? = some (.cells #[.slice a1 l1 y1, .slice a2 l2 y2, .slice a3 l3 y3, .slice a4 l4 y4, .slice a5 l5 y5, .int .i64 c.now] 37 (0, 0)))) (fun i _ => l1 - (intOf i).toNat)
      case atStart => exact ⟨0, by omega, rfl, fun _ _ h => absurd h (by omega), HB.out, Bk.out⟩
      case round =>
        obtain ⟨k, hk, rfl, HQ, HB, Bk⟩ := hrel
        by_cases hlt : k < l1
        · obtain ⟨b, o, n, rfl, hb, hx, hat⟩ := nd_at (HR.out.n.below HB.out) hlt
          obtain ⟨va, vl, vc, hvr, z0, z1, c0, c1, c2, c3, c4, c5, c6⟩ := nd_cells hat
          have HXn := hidK hx
          have HTn := hidK hvr
          have HZn0 := hidK z0
          have HZn1 := hidK z1
          clear hat hx z0 z1 hvr
          have GK := hidK ((Below.heap_alloc wr (.cells #[.string n.n, .string n.z, .int .i64 n.c, .int .i64 n.s, .int .i64 n.u, .bool n.d, .slice va vl vc] 102) _ (lt_of_some Bk.out)).trans Bk.out)
          have GR : Hid ((wr.alloc (.cells #[.string n.n, .string n.z, .int .i64 n.c, .int .i64 n.s, .int .i64 n.u, .bool n.d, .slice va vl vc] 102)).heap[wr.heap.size]? = some (.cells #[.string n.n, .string n.z, .int .i64 n.c, .int .i64 n.s, .int .i64 n.u, .bool n.d, .slice va vl vc] 102 (0, 0))) := Array.getElem?_push_size
          have HW := hidK (HB.out.trans ((below1 wr (.cells #[.string n.n, .string n.z, .int .i64 n.c, .int .i64 n.s, .int .i64 n.u, .bool n.d, .slice va vl vc] 102)).mono HB.out.size))
          have k0 : ∀ q : Wd (wr.alloc (.cells #[.string n.n, .string n.z, .int .i64 n.c, .int .i64 n.s, .int .i64 n.u, .bool n.d, .slice va vl vc] 102)), q.w.cell? ⟨w.heap.size, 0, none⟩ = some (.slice (some ⟨b, o, none⟩) l1 y1) := fun q => q.slot GK.out rfl
          have k1 : ∀ q : Wd (wr.alloc (.cells #[.string n.n, .string n.z, .int .i64 n.c, .int .i64 n.s, .int .i64 n.u, .bool n.d, .slice va vl vc] 102)), q.w.cell? ⟨w.heap.size, 1, none⟩ = some (.slice a2 l2 y2) := fun q => q.slot GK.out rfl
          have k2 : ∀ q : Wd (wr.alloc (.cells #[.string n.n, .string n.z, .int .i64 n.c, .int .i64 n.s, .int .i64 n.u, .bool n.d, .slice va vl vc] 102)), q.w.cell? ⟨w.heap.size, 2, none⟩ = some (.slice a3 l3 y3) := fun q => q.slot GK.out rfl
          have k3 : ∀ q : Wd (wr.alloc (.cells #[.string n.n, .string n.z, .int .i64 n.c, .int .i64 n.s, .int .i64 n.u, .bool n.d, .slice va vl vc] 102)), q.w.cell? ⟨w.heap.size, 3, none⟩ = some (.slice a4 l4 y4) := fun q => q.slot GK.out rfl
          have k4 : ∀ q : Wd (wr.alloc (.cells #[.string n.n, .string n.z, .int .i64 n.c, .int .i64 n.s, .int .i64 n.u, .bool n.d, .slice va vl vc] 102)), q.w.cell? ⟨w.heap.size, 4, none⟩ = some (.slice a5 l5 y5) := fun q => q.slot GK.out rfl
          have k5 : ∀ q : Wd (wr.alloc (.cells #[.string n.n, .string n.z, .int .i64 n.c, .int .i64 n.s, .int .i64 n.u, .bool n.d, .slice va vl vc] 102)), q.w.cell? ⟨w.heap.size, 5, none⟩ = some (.int .i64 c.now) := fun q => q.slot GK.out rfl
          have r0 : ∀ q : Wd (wr.alloc (.cells #[.string n.n, .string n.z, .int .i64 n.c, .int .i64 n.s, .int .i64 n.u, .bool n.d, .slice va vl vc] 102)), q.w.cell? ⟨wr.heap.size, 0, none⟩ = some (.string n.n) := fun q => q.slot GR.out rfl
          have r1 : ∀ q : Wd (wr.alloc (.cells #[.string n.n, .string n.z, .int .i64 n.c, .int .i64 n.s, .int .i64 n.u, .bool n.d, .slice va vl vc] 102)), q.w.cell? ⟨wr.heap.size, 1, none⟩ = some (.string n.z) := fun q => q.slot GR.out rfl
          have r2 : ∀ q : Wd (wr.alloc (.cells #[.string n.n, .string n.z, .int .i64 n.c, .int .i64 n.s, .int .i64 n.u, .bool n.d, .slice va vl vc] 102)), q.w.cell? ⟨wr.heap.size, 2, none⟩ = some (.int .i64 n.c) := fun q => q.slot GR.out rfl
          have r3 : ∀ q : Wd (wr.alloc (.cells #[.string n.n, .string n.z, .int .i64 n.c, .int .i64 n.s, .int .i64 n.u, .bool n.d, .slice va vl vc] 102)), q.w.cell? ⟨wr.heap.size, 3, none⟩ = some (.int .i64 n.s) := fun q => q.slot GR.out rfl
          have r4 : ∀ q : Wd (wr.alloc (.cells #[.string n.n, .string n.z, .int .i64 n.c, .int .i64 n.s, .int .i64 n.u, .bool n.d, .slice va vl vc] 102)), q.w.cell? ⟨wr.heap.size, 4, none⟩ = some (.int .i64 n.u) := fun q => q.slot GR.out rfl
          have r5 : ∀ q : Wd (wr.alloc (.cells #[.string n.n, .string n.z, .int .i64 n.c, .int .i64 n.s, .int .i64 n.u, .bool n.d, .slice va vl vc] 102)), q.w.cell? ⟨wr.heap.size, 5, none⟩ = some (.bool n.d) := fun q => q.slot GR.out rfl
          have r6 : ∀ q : Wd (wr.alloc (.cells #[.string n.n, .string n.z, .int .i64 n.c, .int .i64 n.s, .int .i64 n.u, .bool n.d, .slice va vl vc] 102)), q.w.cell? ⟨wr.heap.size, 6, none⟩ = some (.slice va vl vc) := fun q => q.slot GR.out rfl
          have hne0 := Wd.ne (wr.alloc (.cells #[.string n.n, .string n.z, .int .i64 n.c, .int .i64 n.s, .int .i64 n.u, .bool n.d, .slice va vl vc] 102))
          have HC := hidK (fun q : Wd (wr.alloc (.cells #[.string n.n, .string n.z, .int .i64 n.c, .int .i64 n.s, .int .i64 n.u, .bool n.d, .slice va vl vc] 102)) => iusedCpu_any ⟨(some ⟨b, o, none⟩), l1, y1, a2, l2, y2, a3, l3, y3, a4, l4, y4, a5, l5, y5⟩ c.now c.ps n.n q.w (HR.out.p.below (HW.out.trans (q.b.mono HW.out.size))) HL5.out HPC.out)
          go_wp2_with fail
          refine wp_region_wide (by kernel_rfl) (by kernel_rfl) ?_
          repeat (go_big_quiet_step (first | (go_at_call 152; exact Calls.wide (HC.out _)) | fail))
          refine wpQuiet_nil ?_
          rintro _ ⟨q, rfl⟩
          have HB2 := hidK (HW.out.trans (q.b.mono HW.out.size))
          have Bk2 := hidK ((q.b.block _ (lt_of_some GK.out)).trans GK.out)
          clear HC hne0 k0 k1 k2 k3 k4 k5 r0 r1 r2 r3 r4 r5 r6 c0 c1 c2 c3 c4 c5 c6 hb HB Bk HW GK GR
          have HB := HB2
          have Bk := Bk2
          clear HB2 Bk2
          by_cases hq : cpuOf n.n c.ps ≤ n.c
          · go_wp2_with fail
            refine ⟨⟨k + 1, by omega, by go_num, fun j z hj hz => ?_, HB.out, Bk.out⟩, by simp [intOf]; omega⟩
            by_cases e : j = k
            · subst e
              rw [HXn.out] at hz
              obtain rfl := Option.some.inj hz
              exact hq
            · exact HQ.out j z (by omega) hz
          · have HQ2 := hidK hq
            go_wp2
            go_ret
            exact BoolB.f (fun h => by have h1 : cpuOf n.n c.ps ≤ n.c := (h.2.1 k n HXn.out); have h2 := HQ2.out; omega) HB.out
        · obtain rfl : l1 = k := by omega
          have HQ2 : Hid (∀ (j : Nat) z, c.ns[j]? = some z → PQ2 c z) := fun j z hz => HQ.out j z (by have := (List.getElem?_eq_some_iff.1 hz).1; omega) hz
          clear HQ
          have kc : wr.cell? ⟨w.heap.size, 2, none⟩ = some (.slice a3 l3 y3) := cellK Bk.out 2
          have kl : w.heap.size < wr.heap.size := lt_of_some Bk.out
          go_wp2
          go_loopw [51] (fun i wr => ∃ k : Nat, k ≤ l3 ∧ i = .int .i64 k ∧ Hid (∀ (j : Nat) z, j < k → c.vs[j]? = some z → PQ3 c z) ∧ Hid (Below w.heap.size w wr) ∧ Hid (wr.heap[w.heap.size]? = some (.cells #[.slice a1 l1 y1, .slice a2 l2 y2, .slice a3 l3 y3, .slice a4 l4 y4, .slice a5 l5 y5, .int .i64 c.now] 37 (0, 0)))) (fun i _ => l3 - (intOf i).toNat)
          case atStart => exact ⟨0, by omega, rfl, fun _ _ h => absurd h (by omega), HB.out, Bk.out⟩
          case round =>
            obtain ⟨k, hk, rfl, HQ, HB, Bk⟩ := hrel
            by_cases hlt : k < l3
            · obtain ⟨b, o, v, rfl, hb, hx, hat⟩ := vd_at (HR.out.v.below HB.out) hlt
              obtain ⟨va, vl, vc, hvr, z0, z2, z3, z5, c0, c1, c2, c3, c4, c5, c6, c7⟩ := vd_cells hat
              have HXv := hidK hx
              have HTv := hidK hvr
              have HZv0 := hidK z0
              have HZv2 := hidK z2
              have HZv3 := hidK z3
              have HZv5 := hidK z5
              clear hat hx z0 z2 z3 z5 hvr
              have hcase : (v.x = false ∨ v.m = ⟨#[]⟩) ∨ (v.x = true ∧ ¬ v.m = ⟨#[]⟩) := by
                rcases Bool.eq_false_or_eq_true v.x with h | h
                · by_cases e : v.m = ⟨#[]⟩
                  · exact .inl (.inr e)
                  · exact .inr ⟨h, e⟩
                · exact .inl (.inl h)
              rcases hcase with hcase | ⟨hs, he⟩
              · have HCs := hidK hcase
                rcases hcase with hs | he
                · rw [hs] at c4
                  clear hs
                  have k0 : wr.cell? ⟨w.heap.size, 0, none⟩ = some (.slice a1 l1 y1) := cellK Bk.out 0
                  have k1 : wr.cell? ⟨w.heap.size, 1, none⟩ = some (.slice a2 l2 y2) := cellK Bk.out 1
                  have k2 : wr.cell? ⟨w.heap.size, 2, none⟩ = some (.slice (some ⟨b, o, none⟩) l3 y3) := cellK Bk.out 2
                  have k3 : wr.cell? ⟨w.heap.size, 3, none⟩ = some (.slice a4 l4 y4) := cellK Bk.out 3
                  have k4 : wr.cell? ⟨w.heap.size, 4, none⟩ = some (.slice a5 l5 y5) := cellK Bk.out 4
                  have k5 : wr.cell? ⟨w.heap.size, 5, none⟩ = some (.int .i64 c.now) := cellK Bk.out 5
                  have ltk_0 : w.heap.size < wr.heap.size := lt_of_some Bk.out
                  go_wp2
                  refine ⟨⟨k + 1, by omega, by go_num, fun j z hj hz => ?_, (HB.out.alloc HB.out.size _), (Below.heap_alloc _ _ _ (lt_of_some Bk.out)).trans Bk.out⟩, by simp [intOf]; omega⟩
                  by_cases e : j = k
                  · subst e
                    rw [HXv.out] at hz
                    obtain rfl := Option.some.inj hz
                    exact fun h1 h2 => by rcases HCs.out with h | h; (rw [h] at h1; cases h1); exact absurd h h2
                  · exact HQ.out j z (by omega) hz
                · have hq := isE_y he
                  clear he
                  rcases Bool.eq_false_or_eq_true v.x with hs | hs
                  · rw [hs] at c4
                    clear hs
                    have k0 : wr.cell? ⟨w.heap.size, 0, none⟩ = some (.slice a1 l1 y1) := cellK Bk.out 0
                    have k1 : wr.cell? ⟨w.heap.size, 1, none⟩ = some (.slice a2 l2 y2) := cellK Bk.out 1
                    have k2 : wr.cell? ⟨w.heap.size, 2, none⟩ = some (.slice (some ⟨b, o, none⟩) l3 y3) := cellK Bk.out 2
                    have k3 : wr.cell? ⟨w.heap.size, 3, none⟩ = some (.slice a4 l4 y4) := cellK Bk.out 3
                    have k4 : wr.cell? ⟨w.heap.size, 4, none⟩ = some (.slice a5 l5 y5) := cellK Bk.out 4
                    have k5 : wr.cell? ⟨w.heap.size, 5, none⟩ = some (.int .i64 c.now) := cellK Bk.out 5
                    have ltk_0 : w.heap.size < wr.heap.size := lt_of_some Bk.out
                    go_wp2
                    refine ⟨⟨k + 1, by omega, by go_num, fun j z hj hz => ?_, (HB.out.alloc HB.out.size _), (Below.heap_alloc _ _ _ (lt_of_some Bk.out)).trans Bk.out⟩, by simp [intOf]; omega⟩
                    by_cases e : j = k
                    · subst e
                      rw [HXv.out] at hz
                      obtain rfl := Option.some.inj hz
                      exact fun h1 h2 => by rcases HCs.out with h | h; (rw [h] at h1; cases h1); exact absurd h h2
                    · exact HQ.out j z (by omega) hz
                  · rw [hs] at c4
                    clear hs
                    have k0 : wr.cell? ⟨w.heap.size, 0, none⟩ = some (.slice a1 l1 y1) := cellK Bk.out 0
                    have k1 : wr.cell? ⟨w.heap.size, 1, none⟩ = some (.slice a2 l2 y2) := cellK Bk.out 1
                    have k2 : wr.cell? ⟨w.heap.size, 2, none⟩ = some (.slice (some ⟨b, o, none⟩) l3 y3) := cellK Bk.out 2
                    have k3 : wr.cell? ⟨w.heap.size, 3, none⟩ = some (.slice a4 l4 y4) := cellK Bk.out 3
                    have k4 : wr.cell? ⟨w.heap.size, 4, none⟩ = some (.slice a5 l5 y5) := cellK Bk.out 4
                    have k5 : wr.cell? ⟨w.heap.size, 5, none⟩ = some (.int .i64 c.now) := cellK Bk.out 5
                    have ltk_0 : w.heap.size < wr.heap.size := lt_of_some Bk.out
                    go_wp2
                    refine ⟨⟨k + 1, by omega, by go_num, fun j z hj hz => ?_, (HB.out.alloc HB.out.size _), (Below.heap_alloc _ _ _ (lt_of_some Bk.out)).trans Bk.out⟩, by simp [intOf]; omega⟩
                    by_cases e : j = k
                    · subst e
                      rw [HXv.out] at hz
                      obtain rfl := Option.some.inj hz
                      exact fun h1 h2 => by rcases HCs.out with h | h; (rw [h] at h1; cases h1); exact absurd h h2
                    · exact HQ.out j z (by omega) hz
              · have hq := isE_no he
                have HEm := hidK he
                have HSi := hidK hs
                rw [hs] at c4
                clear he hs
                have k0 : wr.cell? ⟨w.heap.size, 0, none⟩ = some (.slice a1 l1 y1) := cellK Bk.out 0
                have k1 : wr.cell? ⟨w.heap.size, 1, none⟩ = some (.slice a2 l2 y2) := cellK Bk.out 1
                have k2 : wr.cell? ⟨w.heap.size, 2, none⟩ = some (.slice (some ⟨b, o, none⟩) l3 y3) := cellK Bk.out 2
                have k3 : wr.cell? ⟨w.heap.size, 3, none⟩ = some (.slice a4 l4 y4) := cellK Bk.out 3
                have k4 : wr.cell? ⟨w.heap.size, 4, none⟩ = some (.slice a5 l5 y5) := cellK Bk.out 4
                have k5 : wr.cell? ⟨w.heap.size, 5, none⟩ = some (.int .i64 c.now) := cellK Bk.out 5
                have ltk_0 : w.heap.size < wr.heap.size := lt_of_some Bk.out
                go_wp2_with fail
                refine (ione_any ⟨a1, l1, y1, a2, l2, y2, (some ⟨b, o, none⟩), l3, y3, a4, l4, y4, a5, l5, y5⟩ c v.m _ (HR.out.below (HB.out.trans ((below1 _ _).mono HB.out.size)))).mono ?_
                rintro e w2 ⟨r, rfl, hi, hb3⟩
                clear k0 k1 k2 k3 k4 k5 ltk_0
                have hsz1 : (wr.alloc (.cells #[.string v.n, .int .i64 v.c, .string v.z, .string v.k, .bool true, .string v.m, .bool v.y, .slice va vl vc] 60)).heap.size = wr.heap.size + 1 := by simp
                have Ck := hidK ((hb3.block (w.heap.size) (by rw [hsz1]; have := lt_of_some Bk.out; omega)).trans ((Below.heap_alloc _ _ _ (lt_of_some Bk.out)).trans (Bk.out)))
                have Cr : Hid (w2.heap[wr.heap.size]? = some (.cells #[.string v.n, .int .i64 v.c, .string v.z, .string v.k, .bool true, .string v.m, .bool v.y, .slice va vl vc] 60 (0, 0))) := (hb3.block (wr.heap.size) (by rw [hsz1]; omega)).trans (Array.getElem?_push_size)
                have HB1 := hidK (HB.out.trans (((below1 _ _ : Below wr.heap.size wr (wr.alloc (.cells #[.string v.n, .int .i64 v.c, .string v.z, .string v.k, .bool true, .string v.m, .bool v.y, .slice va vl vc] 60))).trans (hb3.mono (by rw [hsz1]; omega))).mono HB.out.size))
                clear HB hb3 Bk hsz1
                have HB := HB1
                clear HB1
                have Bk := Ck
                clear Ck
                have Br := Cr
                clear Cr
                have HI := hidK hi
                clear hi hb c0 c1 c2 c3 c4 c5 c6 c7
                cases r
                · go_wp2
                  go_ret
                  exact BoolB.f (fun h => by have := HI.out.2 ((h.2.2 k v HXv.out) HSi.out HEm.out); cases this) HB.out
                · go_wp2_with fail
                  refine ⟨⟨k + 1, by omega, by go_num, fun j z hj hz => ?_, HB.out, Bk.out⟩, by simp [intOf]; omega⟩
                  by_cases e : j = k
                  · subst e
                    rw [HXv.out] at hz
                    obtain rfl := Option.some.inj hz
                    exact fun _ _ => HI.out.1 (by first | trivial | rfl)
                  · exact HQ.out j z (by omega) hz
            · obtain rfl : l3 = k := by omega
              have HQ3 : Hid (∀ (j : Nat) z, c.vs[j]? = some z → PQ3 c z) := fun j z hz => HQ.out j z (by have := (List.getElem?_eq_some_iff.1 hz).1; omega) hz
              clear HQ
              go_wp2
              go_ret
              exact BoolB.t ⟨HQ1.out, HQ2.out, HQ3.out⟩ HB.out

def AQ1 (c : Cl) (v : Vd) : Prop := ∀ (j : Nat) t, v.zs[j]? = some t → ∃ (i : Nat) (n : Nd), c.ns[i]? = some n ∧ n.n = t ∧ n.z = v.z
def AQ2 (c : Cl) (n : Nd) : Prop := onOf n.n c.vs ≤ n.s
def AttachedI (c : Cl) : Prop := (∀ (j : Nat) z, c.vs[j]? = some z → AQ1 c z) ∧ (∀ (j : Nat) z, c.ns[j]? = some z → AQ2 c z)

set_option maxRecDepth 100000 in
set_option maxHeartbeats 6400000 in
theorem iattached_any (d : Ad) (c : Cl) (w : World) (hr : ClRow w d c.raw) (hn : RisBy Nd.n c.ns) (hvs8 : c.vs.length ≤ 8) :
    Calls Tryz.prog 69 #[.agg #[.slice d.a1 d.l1 d.c1, .slice d.a2 d.l2 d.c2, .slice d.a3 d.l3 d.c3, .slice d.a4 d.l4 d.c4, .slice d.a5 d.l5 d.c5, .int .i64 c.now]] w (BoolB (AttachedI c) w) := by
  obtain ⟨a1, l1, y1, a2, l2, y2, a3, l3, y3, a4, l4, y4, a5, l5, y5⟩ := d
  dsimp only
  have HR := hidK hr
  have hl1 : c.ns.length = l1 := by simpa using (show (c.ns.map ndF).length = l1 from hr.n.1)
  have hm1 : l1 ≤ 9223372036854775807 := Nat.le_trans hr.n.2.1 hr.n.2.2.1
  have hl2 : c.ks.length = l2 := by simpa using (show (c.ks.map kdF).length = l2 from hr.k.1)
  have hm2 : l2 ≤ 9223372036854775807 := Nat.le_trans hr.k.2.1 hr.k.2.2.1
  have hl3 : c.vs.length = l3 := by simpa using (show (c.vs.map vdF).length = l3 from hr.v.1)
  have hm3 : l3 ≤ 9223372036854775807 := Nat.le_trans hr.v.2.1 hr.v.2.2.1
  have hl4 : c.xs.length = l4 := by simpa using (show (c.xs.map xdF).length = l4 from hr.x.1)
  have hm4 : l4 ≤ 9223372036854775807 := Nat.le_trans hr.x.2.1 hr.x.2.2.1
  have hl5 : c.ps.length = l5 := by simpa using (show (c.ps.map pdF).length = l5 from hr.p.1)
  have hm5 : l5 ≤ 9223372036854775807 := Nat.le_trans hr.p.2.1 hr.p.2.2.1
  clear hr
  have HNR := hidK hn
  have HL3 := hidK hvs8
  clear hn hvs8
  go_enter Tryz.func69, Tryz.ntmps69
  go_wp2
  go_loopw [14] (fun i wr => ∃ k : Nat, k ≤ l3 ∧ i = .int .i64 k ∧ Hid (∀ (j : Nat) z, j < k → c.vs[j]? = some z → AQ1 c z) ∧ Hid (Below w.heap.size w wr) ∧ Hid (wr.heap[w.heap.size]? = some (.cells #[.slice a1 l1 y1, .slice a2 l2 y2, .slice a3 l3 y3, .slice a4 l4 y4, .slice a5 l5 y5, .int .i64 c.now] 37 (0, 0)))) (fun i _ => l3 - (intOf i).toNat)
  case atStart => exact ⟨0, by omega, rfl, fun _ _ h => absurd h (by omega), below1 _ _, Array.getElem?_push_size⟩
  case round =>
    obtain ⟨k, hk, rfl, HQ, HB, Bk⟩ := hrel
    by_cases hlt : k < l3
    · obtain ⟨b, o, v, rfl, hb, hx, hat⟩ := vd_at (HR.out.v.below HB.out) hlt
      obtain ⟨va, vl, vc, hvr, z0, z2, z3, z5, c0, c1, c2, c3, c4, c5, c6, c7⟩ := vd_cells hat
      have HXv := hidK hx
      have HTv := hidK hvr
      have HZv0 := hidK z0
      have HZv2 := hidK z2
      have HZv3 := hidK z3
      have HZv5 := hidK z5
      clear hat hx z0 z2 z3 z5 hvr
      have hvl := HTv.out.1
      have hvc : vl ≤ 9223372036854775807 := Nat.le_trans HTv.out.2.1 HTv.out.2.2.1
      have HVL := hidK hvl
      clear hvl
      have KV := hidK ((Below.heap_alloc wr (.cells #[.string v.n, .int .i64 v.c, .string v.z, .string v.k, .bool v.x, .string v.m, .bool v.y, .slice va vl vc] 60) _ (lt_of_some Bk.out)).trans Bk.out)
      have GV : Hid ((wr.alloc (.cells #[.string v.n, .int .i64 v.c, .string v.z, .string v.k, .bool v.x, .string v.m, .bool v.y, .slice va vl vc] 60)).heap[wr.heap.size]? = some (.cells #[.string v.n, .int .i64 v.c, .string v.z, .string v.k, .bool v.x, .string v.m, .bool v.y, .slice va vl vc] 60 (0, 0))) := Array.getElem?_push_size
      have BV := hidK (HB.out.trans ((below1 wr (.cells #[.string v.n, .int .i64 v.c, .string v.z, .string v.k, .bool v.x, .string v.m, .bool v.y, .slice va vl vc] 60)).mono HB.out.size))
      have TV := hidK (HTv.out.below (below1 wr (.cells #[.string v.n, .int .i64 v.c, .string v.z, .string v.k, .bool v.x, .string v.m, .bool v.y, .slice va vl vc] 60)))
      obtain ⟨W, hW⟩ : ∃ W, W = wr.alloc (.cells #[.string v.n, .int .i64 v.c, .string v.z, .string v.k, .bool v.x, .string v.m, .bool v.y, .slice va vl vc] 60) := ⟨_, rfl⟩
      obtain ⟨gb, hgb⟩ : ∃ gb, gb = wr.heap.size := ⟨_, rfl⟩
      rw [← hW] at KV GV BV TV
      rw [← hgb] at GV
      go_wp2
      rw [← hW, ← hgb]
      clear hW hgb HB Bk HTv c0 c1 c2 c3 c4 c5 c6 c7 hb
      go_loopw [21] (fun i wr => ∃ kq : Nat, kq ≤ vl ∧ i = .int .i64 kq ∧ Hid (∀ (j : Nat) t, j < kq → v.zs[j]? = some t → ∃ (i : Nat) (n : Nd), c.ns[i]? = some n ∧ n.n = t ∧ n.z = v.z) ∧ Hid (Below W.heap.size W wr)) (fun i _ => vl - (intOf i).toNat)
      case atStart => exact ⟨0, by omega, rfl, fun _ _ h => absurd h (by omega), Below.refl _ _⟩
      case round =>
        obtain ⟨kq, hkq, rfl, HQ2, HBW⟩ := hrel
        have HB := hidK (BV.out.trans (HBW.out.mono BV.out.size))
        have Bk := hidK ((HBW.out.block _ (lt_of_some KV.out)).trans KV.out)
        have Bv := hidK ((HBW.out.block _ (lt_of_some GV.out)).trans GV.out)
        by_cases hlt2 : kq < vl
        · obtain ⟨b2, o2, t, rfl, hb, hx, hc, hsz⟩ := (TV.out.below HBW.out).at hlt2
          have HXt := hidK hx
          clear hx hsz
          have k0 : wr.cell? ⟨w.heap.size, 0, none⟩ = some (.slice a1 l1 y1) := cellK Bk.out 0
          have k1 : wr.cell? ⟨w.heap.size, 1, none⟩ = some (.slice a2 l2 y2) := cellK Bk.out 1
          have k2 : wr.cell? ⟨w.heap.size, 2, none⟩ = some (.slice (some ⟨b, o, none⟩) l3 y3) := cellK Bk.out 2
          have k3 : wr.cell? ⟨w.heap.size, 3, none⟩ = some (.slice a4 l4 y4) := cellK Bk.out 3
          have k4 : wr.cell? ⟨w.heap.size, 4, none⟩ = some (.slice a5 l5 y5) := cellK Bk.out 4
          have k5 : wr.cell? ⟨w.heap.size, 5, none⟩ = some (.int .i64 c.now) := cellK Bk.out 5
          have ltk_0 : w.heap.size < wr.heap.size := lt_of_some Bk.out
          have v0 : wr.cell? ⟨gb, 0, none⟩ = some (.string v.n) := cellK Bv.out 0
          have v1 : wr.cell? ⟨gb, 1, none⟩ = some (.int .i64 v.c) := cellK Bv.out 1
          have v2 : wr.cell? ⟨gb, 2, none⟩ = some (.string v.z) := cellK Bv.out 2
          have v3 : wr.cell? ⟨gb, 3, none⟩ = some (.string v.k) := cellK Bv.out 3
          have v4 : wr.cell? ⟨gb, 4, none⟩ = some (.bool v.x) := cellK Bv.out 4
          have v5 : wr.cell? ⟨gb, 5, none⟩ = some (.string v.m) := cellK Bv.out 5
          have v6 : wr.cell? ⟨gb, 6, none⟩ = some (.bool v.y) := cellK Bv.out 6
          have v7 : wr.cell? ⟨gb, 7, none⟩ = some (.slice (some ⟨b2, o2, none⟩) vl vc) := cellK Bv.out 7
          have ltv_0 : gb < wr.heap.size := lt_of_some Bv.out
          go_wp2_with fail
          refine (thend_any ⟨a1, l1, y1, a2, l2, y2, (some ⟨b, o, none⟩), l3, y3, a4, l4, y4, a5, l5, y5⟩ c.now c.ns t w _ HR.out.n HB.out).mono ?_
          rintro e w1 ⟨hb2, hf⟩
          have HBW1 := hidK (HBW.out.trans (hb2.mono HBW.out.size))
          clear k0 k1 k2 k3 k4 k5 ltk_0 v0 v1 v2 v3 v4 v5 v6 v7 ltv_0
          have Ck := hidK ((hb2.block (w.heap.size) (by have := lt_of_some Bk.out; omega)).trans (Bk.out))
          have Cv := hidK ((hb2.block (gb) (by have := lt_of_some Bv.out; omega)).trans (Bv.out))
          have HB1 := hidK (HB.out.trans (hb2.mono HB.out.size))
          clear HB hb2 Bk Bv
          have HB := HB1
          clear HB1
          have Bk := Ck
          clear Ck
          have Bv := Cv
          clear Cv
          clear hb hc
          rcases hf with ⟨hh, m, ma, ml, mc, hx, hn, rfl, z0, z1, hmr⟩ | ⟨hh, rfl⟩
          rotate_left
          · have HH := hidK hh
            clear hh
            have k0 : w1.cell? ⟨w.heap.size, 0, none⟩ = some (.slice a1 l1 y1) := cellK Bk.out 0
            have k1 : w1.cell? ⟨w.heap.size, 1, none⟩ = some (.slice a2 l2 y2) := cellK Bk.out 1
            have k2 : w1.cell? ⟨w.heap.size, 2, none⟩ = some (.slice (some ⟨b, o, none⟩) l3 y3) := cellK Bk.out 2
            have k3 : w1.cell? ⟨w.heap.size, 3, none⟩ = some (.slice a4 l4 y4) := cellK Bk.out 3
            have k4 : w1.cell? ⟨w.heap.size, 4, none⟩ = some (.slice a5 l5 y5) := cellK Bk.out 4
            have k5 : w1.cell? ⟨w.heap.size, 5, none⟩ = some (.int .i64 c.now) := cellK Bk.out 5
            have ltk_1 : w.heap.size < w1.heap.size := lt_of_some Bk.out
            have v0 : w1.cell? ⟨gb, 0, none⟩ = some (.string v.n) := cellK Bv.out 0
            have v1 : w1.cell? ⟨gb, 1, none⟩ = some (.int .i64 v.c) := cellK Bv.out 1
            have v2 : w1.cell? ⟨gb, 2, none⟩ = some (.string v.z) := cellK Bv.out 2
            have v3 : w1.cell? ⟨gb, 3, none⟩ = some (.string v.k) := cellK Bv.out 3
            have v4 : w1.cell? ⟨gb, 4, none⟩ = some (.bool v.x) := cellK Bv.out 4
            have v5 : w1.cell? ⟨gb, 5, none⟩ = some (.string v.m) := cellK Bv.out 5
            have v6 : w1.cell? ⟨gb, 6, none⟩ = some (.bool v.y) := cellK Bv.out 6
            have v7 : w1.cell? ⟨gb, 7, none⟩ = some (.slice (some ⟨b2, o2, none⟩) vl vc) := cellK Bv.out 7
            have ltv_1 : gb < w1.heap.size := lt_of_some Bv.out
            go_wp2
            go_ret
            refine BoolB.f (fun h => ?_) (HB.out.alloc HB.out.size _)
            obtain ⟨i, m, e1, e2, _⟩ := (h.1 k v HXv.out) kq t HXt.out
            have := (hit_at HNR.out e1 e2).2
            rw [HH.out] at this
            cases this
          have HXm := hidK hx
          have HNm := hidK hn
          clear hx hn hh z0 z1 hmr
          by_cases hz : m.z = v.z
          · have q1 := tl_yes hz
            have HZ := hidK hz
            clear hz
            have k0 : w1.cell? ⟨w.heap.size, 0, none⟩ = some (.slice a1 l1 y1) := cellK Bk.out 0
            have k1 : w1.cell? ⟨w.heap.size, 1, none⟩ = some (.slice a2 l2 y2) := cellK Bk.out 1
            have k2 : w1.cell? ⟨w.heap.size, 2, none⟩ = some (.slice (some ⟨b, o, none⟩) l3 y3) := cellK Bk.out 2
            have k3 : w1.cell? ⟨w.heap.size, 3, none⟩ = some (.slice a4 l4 y4) := cellK Bk.out 3
            have k4 : w1.cell? ⟨w.heap.size, 4, none⟩ = some (.slice a5 l5 y5) := cellK Bk.out 4
            have k5 : w1.cell? ⟨w.heap.size, 5, none⟩ = some (.int .i64 c.now) := cellK Bk.out 5
            have ltk_1 : w.heap.size < w1.heap.size := lt_of_some Bk.out
            have v0 : w1.cell? ⟨gb, 0, none⟩ = some (.string v.n) := cellK Bv.out 0
            have v1 : w1.cell? ⟨gb, 1, none⟩ = some (.int .i64 v.c) := cellK Bv.out 1
            have v2 : w1.cell? ⟨gb, 2, none⟩ = some (.string v.z) := cellK Bv.out 2
            have v3 : w1.cell? ⟨gb, 3, none⟩ = some (.string v.k) := cellK Bv.out 3
            have v4 : w1.cell? ⟨gb, 4, none⟩ = some (.bool v.x) := cellK Bv.out 4
            have v5 : w1.cell? ⟨gb, 5, none⟩ = some (.string v.m) := cellK Bv.out 5
            have v6 : w1.cell? ⟨gb, 6, none⟩ = some (.bool v.y) := cellK Bv.out 6
            have v7 : w1.cell? ⟨gb, 7, none⟩ = some (.slice (some ⟨b2, o2, none⟩) vl vc) := cellK Bv.out 7
            have ltv_1 : gb < w1.heap.size := lt_of_some Bv.out
            go_wp2_with fail
            refine ⟨⟨kq + 1, by omega, by go_num, fun j s hj hs => ?_, HBW1.out.alloc HBW1.out.size _⟩, by simp [intOf]; omega⟩
            by_cases e : j = kq
            · subst e
              rw [HXt.out] at hs
              obtain rfl := Option.some.inj hs
              exact ⟨_, m, HXm.out, HNm.out, HZ.out⟩
            · exact HQ2.out j s (by omega) hs
          · have q1 := tl_no hz
            have HZ := hidK hz
            clear hz
            have k0 : w1.cell? ⟨w.heap.size, 0, none⟩ = some (.slice a1 l1 y1) := cellK Bk.out 0
            have k1 : w1.cell? ⟨w.heap.size, 1, none⟩ = some (.slice a2 l2 y2) := cellK Bk.out 1
            have k2 : w1.cell? ⟨w.heap.size, 2, none⟩ = some (.slice (some ⟨b, o, none⟩) l3 y3) := cellK Bk.out 2
            have k3 : w1.cell? ⟨w.heap.size, 3, none⟩ = some (.slice a4 l4 y4) := cellK Bk.out 3
            have k4 : w1.cell? ⟨w.heap.size, 4, none⟩ = some (.slice a5 l5 y5) := cellK Bk.out 4
            have k5 : w1.cell? ⟨w.heap.size, 5, none⟩ = some (.int .i64 c.now) := cellK Bk.out 5
            have ltk_1 : w.heap.size < w1.heap.size := lt_of_some Bk.out
            have v0 : w1.cell? ⟨gb, 0, none⟩ = some (.string v.n) := cellK Bv.out 0
            have v1 : w1.cell? ⟨gb, 1, none⟩ = some (.int .i64 v.c) := cellK Bv.out 1
            have v2 : w1.cell? ⟨gb, 2, none⟩ = some (.string v.z) := cellK Bv.out 2
            have v3 : w1.cell? ⟨gb, 3, none⟩ = some (.string v.k) := cellK Bv.out 3
            have v4 : w1.cell? ⟨gb, 4, none⟩ = some (.bool v.x) := cellK Bv.out 4
            have v5 : w1.cell? ⟨gb, 5, none⟩ = some (.string v.m) := cellK Bv.out 5
            have v6 : w1.cell? ⟨gb, 6, none⟩ = some (.bool v.y) := cellK Bv.out 6
            have v7 : w1.cell? ⟨gb, 7, none⟩ = some (.slice (some ⟨b2, o2, none⟩) vl vc) := cellK Bv.out 7
            have ltv_1 : gb < w1.heap.size := lt_of_some Bv.out
            go_wp2
            go_ret
            refine BoolB.f (fun h => ?_) (HB.out.alloc HB.out.size _)
            obtain ⟨i, m2, e1, e2, e3⟩ := (h.1 k v HXv.out) kq t HXt.out
            obtain ⟨_, rfl⟩ := HNR.out.inj e1 HXm.out (e2.trans HNm.out.symm)
            exact HZ.out e3
        · obtain rfl : vl = kq := by omega
          go_wp2_with fail
          refine ⟨⟨k + 1, by omega, by go_num, fun j z hj hz => ?_, HB.out, Bk.out⟩, by simp [intOf]; omega⟩
          by_cases e : j = k
          · subst e
            rw [HXv.out] at hz
            obtain rfl := Option.some.inj hz
            exact fun j s hs => HQ2.out j s (by have h1 := (List.getElem?_eq_some_iff.1 hs).1; have h2 := HVL.out; omega) hs
          · exact HQ.out j z (by omega) hz
    · obtain rfl : l3 = k := by omega
      have HQ1 : Hid (∀ (j : Nat) z, c.vs[j]? = some z → AQ1 c z) := fun j z hz => HQ.out j z (by have := (List.getElem?_eq_some_iff.1 hz).1; omega) hz
      clear HQ
      have kc : wr.cell? ⟨w.heap.size, 0, none⟩ = some (.slice a1 l1 y1) := cellK Bk.out 0
      have kl : w.heap.size < wr.heap.size := lt_of_some Bk.out
      go_wp2
      go_loopw [45] (fun i wr => ∃ k : Nat, k ≤ l1 ∧ i = .int .i64 k ∧ Hid (∀ (j : Nat) z, j < k → c.ns[j]? = some z → AQ2 c z) ∧ Hid (Below w.heap.size w wr) ∧ Hid (wr.heap[w.heap.size]? = some (.cells #[.slice a1 l1 y1, .slice a2 l2 y2, .slice a3 l3 y3, .slice a4 l4 y4, .slice a5 l5 y5, .int .i64 c.now] 37 (0, 0)))) (fun i _ => l1 - (intOf i).toNat)
      case atStart => exact ⟨0, by omega, rfl, fun _ _ h => absurd h (by omega), HB.out, Bk.out⟩
      case round =>
        obtain ⟨k, hk, rfl, HQ, HB, Bk⟩ := hrel
        by_cases hlt : k < l1
        · obtain ⟨b, o, n, rfl, hb, hx, hat⟩ := nd_at (HR.out.n.below HB.out) hlt
          obtain ⟨va, vl, vc, hvr, z0, z1, c0, c1, c2, c3, c4, c5, c6⟩ := nd_cells hat
          have HXn := hidK hx
          have HTn := hidK hvr
          have HZn0 := hidK z0
          have HZn1 := hidK z1
          clear hat hx z0 z1 hvr
          have GK := hidK ((Below.heap_alloc wr (.cells #[.string n.n, .string n.z, .int .i64 n.c, .int .i64 n.s, .int .i64 n.u, .bool n.d, .slice va vl vc] 102) _ (lt_of_some Bk.out)).trans Bk.out)
          have GR : Hid ((wr.alloc (.cells #[.string n.n, .string n.z, .int .i64 n.c, .int .i64 n.s, .int .i64 n.u, .bool n.d, .slice va vl vc] 102)).heap[wr.heap.size]? = some (.cells #[.string n.n, .string n.z, .int .i64 n.c, .int .i64 n.s, .int .i64 n.u, .bool n.d, .slice va vl vc] 102 (0, 0))) := Array.getElem?_push_size
          have HW := hidK (HB.out.trans ((below1 wr (.cells #[.string n.n, .string n.z, .int .i64 n.c, .int .i64 n.s, .int .i64 n.u, .bool n.d, .slice va vl vc] 102)).mono HB.out.size))
          have k0 : ∀ q : Wd (wr.alloc (.cells #[.string n.n, .string n.z, .int .i64 n.c, .int .i64 n.s, .int .i64 n.u, .bool n.d, .slice va vl vc] 102)), q.w.cell? ⟨w.heap.size, 0, none⟩ = some (.slice (some ⟨b, o, none⟩) l1 y1) := fun q => q.slot GK.out rfl
          have k1 : ∀ q : Wd (wr.alloc (.cells #[.string n.n, .string n.z, .int .i64 n.c, .int .i64 n.s, .int .i64 n.u, .bool n.d, .slice va vl vc] 102)), q.w.cell? ⟨w.heap.size, 1, none⟩ = some (.slice a2 l2 y2) := fun q => q.slot GK.out rfl
          have k2 : ∀ q : Wd (wr.alloc (.cells #[.string n.n, .string n.z, .int .i64 n.c, .int .i64 n.s, .int .i64 n.u, .bool n.d, .slice va vl vc] 102)), q.w.cell? ⟨w.heap.size, 2, none⟩ = some (.slice a3 l3 y3) := fun q => q.slot GK.out rfl
          have k3 : ∀ q : Wd (wr.alloc (.cells #[.string n.n, .string n.z, .int .i64 n.c, .int .i64 n.s, .int .i64 n.u, .bool n.d, .slice va vl vc] 102)), q.w.cell? ⟨w.heap.size, 3, none⟩ = some (.slice a4 l4 y4) := fun q => q.slot GK.out rfl
          have k4 : ∀ q : Wd (wr.alloc (.cells #[.string n.n, .string n.z, .int .i64 n.c, .int .i64 n.s, .int .i64 n.u, .bool n.d, .slice va vl vc] 102)), q.w.cell? ⟨w.heap.size, 4, none⟩ = some (.slice a5 l5 y5) := fun q => q.slot GK.out rfl
          have k5 : ∀ q : Wd (wr.alloc (.cells #[.string n.n, .string n.z, .int .i64 n.c, .int .i64 n.s, .int .i64 n.u, .bool n.d, .slice va vl vc] 102)), q.w.cell? ⟨w.heap.size, 5, none⟩ = some (.int .i64 c.now) := fun q => q.slot GK.out rfl
          have r0 : ∀ q : Wd (wr.alloc (.cells #[.string n.n, .string n.z, .int .i64 n.c, .int .i64 n.s, .int .i64 n.u, .bool n.d, .slice va vl vc] 102)), q.w.cell? ⟨wr.heap.size, 0, none⟩ = some (.string n.n) := fun q => q.slot GR.out rfl
          have r1 : ∀ q : Wd (wr.alloc (.cells #[.string n.n, .string n.z, .int .i64 n.c, .int .i64 n.s, .int .i64 n.u, .bool n.d, .slice va vl vc] 102)), q.w.cell? ⟨wr.heap.size, 1, none⟩ = some (.string n.z) := fun q => q.slot GR.out rfl
          have r2 : ∀ q : Wd (wr.alloc (.cells #[.string n.n, .string n.z, .int .i64 n.c, .int .i64 n.s, .int .i64 n.u, .bool n.d, .slice va vl vc] 102)), q.w.cell? ⟨wr.heap.size, 2, none⟩ = some (.int .i64 n.c) := fun q => q.slot GR.out rfl
          have r3 : ∀ q : Wd (wr.alloc (.cells #[.string n.n, .string n.z, .int .i64 n.c, .int .i64 n.s, .int .i64 n.u, .bool n.d, .slice va vl vc] 102)), q.w.cell? ⟨wr.heap.size, 3, none⟩ = some (.int .i64 n.s) := fun q => q.slot GR.out rfl
          have r4 : ∀ q : Wd (wr.alloc (.cells #[.string n.n, .string n.z, .int .i64 n.c, .int .i64 n.s, .int .i64 n.u, .bool n.d, .slice va vl vc] 102)), q.w.cell? ⟨wr.heap.size, 4, none⟩ = some (.int .i64 n.u) := fun q => q.slot GR.out rfl
          have r5 : ∀ q : Wd (wr.alloc (.cells #[.string n.n, .string n.z, .int .i64 n.c, .int .i64 n.s, .int .i64 n.u, .bool n.d, .slice va vl vc] 102)), q.w.cell? ⟨wr.heap.size, 5, none⟩ = some (.bool n.d) := fun q => q.slot GR.out rfl
          have r6 : ∀ q : Wd (wr.alloc (.cells #[.string n.n, .string n.z, .int .i64 n.c, .int .i64 n.s, .int .i64 n.u, .bool n.d, .slice va vl vc] 102)), q.w.cell? ⟨wr.heap.size, 6, none⟩ = some (.slice va vl vc) := fun q => q.slot GR.out rfl
          have hne0 := Wd.ne (wr.alloc (.cells #[.string n.n, .string n.z, .int .i64 n.c, .int .i64 n.s, .int .i64 n.u, .bool n.d, .slice va vl vc] 102))
          have HC := hidK (fun q : Wd (wr.alloc (.cells #[.string n.n, .string n.z, .int .i64 n.c, .int .i64 n.s, .int .i64 n.u, .bool n.d, .slice va vl vc] 102)) => iusedSlots_any ⟨(some ⟨b, o, none⟩), l1, y1, a2, l2, y2, a3, l3, y3, a4, l4, y4, a5, l5, y5⟩ c.now c.vs n.n q.w (HR.out.v.below (HW.out.trans (q.b.mono HW.out.size))) HL3.out)
          go_wp2_with fail
          refine wp_region_wide (by kernel_rfl) (by kernel_rfl) ?_
          repeat (go_big_quiet_step (first | (go_at_call 155; exact Calls.wide (HC.out _)) | fail))
          refine wpQuiet_nil ?_
          rintro _ ⟨q, rfl⟩
          have HB2 := hidK (HW.out.trans (q.b.mono HW.out.size))
          have Bk2 := hidK ((q.b.block _ (lt_of_some GK.out)).trans GK.out)
          clear HC hne0 k0 k1 k2 k3 k4 k5 r0 r1 r2 r3 r4 r5 r6 c0 c1 c2 c3 c4 c5 c6 hb HB Bk HW GK GR
          have HB := HB2
          have Bk := Bk2
          clear HB2 Bk2
          by_cases hq : onOf n.n c.vs ≤ n.s
          · go_wp2_with fail
            refine ⟨⟨k + 1, by omega, by go_num, fun j z hj hz => ?_, HB.out, Bk.out⟩, by simp [intOf]; omega⟩
            by_cases e : j = k
            · subst e
              rw [HXn.out] at hz
              obtain rfl := Option.some.inj hz
              exact hq
            · exact HQ.out j z (by omega) hz
          · have HQ2 := hidK hq
            go_wp2
            go_ret
            exact BoolB.f (fun h => by have h1 : onOf n.n c.vs ≤ n.s := (h.2 k n HXn.out); have h2 := HQ2.out; omega) HB.out
        · obtain rfl : l1 = k := by omega
          have HQ2 : Hid (∀ (j : Nat) z, c.ns[j]? = some z → AQ2 c z) := fun j z hz => HQ.out j z (by have := (List.getElem?_eq_some_iff.1 hz).1; omega) hz
          clear HQ
          go_wp2
          go_ret
          exact BoolB.t ⟨HQ1.out, HQ2.out⟩ HB.out

def MQ2 (c : Cl) (p : Pd) : Prop := p.p = 2 → RunI c p
def MountedI (c : Cl) : Prop := (∀ (j : Nat) z, c.ns[j]? = some z → MntI c z) ∧ (∀ (j : Nat) z, c.ps[j]? = some z → MQ2 c z)

set_option maxRecDepth 100000 in
set_option maxHeartbeats 6400000 in
theorem imounted_any (d : Ad) (c : Cl) (w : World) (hr : ClRow w d c.raw) (hn : RisBy Nd.n c.ns) (hx : RisBy Xd.n c.xs) (hv : RisBy Vd.n c.vs) (hne : ∀ (j : Nat) v, c.vs[j]? = some v → ¬ v.n = ⟨#[]⟩) :
    Calls Tryz.prog 70 #[.agg #[.slice d.a1 d.l1 d.c1, .slice d.a2 d.l2 d.c2, .slice d.a3 d.l3 d.c3, .slice d.a4 d.l4 d.c4, .slice d.a5 d.l5 d.c5, .int .i64 c.now]] w (BoolB (MountedI c) w) := by
  obtain ⟨a1, l1, y1, a2, l2, y2, a3, l3, y3, a4, l4, y4, a5, l5, y5⟩ := d
  dsimp only
  have HR := hidK hr
  have hl1 : c.ns.length = l1 := by simpa using (show (c.ns.map ndF).length = l1 from hr.n.1)
  have hm1 : l1 ≤ 9223372036854775807 := Nat.le_trans hr.n.2.1 hr.n.2.2.1
  have hl2 : c.ks.length = l2 := by simpa using (show (c.ks.map kdF).length = l2 from hr.k.1)
  have hm2 : l2 ≤ 9223372036854775807 := Nat.le_trans hr.k.2.1 hr.k.2.2.1
  have hl3 : c.vs.length = l3 := by simpa using (show (c.vs.map vdF).length = l3 from hr.v.1)
  have hm3 : l3 ≤ 9223372036854775807 := Nat.le_trans hr.v.2.1 hr.v.2.2.1
  have hl4 : c.xs.length = l4 := by simpa using (show (c.xs.map xdF).length = l4 from hr.x.1)
  have hm4 : l4 ≤ 9223372036854775807 := Nat.le_trans hr.x.2.1 hr.x.2.2.1
  have hl5 : c.ps.length = l5 := by simpa using (show (c.ps.map pdF).length = l5 from hr.p.1)
  have hm5 : l5 ≤ 9223372036854775807 := Nat.le_trans hr.p.2.1 hr.p.2.2.1
  clear hr
  have HNR := hidK hn
  have HXR := hidK hx
  have HVR := hidK hv
  have HNE := hidK hne
  clear hn hx hv hne
  go_enter Tryz.func70, Tryz.ntmps70
  go_wp2
  go_loopw [10] (fun i wr => ∃ k : Nat, k ≤ l1 ∧ i = .int .i64 k ∧ Hid (∀ (j : Nat) z, j < k → c.ns[j]? = some z → MntI c z) ∧ Hid (Below w.heap.size w wr) ∧ Hid (wr.heap[w.heap.size]? = some (.cells #[.slice a1 l1 y1, .slice a2 l2 y2, .slice a3 l3 y3, .slice a4 l4 y4, .slice a5 l5 y5, .int .i64 c.now] 37 (0, 0)))) (fun i _ => l1 - (intOf i).toNat)
  case atStart => exact ⟨0, by omega, rfl, fun _ _ h => absurd h (by omega), below1 _ _, Array.getElem?_push_size⟩
  case round =>
    obtain ⟨k, hk, rfl, HQ, HB, Bk⟩ := hrel
    by_cases hlt : k < l1
    · obtain ⟨b, o, n, rfl, hb, hx, hat⟩ := nd_at (HR.out.n.below HB.out) hlt
      obtain ⟨va, vl, vc, hvr, z0, z1, c0, c1, c2, c3, c4, c5, c6⟩ := nd_cells hat
      have HXn := hidK hx
      have HTn := hidK hvr
      have HZn0 := hidK z0
      have HZn1 := hidK z1
      clear hat hx z0 z1 hvr
      have k0 : wr.cell? ⟨w.heap.size, 0, none⟩ = some (.slice (some ⟨b, o, none⟩) l1 y1) := cellK Bk.out 0
      have k1 : wr.cell? ⟨w.heap.size, 1, none⟩ = some (.slice a2 l2 y2) := cellK Bk.out 1
      have k2 : wr.cell? ⟨w.heap.size, 2, none⟩ = some (.slice a3 l3 y3) := cellK Bk.out 2
      have k3 : wr.cell? ⟨w.heap.size, 3, none⟩ = some (.slice a4 l4 y4) := cellK Bk.out 3
      have k4 : wr.cell? ⟨w.heap.size, 4, none⟩ = some (.slice a5 l5 y5) := cellK Bk.out 4
      have k5 : wr.cell? ⟨w.heap.size, 5, none⟩ = some (.int .i64 c.now) := cellK Bk.out 5
      have ltk_0 : w.heap.size < wr.heap.size := lt_of_some Bk.out
      go_wp2_with fail
      refine (imnt_any ⟨(some ⟨b, o, none⟩), l1, y1, a2, l2, y2, a3, l3, y3, a4, l4, y4, a5, l5, y5⟩ c n va vl vc _ (HR.out.below (HB.out.trans ((below1 _ _).mono HB.out.size))) HVR.out (HTn.out.below (below1 _ _))).mono ?_
      rintro e w2 ⟨r, rfl, hi, hb3⟩
      clear k0 k1 k2 k3 k4 k5 ltk_0
      have hsz1 : (wr.alloc (.cells #[.string n.n, .string n.z, .int .i64 n.c, .int .i64 n.s, .int .i64 n.u, .bool n.d, .slice va vl vc] 102)).heap.size = wr.heap.size + 1 := by simp
      have Ck := hidK ((hb3.block (w.heap.size) (by rw [hsz1]; have := lt_of_some Bk.out; omega)).trans ((Below.heap_alloc _ _ _ (lt_of_some Bk.out)).trans (Bk.out)))
      have Cr : Hid (w2.heap[wr.heap.size]? = some (.cells #[.string n.n, .string n.z, .int .i64 n.c, .int .i64 n.s, .int .i64 n.u, .bool n.d, .slice va vl vc] 102 (0, 0))) := (hb3.block (wr.heap.size) (by rw [hsz1]; omega)).trans (Array.getElem?_push_size)
      have HB1 := hidK (HB.out.trans (((below1 _ _ : Below wr.heap.size wr (wr.alloc (.cells #[.string n.n, .string n.z, .int .i64 n.c, .int .i64 n.s, .int .i64 n.u, .bool n.d, .slice va vl vc] 102))).trans (hb3.mono (by rw [hsz1]; omega))).mono HB.out.size))
      clear HB hb3 Bk hsz1
      have HB := HB1
      clear HB1
      have Bk := Ck
      clear Ck
      have Br := Cr
      clear Cr
      have HI := hidK hi
      clear hi hb c0 c1 c2 c3 c4 c5 c6
      cases r
      · go_wp2
        go_ret
        exact BoolB.f (fun h => by have := HI.out.2 (h.1 k n HXn.out); cases this) HB.out
      · go_wp2_with fail
        refine ⟨⟨k + 1, by omega, by go_num, fun j z hj hz => ?_, HB.out, Bk.out⟩, by simp [intOf]; omega⟩
        by_cases e : j = k
        · subst e
          rw [HXn.out] at hz
          obtain rfl := Option.some.inj hz
          exact HI.out.1 (by first | trivial | rfl)
        · exact HQ.out j z (by omega) hz
    · obtain rfl : l1 = k := by omega
      have HQ1 : Hid (∀ (j : Nat) z, c.ns[j]? = some z → MntI c z) := fun j z hz => HQ.out j z (by have := (List.getElem?_eq_some_iff.1 hz).1; omega) hz
      clear HQ
      have kc : wr.cell? ⟨w.heap.size, 4, none⟩ = some (.slice a5 l5 y5) := cellK Bk.out 4
      have kl : w.heap.size < wr.heap.size := lt_of_some Bk.out
      go_wp2
      go_loopw [22] (fun i wr => ∃ k : Nat, k ≤ l5 ∧ i = .int .i64 k ∧ Hid (∀ (j : Nat) z, j < k → c.ps[j]? = some z → MQ2 c z) ∧ Hid (Below w.heap.size w wr) ∧ Hid (wr.heap[w.heap.size]? = some (.cells #[.slice a1 l1 y1, .slice a2 l2 y2, .slice a3 l3 y3, .slice a4 l4 y4, .slice a5 l5 y5, .int .i64 c.now] 37 (0, 0)))) (fun i _ => l5 - (intOf i).toNat)
      case atStart => exact ⟨0, by omega, rfl, fun _ _ h => absurd h (by omega), HB.out, Bk.out⟩
      case round =>
        obtain ⟨k, hk, rfl, HQ, HB, Bk⟩ := hrel
        by_cases hlt : k < l5
        · obtain ⟨b, o, p, rfl, hb, hx, hat⟩ := pd_at (HR.out.p.below HB.out) hlt
          obtain ⟨va, vl, vc, hvr, z0, z2, z4, c0, c1, c2, c3, c4, c5⟩ := pd_cells hat
          have HXp := hidK hx
          have HTp := hidK hvr
          have HZp0 := hidK z0
          have HZp2 := hidK z2
          have HZp4 := hidK z4
          clear hat hx z0 z2 z4 hvr
          by_cases hp2 : p.p = 2
          rotate_left
          · have HP2 := hidK hp2
            have k0 : wr.cell? ⟨w.heap.size, 0, none⟩ = some (.slice a1 l1 y1) := cellK Bk.out 0
            have k1 : wr.cell? ⟨w.heap.size, 1, none⟩ = some (.slice a2 l2 y2) := cellK Bk.out 1
            have k2 : wr.cell? ⟨w.heap.size, 2, none⟩ = some (.slice a3 l3 y3) := cellK Bk.out 2
            have k3 : wr.cell? ⟨w.heap.size, 3, none⟩ = some (.slice a4 l4 y4) := cellK Bk.out 3
            have k4 : wr.cell? ⟨w.heap.size, 4, none⟩ = some (.slice (some ⟨b, o, none⟩) l5 y5) := cellK Bk.out 4
            have k5 : wr.cell? ⟨w.heap.size, 5, none⟩ = some (.int .i64 c.now) := cellK Bk.out 5
            have ltk_0 : w.heap.size < wr.heap.size := lt_of_some Bk.out
            go_wp2
            refine ⟨⟨k + 1, by omega, by go_num, fun j z hj hz => ?_, (HB.out.alloc HB.out.size _), (Below.heap_alloc _ _ _ (lt_of_some Bk.out)).trans Bk.out⟩, by simp [intOf]; omega⟩
            by_cases e : j = k
            · subst e
              rw [HXp.out] at hz
              obtain rfl := Option.some.inj hz
              exact fun h => absurd h HP2.out
            · exact HQ.out j z (by omega) hz
          have HP2 := hidK hp2
          rw [hp2] at c5
          clear hp2
          have k0 : wr.cell? ⟨w.heap.size, 0, none⟩ = some (.slice a1 l1 y1) := cellK Bk.out 0
          have k1 : wr.cell? ⟨w.heap.size, 1, none⟩ = some (.slice a2 l2 y2) := cellK Bk.out 1
          have k2 : wr.cell? ⟨w.heap.size, 2, none⟩ = some (.slice a3 l3 y3) := cellK Bk.out 2
          have k3 : wr.cell? ⟨w.heap.size, 3, none⟩ = some (.slice a4 l4 y4) := cellK Bk.out 3
          have k4 : wr.cell? ⟨w.heap.size, 4, none⟩ = some (.slice (some ⟨b, o, none⟩) l5 y5) := cellK Bk.out 4
          have k5 : wr.cell? ⟨w.heap.size, 5, none⟩ = some (.int .i64 c.now) := cellK Bk.out 5
          have ltk_0 : w.heap.size < wr.heap.size := lt_of_some Bk.out
          go_wp2_with fail
          have HCall := hidK (irun_any ⟨a1, l1, y1, a2, l2, y2, a3, l3, y3, a4, l4, y4, (some ⟨b, o, none⟩), l5, y5⟩ c p va vl vc (wr.alloc (.cells #[.string p.n, .int .i64 p.c, .string p.z, .slice va vl vc, .string p.d, .int .i64 2] 76)) (HR.out.below (HB.out.trans ((below1 _ _).mono HB.out.size))) HNR.out HXR.out HVR.out HNE.out (HTp.out.below (below1 _ _)))
          rw [HP2.out] at HCall
          refine (HCall.out).mono ?_
          rintro e w2 ⟨r, rfl, hi, hb3⟩
          clear k0 k1 k2 k3 k4 k5 ltk_0
          have hsz1 : (wr.alloc (.cells #[.string p.n, .int .i64 p.c, .string p.z, .slice va vl vc, .string p.d, .int .i64 2] 76)).heap.size = wr.heap.size + 1 := by simp
          have Ck := hidK ((hb3.block (w.heap.size) (by rw [hsz1]; have := lt_of_some Bk.out; omega)).trans ((Below.heap_alloc _ _ _ (lt_of_some Bk.out)).trans (Bk.out)))
          have Cr : Hid (w2.heap[wr.heap.size]? = some (.cells #[.string p.n, .int .i64 p.c, .string p.z, .slice va vl vc, .string p.d, .int .i64 2] 76 (0, 0))) := (hb3.block (wr.heap.size) (by rw [hsz1]; omega)).trans (Array.getElem?_push_size)
          have HB1 := hidK (HB.out.trans (((below1 _ _ : Below wr.heap.size wr (wr.alloc (.cells #[.string p.n, .int .i64 p.c, .string p.z, .slice va vl vc, .string p.d, .int .i64 2] 76))).trans (hb3.mono (by rw [hsz1]; omega))).mono HB.out.size))
          clear HB hb3 Bk hsz1
          have HB := HB1
          clear HB1
          have Bk := Ck
          clear Ck
          have Br := Cr
          clear Cr
          have HI := hidK hi
          clear hi hb HCall c0 c1 c2 c3 c4 c5
          cases r
          · go_wp2
            go_ret
            exact BoolB.f (fun h => by have := HI.out.2 ((h.2 k p HXp.out) HP2.out); cases this) HB.out
          · go_wp2_with fail
            refine ⟨⟨k + 1, by omega, by go_num, fun j z hj hz => ?_, HB.out, Bk.out⟩, by simp [intOf]; omega⟩
            by_cases e : j = k
            · subst e
              rw [HXp.out] at hz
              obtain rfl := Option.some.inj hz
              exact fun _ => HI.out.1 (by first | trivial | rfl)
            · exact HQ.out j z (by omega) hz
        · obtain rfl : l5 = k := by omega
          have HQ2 : Hid (∀ (j : Nat) z, c.ps[j]? = some z → MQ2 c z) := fun j z hz => HQ.out j z (by have := (List.getElem?_eq_some_iff.1 hz).1; omega) hz
          clear HQ
          go_wp2
          go_ret
          exact BoolB.t ⟨HQ1.out, HQ2.out⟩ HB.out

end Rc
end Go.Proofs.YtcljghpfclegmaaGreatDoor
