/-
  Whether what is mounted may be, and what runs has what it needs, as the specification asks it.
-/
import Derived.Test.YtcljghpfclegmaaGreatDoorSp7
namespace Go.Proofs.YtcljghpfclegmaaGreatDoor
open Go.RowKit
namespace Rc
open Mk

set_option maxRecDepth 100000 in
set_option maxHeartbeats 12800000 in
theorem smounted_any (d : Ad) (c : Cl) (w : World) (hr : ClRow w d c.raw) (hn : RisBy Nd.n c.ns) (hx : RisBy Xd.n c.xs) (hv : RisBy Vd.n c.vs) (hne : ∀ (j : Nat) v, c.vs[j]? = some v → ¬ v.n = ⟨#[]⟩) (hrun : ∀ (j : Nat) p, c.ps[j]? = some p → p.p = 2 → (∃ (i : Nat) (n : Nd), c.ns[i]? = some n ∧ n.n = p.d) ∧ ∀ (j : Nat) t, p.zs[j]? = some t → ∃ v, IsBd c t v) :
    Calls Tryz.prog 59 #[.agg #[.slice d.a1 d.l1 d.c1, .slice d.a2 d.l2 d.c2, .slice d.a3 d.l3 d.c3, .slice d.a4 d.l4 d.c4, .slice d.a5 d.l5 d.c5, .int .i64 c.now]] w (BoolB (MountedI c) w) := by
  obtain ⟨a1, l1, y1, a2, l2, y2, a3, l3, y3, a4, l4, y4, a5, l5, y5⟩ := d
  dsimp only
  have HR := hidK hr
  have hl1 : c.ns.length = l1 := by simpa using (show (c.ns.map ndF).length = l1 from hr.n.1)
  have hm1 : l1 ≤ 9223372036854775807 := Nat.le_trans hr.n.2.1 hr.n.2.2.1
  have hl2 : c.ks.length = l2 := by simpa using (show (c.ks.map kdF).length = l2 from hr.k.1)
  have hm2 : l2 ≤ 9223372036854775807 := Nat.le_trans hr.k.2.1 hr.k.2.2.1
  have hl3 : c.vs.length = l3 := by simpa using (show (c.vs.map vdF).length = l3 from hr.v.1)
  have hm3 : l3 ≤ 9223372036854775807 := Nat.le_trans hr.v.2.1 hr.v.2.2.1
  have hl4 : c.xs.length = l4 := by simpa using (show (c.xs.map xdF).length = l4 from hr.x.1)
  have hm4 : l4 ≤ 9223372036854775807 := Nat.le_trans hr.x.2.1 hr.x.2.2.1
  have hl5 : c.ps.length = l5 := by simpa using (show (c.ps.map pdF).length = l5 from hr.p.1)
  have hm5 : l5 ≤ 9223372036854775807 := Nat.le_trans hr.p.2.1 hr.p.2.2.1
  clear hr
  have HNR := hidK hn
  have HX := hidK hx
  have HV := hidK hv
  have HNE := hidK hne
  have HRun := hidK hrun
  clear hn hx hv hne hrun
  go_enter Tryz.func59, Tryz.ntmps59
  go_wp2
  go_loopw [3] (fun i wr => ∃ k : Nat, k ≤ l1 ∧ i = .int .i64 k ∧ Hid (∀ (j : Nat) z, j < k → c.ns[j]? = some z → MntI c z) ∧ Hid (Below w.heap.size w wr) ∧ Hid (wr.heap[w.heap.size]? = some (.cells #[.slice a1 l1 y1, .slice a2 l2 y2, .slice a3 l3 y3, .slice a4 l4 y4, .slice a5 l5 y5, .int .i64 c.now] 37 (0, 0)))) (fun i _ => l1 - (intOf i).toNat)
  case atStart => exact ⟨0, by omega, rfl, fun _ _ h => absurd h (by omega), below1 _ _, Array.getElem?_push_size⟩
  case round =>
    obtain ⟨k, hk, rfl, HQ, HB, Bk⟩ := hrel
    have pk : wr.cell? ⟨w.heap.size, 0, none⟩ = some (.slice a1 l1 y1) := cellK Bk.out 0
    have pkl : w.heap.size < wr.heap.size := lt_of_some Bk.out
    by_cases hlt : k < l1
    · obtain ⟨b, o, n, rfl, hb, hx, hat⟩ := nd_at (HR.out.n.below HB.out) hlt
      obtain ⟨va, vl, vc, hvr, z0, z1, c0, c1, c2, c3, c4, c5, c6⟩ := nd_cells hat
      have HXn := hidK hx
      have HTn := hidK hvr
      have HZn0 := hidK z0
      have HZn1 := hidK z1
      clear hat hx z0 z1 hvr
      have hvl : n.zs.length = vl := HTn.out.1
      have hvc : vl ≤ 9223372036854775807 := Nat.le_trans HTn.out.2.1 HTn.out.2.2.1
      have HVL := hidK hvl
      clear hvl
      have KV : Hid ((wr.alloc (.cells #[.string n.n, .string n.z, .int .i64 n.c, .int .i64 n.s, .int .i64 n.u, .bool n.d, .slice va vl vc] 102)).heap[w.heap.size]? = some (.cells #[.slice (some ⟨b, o, none⟩) l1 y1, .slice a2 l2 y2, .slice a3 l3 y3, .slice a4 l4 y4, .slice a5 l5 y5, .int .i64 c.now] 37 (0, 0))) := (Below.heap_alloc wr (.cells #[.string n.n, .string n.z, .int .i64 n.c, .int .i64 n.s, .int .i64 n.u, .bool n.d, .slice va vl vc] 102) _ (lt_of_some Bk.out)).trans Bk.out
      have GV : Hid ((wr.alloc (.cells #[.string n.n, .string n.z, .int .i64 n.c, .int .i64 n.s, .int .i64 n.u, .bool n.d, .slice va vl vc] 102)).heap[wr.heap.size]? = some (.cells #[.string n.n, .string n.z, .int .i64 n.c, .int .i64 n.s, .int .i64 n.u, .bool n.d, .slice va vl vc] 102 (0, 0))) := Array.getElem?_push_size
      have BV := hidK (HB.out.trans ((below1 wr (.cells #[.string n.n, .string n.z, .int .i64 n.c, .int .i64 n.s, .int .i64 n.u, .bool n.d, .slice va vl vc] 102)).mono HB.out.size))
      have TT := hidK (HTn.out.below (below1 wr (.cells #[.string n.n, .string n.z, .int .i64 n.c, .int .i64 n.s, .int .i64 n.u, .bool n.d, .slice va vl vc] 102)))
      obtain ⟨W, hW⟩ : ∃ W, W = wr.alloc (.cells #[.string n.n, .string n.z, .int .i64 n.c, .int .i64 n.s, .int .i64 n.u, .bool n.d, .slice va vl vc] 102) := ⟨_, rfl⟩
      obtain ⟨gb, hgb⟩ : ∃ gb, gb = wr.heap.size := ⟨_, rfl⟩
      rw [← hW] at KV GV BV TT
      rw [← hgb] at GV
      go_wp2
      rw [← hW, ← hgb]
      clear hW hgb HB Bk HTn c0 c1 c2 c3 c4 c5 c6 hb pk pkl
      go_loopw [5] (fun i wr => ∃ kq : Nat, kq ≤ vl ∧ i = .int .i64 kq ∧ Hid (∀ (j : Nat) t, j < kq → n.zs[j]? = some t → ∃ (i : Nat) (v : Vd), c.vs[i]? = some v ∧ v.n = t ∧ (n.d = true ∨ InL v.zs n.n)) ∧ Hid (Below W.heap.size W wr)) (fun i _ => vl - (intOf i).toNat)
      case atStart => exact ⟨0, by omega, rfl, fun _ _ h => absurd h (by omega), Below.refl _ _⟩
      case round =>
        obtain ⟨kq, hkq, rfl, HQ2, HBW⟩ := hrel
        have HB := hidK (BV.out.trans (HBW.out.mono BV.out.size))
        have Bk := hidK ((HBW.out.block _ (lt_of_some KV.out)).trans KV.out)
        have Bv := hidK ((HBW.out.block _ (lt_of_some GV.out)).trans GV.out)
        have pv : wr.cell? ⟨gb, 6, none⟩ = some (.slice va vl vc) := cellK Bv.out 6
        by_cases hlt2 : kq < vl
        · obtain ⟨b2, o2, t, rfl, hb, hx, hc, hsz⟩ := (TT.out.below HBW.out).at hlt2
          have HXt := hidK hx
          clear hx hsz
          by_cases hnn : ∃ (i : Nat) (v : Vd), c.vs[i]? = some v ∧ v.n = t
          rotate_left
          · have HH := hidK hnn
            clear hnn
            have Gk : Hid (wr.heap[w.heap.size]? = some (.cells #[.slice (some ⟨b, o, none⟩) l1 y1, .slice a2 l2 y2, .slice a3 l3 y3, .slice a4 l4 y4, .slice a5 l5 y5, .int .i64 c.now] 37 (0, 0))) := Bk.out
            have Gv : Hid (wr.heap[gb]? = some (.cells #[.string n.n, .string n.z, .int .i64 n.c, .int .i64 n.s, .int .i64 n.u, .bool n.d, .slice (some ⟨b2, o2, none⟩) vl vc] 102 (0, 0))) := Bv.out
            have HW : Hid (Below w.heap.size w wr) := HB.out
            have k0 : ∀ q : Wd wr, q.w.cell? ⟨w.heap.size, 0, none⟩ = some (.slice (some ⟨b, o, none⟩) l1 y1) := fun q => q.slot Gk.out rfl
            have k1 : ∀ q : Wd wr, q.w.cell? ⟨w.heap.size, 1, none⟩ = some (.slice a2 l2 y2) := fun q => q.slot Gk.out rfl
            have k2 : ∀ q : Wd wr, q.w.cell? ⟨w.heap.size, 2, none⟩ = some (.slice a3 l3 y3) := fun q => q.slot Gk.out rfl
            have k3 : ∀ q : Wd wr, q.w.cell? ⟨w.heap.size, 3, none⟩ = some (.slice a4 l4 y4) := fun q => q.slot Gk.out rfl
            have k4 : ∀ q : Wd wr, q.w.cell? ⟨w.heap.size, 4, none⟩ = some (.slice a5 l5 y5) := fun q => q.slot Gk.out rfl
            have k5 : ∀ q : Wd wr, q.w.cell? ⟨w.heap.size, 5, none⟩ = some (.int .i64 c.now) := fun q => q.slot Gk.out rfl
            have v6 : ∀ q : Wd wr, q.w.cell? ⟨gb, 6, none⟩ = some (.slice (some ⟨b2, o2, none⟩) vl vc) := fun q => q.slot Gv.out rfl
            have tw : ∀ q : Wd wr, q.w.cell? ⟨b2, o2 + kq, none⟩ = some (.string t) := fun q => (q.cell (hb)).trans (hc)
            have hne0 := Wd.ne wr
            have HC0 := hidK (fun q : Wd wr => sxvd_miss ⟨(some ⟨b, o, none⟩), l1, y1, a2, l2, y2, a3, l3, y3, a4, l4, y4, a5, l5, y5⟩ c.now c.vs t q.w (HR.out.v.below (HW.out.trans (q.b.mono HW.out.size))) (fun i v h1 h2 => HH.out ⟨i, v, h1, h2⟩))
            go_wp2_with fail
            refine wp_region_wide (by kernel_rfl) (by kernel_rfl) ?_
            repeat (go_big_quiet_step (first | (go_at_call 100; exact Calls.wide (HC0.out _)) | fail))
            refine wpQuiet_nil ?_
            rintro _ ⟨q1, rfl⟩
            have HB1 := hidK (HW.out.trans (q1.b.mono HW.out.size))
            have Ck := hidK ((q1.b.block _ (lt_of_some Gk.out)).trans Gk.out)
            have Cv := hidK ((q1.b.block _ (lt_of_some Gv.out)).trans Gv.out)
            clear hne0 HW HB HC0 k0 k1 k2 k3 k4 k5 v6 tw Gk Gv Bk Bv pv
            have HB := HB1
            clear HB1
            have Bk := Ck
            clear Ck
            have Bv := Cv
            clear Cv
            have Gk : Hid (q1.w.heap[w.heap.size]? = some (.cells #[.slice (some ⟨b, o, none⟩) l1 y1, .slice a2 l2 y2, .slice a3 l3 y3, .slice a4 l4 y4, .slice a5 l5 y5, .int .i64 c.now] 37 (0, 0))) := Bk.out
            have Gv : Hid (q1.w.heap[gb]? = some (.cells #[.string n.n, .string n.z, .int .i64 n.c, .int .i64 n.s, .int .i64 n.u, .bool n.d, .slice (some ⟨b2, o2, none⟩) vl vc] 102 (0, 0))) := Bv.out
            have HW : Hid (Below w.heap.size w q1.w) := HB.out
            have k2 : ∀ q : Wd q1.w, q.w.cell? ⟨w.heap.size, 2, none⟩ = some (.slice a3 l3 y3) := fun q => q.slot Gk.out rfl
            have v0 : ∀ q : Wd q1.w, q.w.cell? ⟨gb, 0, none⟩ = some (.string n.n) := fun q => q.slot Gv.out rfl
            have v1 : ∀ q : Wd q1.w, q.w.cell? ⟨gb, 1, none⟩ = some (.string n.z) := fun q => q.slot Gv.out rfl
            have v2 : ∀ q : Wd q1.w, q.w.cell? ⟨gb, 2, none⟩ = some (.int .i64 n.c) := fun q => q.slot Gv.out rfl
            have v3 : ∀ q : Wd q1.w, q.w.cell? ⟨gb, 3, none⟩ = some (.int .i64 n.s) := fun q => q.slot Gv.out rfl
            have v4 : ∀ q : Wd q1.w, q.w.cell? ⟨gb, 4, none⟩ = some (.int .i64 n.u) := fun q => q.slot Gv.out rfl
            have v5 : ∀ q : Wd q1.w, q.w.cell? ⟨gb, 5, none⟩ = some (.bool n.d) := fun q => q.slot Gv.out rfl
            have v6 : ∀ q : Wd q1.w, q.w.cell? ⟨gb, 6, none⟩ = some (.slice (some ⟨b2, o2, none⟩) vl vc) := fun q => q.slot Gv.out rfl
            have hne0 := Wd.ne q1.w
            go_wp2_with fail
            refine wp_region_wide (by kernel_rfl) (by kernel_rfl) ?_
            repeat (go_big_quiet_step (first | fail))
            refine wpQuiet_nil ?_
            rintro _ ⟨q2, rfl⟩
            have HB2 := hidK (HW.out.trans (q2.b.mono HW.out.size))
            have Ck := hidK ((q2.b.block _ (lt_of_some Gk.out)).trans Gk.out)
            have Cv := hidK ((q2.b.block _ (lt_of_some Gv.out)).trans Gv.out)
            clear hne0 HW HB k2 v0 v1 v2 v3 v4 v5 v6 Gk Gv Bk Bv
            have HB := HB2
            clear HB2
            have Bk := Ck
            clear Ck
            have Bv := Cv
            clear Cv
            go_wp2
            go_ret
            refine BoolB.f (fun h => ?_) HB.out
            obtain ⟨i, v, h2, h3, _⟩ := (h.1 k n HXn.out) kq t HXt.out
            exact HH.out ⟨i, v, h2, h3⟩
          obtain ⟨j3, v, h1, h2⟩ := hnn
          have hl3' : j3 < l3 := by have h3 := (List.getElem?_eq_some_iff.1 h1).1; omega
          obtain ⟨b3, o3, v', rfl, hb3, hv', hat⟩ := vd_at HR.out.v hl3'
          rw [h1] at hv'
          obtain rfl := Option.some.inj hv'
          obtain ⟨xa, xl, xc, hvr, z0, z2, z3, z5, d0, d1, d2, d3, d4, d5, d6, d7⟩ := vd_cells hat
          have HJ := hidK h1
          have HNv := hidK h2
          have HTx := hidK hvr
          have HC7 := hidK d7
          have HB3 := hidK hb3
          have hj31 : decide ((j3 : Int) < 0) = false := by simp
          clear hv' hat hvr z0 z2 z3 z5 d0 d1 d2 d3 d4 d5 d6 d7 h1 h2 hb3
          have Gk : Hid (wr.heap[w.heap.size]? = some (.cells #[.slice (some ⟨b, o, none⟩) l1 y1, .slice a2 l2 y2, .slice (some ⟨b3, o3, none⟩) l3 y3, .slice a4 l4 y4, .slice a5 l5 y5, .int .i64 c.now] 37 (0, 0))) := Bk.out
          have Gv : Hid (wr.heap[gb]? = some (.cells #[.string n.n, .string n.z, .int .i64 n.c, .int .i64 n.s, .int .i64 n.u, .bool n.d, .slice (some ⟨b2, o2, none⟩) vl vc] 102 (0, 0))) := Bv.out
          have HW : Hid (Below w.heap.size w wr) := HB.out
          have k0 : ∀ q : Wd wr, q.w.cell? ⟨w.heap.size, 0, none⟩ = some (.slice (some ⟨b, o, none⟩) l1 y1) := fun q => q.slot Gk.out rfl
          have k1 : ∀ q : Wd wr, q.w.cell? ⟨w.heap.size, 1, none⟩ = some (.slice a2 l2 y2) := fun q => q.slot Gk.out rfl
          have k2 : ∀ q : Wd wr, q.w.cell? ⟨w.heap.size, 2, none⟩ = some (.slice (some ⟨b3, o3, none⟩) l3 y3) := fun q => q.slot Gk.out rfl
          have k3 : ∀ q : Wd wr, q.w.cell? ⟨w.heap.size, 3, none⟩ = some (.slice a4 l4 y4) := fun q => q.slot Gk.out rfl
          have k4 : ∀ q : Wd wr, q.w.cell? ⟨w.heap.size, 4, none⟩ = some (.slice a5 l5 y5) := fun q => q.slot Gk.out rfl
          have k5 : ∀ q : Wd wr, q.w.cell? ⟨w.heap.size, 5, none⟩ = some (.int .i64 c.now) := fun q => q.slot Gk.out rfl
          have v6 : ∀ q : Wd wr, q.w.cell? ⟨gb, 6, none⟩ = some (.slice (some ⟨b2, o2, none⟩) vl vc) := fun q => q.slot Gv.out rfl
          have tw : ∀ q : Wd wr, q.w.cell? ⟨b2, o2 + kq, none⟩ = some (.string t) := fun q => (q.cell (hb)).trans (hc)
          have hne0 := Wd.ne wr
          have HC0 := hidK (fun q : Wd wr => sxvd_hit ⟨(some ⟨b, o, none⟩), l1, y1, a2, l2, y2, (some ⟨b3, o3, none⟩), l3, y3, a4, l4, y4, a5, l5, y5⟩ c.now c.vs t q.w (HR.out.v.below (HW.out.trans (q.b.mono HW.out.size))) HV.out HJ.out HNv.out)
          go_wp2_with fail
          refine wp_region_wide (by kernel_rfl) (by kernel_rfl) ?_
          repeat (go_big_quiet_step (first | (go_at_call 100; exact Calls.wide (HC0.out _)) | fail))
          refine wpQuiet_nil ?_
          rintro _ ⟨q1, rfl⟩
          have HB1 := hidK (HW.out.trans (q1.b.mono HW.out.size))
          have Ck := hidK ((q1.b.block _ (lt_of_some Gk.out)).trans Gk.out)
          have Cv := hidK ((q1.b.block _ (lt_of_some Gv.out)).trans Gv.out)
          clear hne0 HW HB HC0 k0 k1 k2 k3 k4 k5 v6 tw Gk Gv Bk Bv pv hb hc
          have HB := HB1
          clear HB1
          have Bk := Ck
          clear Ck
          have Bv := Cv
          clear Cv
          have HBW1 := hidK (HBW.out.trans (q1.b.mono HBW.out.size))
          have hbv : b3 < q1.w.heap.size := Nat.lt_of_lt_of_le HB3.out HB.out.size
          have v7 := (cell_below HB.out HB3.out).trans HC7.out
          clear HBW
          rcases Bool.eq_false_or_eq_true n.d with hd | hd
          · have HDd := hidK hd
            clear hd
            have Bv2 : Hid (q1.w.heap[gb]? = some (.cells #[.string n.n, .string n.z, .int .i64 n.c, .int .i64 n.s, .int .i64 n.u, .bool true, .slice (some ⟨b2, o2, none⟩) vl vc] 102 (0, 0))) := by have := Bv.out; rw [HDd.out] at this; exact this
            clear Bv
            have Bv := Bv2
            clear Bv2
            have Gk : Hid (q1.w.heap[w.heap.size]? = some (.cells #[.slice (some ⟨b, o, none⟩) l1 y1, .slice a2 l2 y2, .slice (some ⟨b3, o3, none⟩) l3 y3, .slice a4 l4 y4, .slice a5 l5 y5, .int .i64 c.now] 37 (0, 0))) := Bk.out
            have Gv : Hid (q1.w.heap[gb]? = some (.cells #[.string n.n, .string n.z, .int .i64 n.c, .int .i64 n.s, .int .i64 n.u, .bool true, .slice (some ⟨b2, o2, none⟩) vl vc] 102 (0, 0))) := Bv.out
            have HW : Hid (Below w.heap.size w q1.w) := HB.out
            have k2 : ∀ q : Wd q1.w, q.w.cell? ⟨w.heap.size, 2, none⟩ = some (.slice (some ⟨b3, o3, none⟩) l3 y3) := fun q => q.slot Gk.out rfl
            have v0 : ∀ q : Wd q1.w, q.w.cell? ⟨gb, 0, none⟩ = some (.string n.n) := fun q => q.slot Gv.out rfl
            have v1 : ∀ q : Wd q1.w, q.w.cell? ⟨gb, 1, none⟩ = some (.string n.z) := fun q => q.slot Gv.out rfl
            have v2 : ∀ q : Wd q1.w, q.w.cell? ⟨gb, 2, none⟩ = some (.int .i64 n.c) := fun q => q.slot Gv.out rfl
            have v3 : ∀ q : Wd q1.w, q.w.cell? ⟨gb, 3, none⟩ = some (.int .i64 n.s) := fun q => q.slot Gv.out rfl
            have v4 : ∀ q : Wd q1.w, q.w.cell? ⟨gb, 4, none⟩ = some (.int .i64 n.u) := fun q => q.slot Gv.out rfl
            have v5 : ∀ q : Wd q1.w, q.w.cell? ⟨gb, 5, none⟩ = some (.bool true) := fun q => q.slot Gv.out rfl
            have v6 : ∀ q : Wd q1.w, q.w.cell? ⟨gb, 6, none⟩ = some (.slice (some ⟨b2, o2, none⟩) vl vc) := fun q => q.slot Gv.out rfl
            have vw : ∀ q : Wd q1.w, q.w.cell? ⟨b3, o3 + j3 * 8 + 7, none⟩ = some (.slice xa xl xc) := fun q => (q.cell (hbv)).trans (v7)
            have hne0 := Wd.ne q1.w
            go_wp2_with fail
            refine wp_region_wide (by kernel_rfl) (by kernel_rfl) ?_
            repeat (go_big_quiet_step (first | fail))
            refine wpQuiet_nil ?_
            rintro _ ⟨q2, rfl⟩
            have HB2 := hidK (HW.out.trans (q2.b.mono HW.out.size))
            have Ck := hidK ((q2.b.block _ (lt_of_some Gk.out)).trans Gk.out)
            have Cv := hidK ((q2.b.block _ (lt_of_some Gv.out)).trans Gv.out)
            clear hne0 HW HB k2 v0 v1 v2 v3 v4 v5 v6 vw Gk Gv Bk Bv hbv v7
            have HB := HB2
            clear HB2
            have Bk := Ck
            clear Ck
            have Bv := Cv
            clear Cv
            go_wp2_with fail
            refine ⟨⟨kq + 1, by omega, by go_num, fun j s hj hs => ?_, HBW1.out.trans (q2.b.mono HBW1.out.size)⟩, by simp [intOf]; omega⟩
            by_cases e : j = kq
            · subst e
              rw [HXt.out] at hs
              obtain rfl := Option.some.inj hs
              exact ⟨j3, v, HJ.out, HNv.out, .inl HDd.out⟩
            · exact HQ2.out j s (by omega) hs
          · have HDd := hidK hd
            clear hd
            have Bv2 : Hid (q1.w.heap[gb]? = some (.cells #[.string n.n, .string n.z, .int .i64 n.c, .int .i64 n.s, .int .i64 n.u, .bool false, .slice (some ⟨b2, o2, none⟩) vl vc] 102 (0, 0))) := by have := Bv.out; rw [HDd.out] at this; exact this
            clear Bv
            have Bv := Bv2
            clear Bv2
            by_cases hin : InL v.zs n.n
            · have HIn := hidK hin
              clear hin
              have Gk : Hid (q1.w.heap[w.heap.size]? = some (.cells #[.slice (some ⟨b, o, none⟩) l1 y1, .slice a2 l2 y2, .slice (some ⟨b3, o3, none⟩) l3 y3, .slice a4 l4 y4, .slice a5 l5 y5, .int .i64 c.now] 37 (0, 0))) := Bk.out
              have Gv : Hid (q1.w.heap[gb]? = some (.cells #[.string n.n, .string n.z, .int .i64 n.c, .int .i64 n.s, .int .i64 n.u, .bool false, .slice (some ⟨b2, o2, none⟩) vl vc] 102 (0, 0))) := Bv.out
              have HW : Hid (Below w.heap.size w q1.w) := HB.out
              have k2 : ∀ q : Wd q1.w, q.w.cell? ⟨w.heap.size, 2, none⟩ = some (.slice (some ⟨b3, o3, none⟩) l3 y3) := fun q => q.slot Gk.out rfl
              have v0 : ∀ q : Wd q1.w, q.w.cell? ⟨gb, 0, none⟩ = some (.string n.n) := fun q => q.slot Gv.out rfl
              have v1 : ∀ q : Wd q1.w, q.w.cell? ⟨gb, 1, none⟩ = some (.string n.z) := fun q => q.slot Gv.out rfl
              have v2 : ∀ q : Wd q1.w, q.w.cell? ⟨gb, 2, none⟩ = some (.int .i64 n.c) := fun q => q.slot Gv.out rfl
              have v3 : ∀ q : Wd q1.w, q.w.cell? ⟨gb, 3, none⟩ = some (.int .i64 n.s) := fun q => q.slot Gv.out rfl
              have v4 : ∀ q : Wd q1.w, q.w.cell? ⟨gb, 4, none⟩ = some (.int .i64 n.u) := fun q => q.slot Gv.out rfl
              have v5 : ∀ q : Wd q1.w, q.w.cell? ⟨gb, 5, none⟩ = some (.bool false) := fun q => q.slot Gv.out rfl
              have v6 : ∀ q : Wd q1.w, q.w.cell? ⟨gb, 6, none⟩ = some (.slice (some ⟨b2, o2, none⟩) vl vc) := fun q => q.slot Gv.out rfl
              have vw : ∀ q : Wd q1.w, q.w.cell? ⟨b3, o3 + j3 * 8 + 7, none⟩ = some (.slice xa xl xc) := fun q => (q.cell (hbv)).trans (v7)
              have hne0 := Wd.ne q1.w
              have HC0 := hidK (fun q : Wd q1.w => (shas_any xa xl xc v.zs n.n q.w (HTx.out.below (HW.out.trans (q.b.mono HW.out.size)))).mono (fun _ _ h => BoolB.yes h HIn.out))
              go_wp2_with fail
              refine wp_region_wide (by kernel_rfl) (by kernel_rfl) ?_
              repeat (go_big_quiet_step (first | (go_at_call 130; exact Calls.wide (HC0.out _)) | fail))
              refine wpQuiet_nil ?_
              rintro _ ⟨q2, rfl⟩
              have HB2 := hidK (HW.out.trans (q2.b.mono HW.out.size))
              have Ck := hidK ((q2.b.block _ (lt_of_some Gk.out)).trans Gk.out)
              have Cv := hidK ((q2.b.block _ (lt_of_some Gv.out)).trans Gv.out)
              clear hne0 HW HB HC0 k2 v0 v1 v2 v3 v4 v5 v6 vw Gk Gv Bk Bv hbv v7
              have HB := HB2
              clear HB2
              have Bk := Ck
              clear Ck
              have Bv := Cv
              clear Cv
              go_wp2_with fail
              refine ⟨⟨kq + 1, by omega, by go_num, fun j s hj hs => ?_, HBW1.out.trans (q2.b.mono HBW1.out.size)⟩, by simp [intOf]; omega⟩
              by_cases e : j = kq
              · subst e
                rw [HXt.out] at hs
                obtain rfl := Option.some.inj hs
                exact ⟨j3, v, HJ.out, HNv.out, .inr HIn.out⟩
              · exact HQ2.out j s (by omega) hs
            · have HIn := hidK hin
              clear hin
              have Gk : Hid (q1.w.heap[w.heap.size]? = some (.cells #[.slice (some ⟨b, o, none⟩) l1 y1, .slice a2 l2 y2, .slice (some ⟨b3, o3, none⟩) l3 y3, .slice a4 l4 y4, .slice a5 l5 y5, .int .i64 c.now] 37 (0, 0))) := Bk.out
              have Gv : Hid (q1.w.heap[gb]? = some (.cells #[.string n.n, .string n.z, .int .i64 n.c, .int .i64 n.s, .int .i64 n.u, .bool false, .slice (some ⟨b2, o2, none⟩) vl vc] 102 (0, 0))) := Bv.out
              have HW : Hid (Below w.heap.size w q1.w) := HB.out
              have k2 : ∀ q : Wd q1.w, q.w.cell? ⟨w.heap.size, 2, none⟩ = some (.slice (some ⟨b3, o3, none⟩) l3 y3) := fun q => q.slot Gk.out rfl
              have v0 : ∀ q : Wd q1.w, q.w.cell? ⟨gb, 0, none⟩ = some (.string n.n) := fun q => q.slot Gv.out rfl
              have v1 : ∀ q : Wd q1.w, q.w.cell? ⟨gb, 1, none⟩ = some (.string n.z) := fun q => q.slot Gv.out rfl
              have v2 : ∀ q : Wd q1.w, q.w.cell? ⟨gb, 2, none⟩ = some (.int .i64 n.c) := fun q => q.slot Gv.out rfl
              have v3 : ∀ q : Wd q1.w, q.w.cell? ⟨gb, 3, none⟩ = some (.int .i64 n.s) := fun q => q.slot Gv.out rfl
              have v4 : ∀ q : Wd q1.w, q.w.cell? ⟨gb, 4, none⟩ = some (.int .i64 n.u) := fun q => q.slot Gv.out rfl
              have v5 : ∀ q : Wd q1.w, q.w.cell? ⟨gb, 5, none⟩ = some (.bool false) := fun q => q.slot Gv.out rfl
              have v6 : ∀ q : Wd q1.w, q.w.cell? ⟨gb, 6, none⟩ = some (.slice (some ⟨b2, o2, none⟩) vl vc) := fun q => q.slot Gv.out rfl
              have vw : ∀ q : Wd q1.w, q.w.cell? ⟨b3, o3 + j3 * 8 + 7, none⟩ = some (.slice xa xl xc) := fun q => (q.cell (hbv)).trans (v7)
              have hne0 := Wd.ne q1.w
              have HC0 := hidK (fun q : Wd q1.w => (shas_any xa xl xc v.zs n.n q.w (HTx.out.below (HW.out.trans (q.b.mono HW.out.size)))).mono (fun _ _ h => BoolB.no h HIn.out))
              go_wp2_with fail
              refine wp_region_wide (by kernel_rfl) (by kernel_rfl) ?_
              repeat (go_big_quiet_step (first | (go_at_call 130; exact Calls.wide (HC0.out _)) | fail))
              refine wpQuiet_nil ?_
              rintro _ ⟨q2, rfl⟩
              have HB2 := hidK (HW.out.trans (q2.b.mono HW.out.size))
              have Ck := hidK ((q2.b.block _ (lt_of_some Gk.out)).trans Gk.out)
              have Cv := hidK ((q2.b.block _ (lt_of_some Gv.out)).trans Gv.out)
              clear hne0 HW HB HC0 k2 v0 v1 v2 v3 v4 v5 v6 vw Gk Gv Bk Bv hbv v7
              have HB := HB2
              clear HB2
              have Bk := Ck
              clear Ck
              have Bv := Cv
              clear Cv
              go_wp2
              go_ret
              refine BoolB.f (fun h => ?_) HB.out
              obtain ⟨i, v2, e1, e2, e3⟩ := (h.1 k n HXn.out) kq t HXt.out
              obtain ⟨_, rfl⟩ := HV.out.inj e1 HJ.out (e2.trans HNv.out.symm)
              rcases e3 with e3 | e3
              · rw [HDd.out] at e3; cases e3
              · exact HIn.out e3
        · obtain rfl : vl = kq := by omega
          go_wp2_with fail
          refine ⟨⟨k + 1, by omega, by go_num, fun j z hj hz => ?_, HB.out, Bk.out⟩, by simp [intOf]; omega⟩
          by_cases e : j = k
          · subst e
            rw [HXn.out] at hz
            obtain rfl := Option.some.inj hz
            exact fun j s hs => HQ2.out j s (by have h1 := (List.getElem?_eq_some_iff.1 hs).1; have h2 := HVL.out; omega) hs
          · exact HQ.out j z (by omega) hz
    · obtain rfl : l1 = k := by omega
      have HQ1 : Hid (∀ (j : Nat) z, c.ns[j]? = some z → MntI c z) := fun j z hz => HQ.out j z (by have := (List.getElem?_eq_some_iff.1 hz).1; omega) hz
      clear HQ
      have kc : wr.cell? ⟨w.heap.size, 4, none⟩ = some (.slice a5 l5 y5) := cellK Bk.out 4
      go_wp2
      clear pk pkl kc
      go_loopw [7] (fun i wr => ∃ k : Nat, k ≤ l5 ∧ i = .int .i64 k ∧ Hid (∀ (j : Nat) z, j < k → c.ps[j]? = some z → MQ2 c z) ∧ Hid (Below w.heap.size w wr) ∧ Hid (wr.heap[w.heap.size]? = some (.cells #[.slice a1 l1 y1, .slice a2 l2 y2, .slice a3 l3 y3, .slice a4 l4 y4, .slice a5 l5 y5, .int .i64 c.now] 37 (0, 0)))) (fun i _ => l5 - (intOf i).toNat)
      case atStart => exact ⟨0, by omega, rfl, fun _ _ h => absurd h (by omega), HB.out, Bk.out⟩
      case round =>
        obtain ⟨k, hk, rfl, HQ, HB, Bk⟩ := hrel
        have pk : wr.cell? ⟨w.heap.size, 4, none⟩ = some (.slice a5 l5 y5) := cellK Bk.out 4
        have pkl : w.heap.size < wr.heap.size := lt_of_some Bk.out
        by_cases hlt : k < l5
        · obtain ⟨b, o, p, rfl, hb, hx, hat⟩ := pd_at (HR.out.p.below HB.out) hlt
          obtain ⟨va, vl, vc, hvr, z0, z2, z4, c0, c1, c2, c3, c4, c5⟩ := pd_cells hat
          have HXp := hidK hx
          have HTp := hidK hvr
          have HZp0 := hidK z0
          have HZp2 := hidK z2
          have HZp4 := hidK z4
          clear hat hx z0 z2 z4 hvr
          by_cases hp2 : p.p = 2
          rotate_left
          · have HP2 := hidK hp2
            have hp3 : (p.p == 2) = false := by simpa using hp2
            have hszv1 : (wr.alloc (.cells #[.string p.n, .int .i64 p.c, .string p.z, .slice va vl vc, .string p.d, .int .i64 p.p] 76)).heap.size = wr.heap.size + 1 := by simp
            have Gk : Hid ((wr.alloc (.cells #[.string p.n, .int .i64 p.c, .string p.z, .slice va vl vc, .string p.d, .int .i64 p.p] 76)).heap[w.heap.size]? = some (.cells #[.slice a1 l1 y1, .slice a2 l2 y2, .slice a3 l3 y3, .slice a4 l4 y4, .slice (some ⟨b, o, none⟩) l5 y5, .int .i64 c.now] 37 (0, 0))) := (Below.heap_alloc _ _ _ (lt_of_some Bk.out)).trans (Bk.out)
            have Gr : Hid ((wr.alloc (.cells #[.string p.n, .int .i64 p.c, .string p.z, .slice va vl vc, .string p.d, .int .i64 p.p] 76)).heap[wr.heap.size]? = some (.cells #[.string p.n, .int .i64 p.c, .string p.z, .slice va vl vc, .string p.d, .int .i64 p.p] 76 (0, 0))) := Array.getElem?_push_size
            have HW : Hid (Below w.heap.size w (wr.alloc (.cells #[.string p.n, .int .i64 p.c, .string p.z, .slice va vl vc, .string p.d, .int .i64 p.p] 76))) := (HB.out.trans ((below1 _ _).mono HB.out.size))
            have k0 : ∀ q : Wd (wr.alloc (.cells #[.string p.n, .int .i64 p.c, .string p.z, .slice va vl vc, .string p.d, .int .i64 p.p] 76)), q.w.cell? ⟨w.heap.size, 0, none⟩ = some (.slice a1 l1 y1) := fun q => q.slot Gk.out rfl
            have k1 : ∀ q : Wd (wr.alloc (.cells #[.string p.n, .int .i64 p.c, .string p.z, .slice va vl vc, .string p.d, .int .i64 p.p] 76)), q.w.cell? ⟨w.heap.size, 1, none⟩ = some (.slice a2 l2 y2) := fun q => q.slot Gk.out rfl
            have k2 : ∀ q : Wd (wr.alloc (.cells #[.string p.n, .int .i64 p.c, .string p.z, .slice va vl vc, .string p.d, .int .i64 p.p] 76)), q.w.cell? ⟨w.heap.size, 2, none⟩ = some (.slice a3 l3 y3) := fun q => q.slot Gk.out rfl
            have k3 : ∀ q : Wd (wr.alloc (.cells #[.string p.n, .int .i64 p.c, .string p.z, .slice va vl vc, .string p.d, .int .i64 p.p] 76)), q.w.cell? ⟨w.heap.size, 3, none⟩ = some (.slice a4 l4 y4) := fun q => q.slot Gk.out rfl
            have k4 : ∀ q : Wd (wr.alloc (.cells #[.string p.n, .int .i64 p.c, .string p.z, .slice va vl vc, .string p.d, .int .i64 p.p] 76)), q.w.cell? ⟨w.heap.size, 4, none⟩ = some (.slice (some ⟨b, o, none⟩) l5 y5) := fun q => q.slot Gk.out rfl
            have k5 : ∀ q : Wd (wr.alloc (.cells #[.string p.n, .int .i64 p.c, .string p.z, .slice va vl vc, .string p.d, .int .i64 p.p] 76)), q.w.cell? ⟨w.heap.size, 5, none⟩ = some (.int .i64 c.now) := fun q => q.slot Gk.out rfl
            have r0 : ∀ q : Wd (wr.alloc (.cells #[.string p.n, .int .i64 p.c, .string p.z, .slice va vl vc, .string p.d, .int .i64 p.p] 76)), q.w.cell? ⟨wr.heap.size, 0, none⟩ = some (.string p.n) := fun q => q.slot Gr.out rfl
            have r1 : ∀ q : Wd (wr.alloc (.cells #[.string p.n, .int .i64 p.c, .string p.z, .slice va vl vc, .string p.d, .int .i64 p.p] 76)), q.w.cell? ⟨wr.heap.size, 1, none⟩ = some (.int .i64 p.c) := fun q => q.slot Gr.out rfl
            have r2 : ∀ q : Wd (wr.alloc (.cells #[.string p.n, .int .i64 p.c, .string p.z, .slice va vl vc, .string p.d, .int .i64 p.p] 76)), q.w.cell? ⟨wr.heap.size, 2, none⟩ = some (.string p.z) := fun q => q.slot Gr.out rfl
            have r3 : ∀ q : Wd (wr.alloc (.cells #[.string p.n, .int .i64 p.c, .string p.z, .slice va vl vc, .string p.d, .int .i64 p.p] 76)), q.w.cell? ⟨wr.heap.size, 3, none⟩ = some (.slice va vl vc) := fun q => q.slot Gr.out rfl
            have r4 : ∀ q : Wd (wr.alloc (.cells #[.string p.n, .int .i64 p.c, .string p.z, .slice va vl vc, .string p.d, .int .i64 p.p] 76)), q.w.cell? ⟨wr.heap.size, 4, none⟩ = some (.string p.d) := fun q => q.slot Gr.out rfl
            have r5 : ∀ q : Wd (wr.alloc (.cells #[.string p.n, .int .i64 p.c, .string p.z, .slice va vl vc, .string p.d, .int .i64 p.p] 76)), q.w.cell? ⟨wr.heap.size, 5, none⟩ = some (.int .i64 p.p) := fun q => q.slot Gr.out rfl
            have hne0 := Wd.ne (wr.alloc (.cells #[.string p.n, .int .i64 p.c, .string p.z, .slice va vl vc, .string p.d, .int .i64 p.p] 76))
            go_wp2_with fail
            refine wp_region_wide (by kernel_rfl) (by kernel_rfl) ?_
            repeat (go_big_quiet_step (first | fail))
            refine wpQuiet_nil ?_
            rintro _ ⟨q1, rfl⟩
            have HB1 := hidK (HW.out.trans (q1.b.mono HW.out.size))
            have Ck := hidK ((q1.b.block _ (lt_of_some Gk.out)).trans Gk.out)
            have Cr := hidK ((q1.b.block _ (lt_of_some Gr.out)).trans Gr.out)
            clear hne0 HW HB k0 k1 k2 k3 k4 k5 r0 r1 r2 r3 r4 r5 Gk Gr Bk hszv1 pk pkl hb c0 c1 c2 c3 c4 c5
            have HB := HB1
            clear HB1
            have Bk := Ck
            clear Ck
            have Br := Cr
            clear Cr
            clear hp2 hp3
            go_wp2_with fail
            refine ⟨⟨k + 1, by omega, by go_num, fun j z hj hz => ?_, HB.out, Bk.out⟩, by simp [intOf]; omega⟩
            by_cases e : j = k
            · subst e
              rw [HXp.out] at hz
              obtain rfl := Option.some.inj hz
              exact fun h => absurd h HP2.out
            · exact HQ.out j z (by omega) hz
          have HP2 := hidK hp2
          obtain ⟨⟨j1, n, h1, h2⟩, hbd⟩ := HRun.out k p HXp.out hp2
          rw [hp2] at c5
          clear hp2
          have HBD := hidK hbd
          have hl1' : j1 < l1 := by have h3 := (List.getElem?_eq_some_iff.1 h1).1; omega
          obtain ⟨b1, o1, n', rfl, hb1n, hn', hat⟩ := nd_at HR.out.n hl1'
          rw [h1] at hn'
          obtain rfl := Option.some.inj hn'
          obtain ⟨na, nl, nc, hnr, z0, z1, d0, d1, d2, d3, d4, d5, d6⟩ := nd_cells hat
          have HJn := hidK h1
          have HNn := hidK h2
          have e5 := (cell_below HB.out hb1n).trans d5
          have hbn : b1 < wr.heap.size := Nat.lt_of_lt_of_le hb1n HB.out.size
          clear hn' hat hnr z0 z1 d0 d1 d2 d3 d4 d5 d6 h1 h2 hb1n hbd
          rcases Bool.eq_false_or_eq_true n.d with hd | hd
          · have HDd := hidK hd
            rw [hd] at e5
            clear hd
            have hbnv : b1 < (wr.alloc (.cells #[.string p.n, .int .i64 p.c, .string p.z, .slice va vl vc, .string p.d, .int .i64 2] 76)).heap.size := by simp; omega
            have e5v := (cell_below (below1 wr (.cells #[.string p.n, .int .i64 p.c, .string p.z, .slice va vl vc, .string p.d, .int .i64 2] 76)) hbn).trans e5
            have hszv1 : (wr.alloc (.cells #[.string p.n, .int .i64 p.c, .string p.z, .slice va vl vc, .string p.d, .int .i64 2] 76)).heap.size = wr.heap.size + 1 := by simp
            have Gk : Hid ((wr.alloc (.cells #[.string p.n, .int .i64 p.c, .string p.z, .slice va vl vc, .string p.d, .int .i64 2] 76)).heap[w.heap.size]? = some (.cells #[.slice (some ⟨b1, o1, none⟩) l1 y1, .slice a2 l2 y2, .slice a3 l3 y3, .slice a4 l4 y4, .slice (some ⟨b, o, none⟩) l5 y5, .int .i64 c.now] 37 (0, 0))) := (Below.heap_alloc _ _ _ (lt_of_some Bk.out)).trans (Bk.out)
            have Gr : Hid ((wr.alloc (.cells #[.string p.n, .int .i64 p.c, .string p.z, .slice va vl vc, .string p.d, .int .i64 2] 76)).heap[wr.heap.size]? = some (.cells #[.string p.n, .int .i64 p.c, .string p.z, .slice va vl vc, .string p.d, .int .i64 2] 76 (0, 0))) := Array.getElem?_push_size
            have HW : Hid (Below w.heap.size w (wr.alloc (.cells #[.string p.n, .int .i64 p.c, .string p.z, .slice va vl vc, .string p.d, .int .i64 2] 76))) := (HB.out.trans ((below1 _ _).mono HB.out.size))
            have k0 : ∀ q : Wd (wr.alloc (.cells #[.string p.n, .int .i64 p.c, .string p.z, .slice va vl vc, .string p.d, .int .i64 2] 76)), q.w.cell? ⟨w.heap.size, 0, none⟩ = some (.slice (some ⟨b1, o1, none⟩) l1 y1) := fun q => q.slot Gk.out rfl
            have k1 : ∀ q : Wd (wr.alloc (.cells #[.string p.n, .int .i64 p.c, .string p.z, .slice va vl vc, .string p.d, .int .i64 2] 76)), q.w.cell? ⟨w.heap.size, 1, none⟩ = some (.slice a2 l2 y2) := fun q => q.slot Gk.out rfl
            have k2 : ∀ q : Wd (wr.alloc (.cells #[.string p.n, .int .i64 p.c, .string p.z, .slice va vl vc, .string p.d, .int .i64 2] 76)), q.w.cell? ⟨w.heap.size, 2, none⟩ = some (.slice a3 l3 y3) := fun q => q.slot Gk.out rfl
            have k3 : ∀ q : Wd (wr.alloc (.cells #[.string p.n, .int .i64 p.c, .string p.z, .slice va vl vc, .string p.d, .int .i64 2] 76)), q.w.cell? ⟨w.heap.size, 3, none⟩ = some (.slice a4 l4 y4) := fun q => q.slot Gk.out rfl
            have k4 : ∀ q : Wd (wr.alloc (.cells #[.string p.n, .int .i64 p.c, .string p.z, .slice va vl vc, .string p.d, .int .i64 2] 76)), q.w.cell? ⟨w.heap.size, 4, none⟩ = some (.slice (some ⟨b, o, none⟩) l5 y5) := fun q => q.slot Gk.out rfl
            have k5 : ∀ q : Wd (wr.alloc (.cells #[.string p.n, .int .i64 p.c, .string p.z, .slice va vl vc, .string p.d, .int .i64 2] 76)), q.w.cell? ⟨w.heap.size, 5, none⟩ = some (.int .i64 c.now) := fun q => q.slot Gk.out rfl
            have r0 : ∀ q : Wd (wr.alloc (.cells #[.string p.n, .int .i64 p.c, .string p.z, .slice va vl vc, .string p.d, .int .i64 2] 76)), q.w.cell? ⟨wr.heap.size, 0, none⟩ = some (.string p.n) := fun q => q.slot Gr.out rfl
            have r1 : ∀ q : Wd (wr.alloc (.cells #[.string p.n, .int .i64 p.c, .string p.z, .slice va vl vc, .string p.d, .int .i64 2] 76)), q.w.cell? ⟨wr.heap.size, 1, none⟩ = some (.int .i64 p.c) := fun q => q.slot Gr.out rfl
            have r2 : ∀ q : Wd (wr.alloc (.cells #[.string p.n, .int .i64 p.c, .string p.z, .slice va vl vc, .string p.d, .int .i64 2] 76)), q.w.cell? ⟨wr.heap.size, 2, none⟩ = some (.string p.z) := fun q => q.slot Gr.out rfl
            have r3 : ∀ q : Wd (wr.alloc (.cells #[.string p.n, .int .i64 p.c, .string p.z, .slice va vl vc, .string p.d, .int .i64 2] 76)), q.w.cell? ⟨wr.heap.size, 3, none⟩ = some (.slice va vl vc) := fun q => q.slot Gr.out rfl
            have r4 : ∀ q : Wd (wr.alloc (.cells #[.string p.n, .int .i64 p.c, .string p.z, .slice va vl vc, .string p.d, .int .i64 2] 76)), q.w.cell? ⟨wr.heap.size, 4, none⟩ = some (.string p.d) := fun q => q.slot Gr.out rfl
            have r5 : ∀ q : Wd (wr.alloc (.cells #[.string p.n, .int .i64 p.c, .string p.z, .slice va vl vc, .string p.d, .int .i64 2] 76)), q.w.cell? ⟨wr.heap.size, 5, none⟩ = some (.int .i64 2) := fun q => q.slot Gr.out rfl
            have nw : ∀ q : Wd (wr.alloc (.cells #[.string p.n, .int .i64 p.c, .string p.z, .slice va vl vc, .string p.d, .int .i64 2] 76)), q.w.cell? ⟨b1, o1 + j1 * 7 + 5, none⟩ = some (.bool true) := fun q => (q.cell (hbnv)).trans (e5v)
            have hne0 := Wd.ne (wr.alloc (.cells #[.string p.n, .int .i64 p.c, .string p.z, .slice va vl vc, .string p.d, .int .i64 2] 76))
            have HC0 := hidK (fun q : Wd (wr.alloc (.cells #[.string p.n, .int .i64 p.c, .string p.z, .slice va vl vc, .string p.d, .int .i64 2] 76)) => sxnd_hit ⟨(some ⟨b1, o1, none⟩), l1, y1, a2, l2, y2, a3, l3, y3, a4, l4, y4, (some ⟨b, o, none⟩), l5, y5⟩ c.now c.ns p.d q.w (HR.out.n.below (HW.out.trans (q.b.mono HW.out.size))) HNR.out HJn.out HNn.out)
            go_wp2_with fail
            refine wp_region_wide (by kernel_rfl) (by kernel_rfl) ?_
            repeat (go_big_quiet_step (first | (go_at_call 79; exact Calls.wide (HC0.out _)) | fail))
            refine wpQuiet_nil ?_
            rintro _ ⟨q1, rfl⟩
            have HB1 := hidK (HW.out.trans (q1.b.mono HW.out.size))
            have Ck := hidK ((q1.b.block _ (lt_of_some Gk.out)).trans Gk.out)
            have Cr := hidK ((q1.b.block _ (lt_of_some Gr.out)).trans Gr.out)
            clear hne0 HW HB HC0 k0 k1 k2 k3 k4 k5 r0 r1 r2 r3 r4 r5 nw Gk Gr Bk hszv1 pk pkl hb hbn e5 hbnv e5v c0 c1 c2 c3 c4 c5
            have HB := HB1
            clear HB1
            have Bk := Ck
            clear Ck
            have Br := Cr
            clear Cr
            go_wp2
            go_ret
            refine BoolB.f (fun h => ?_) HB.out
            obtain ⟨i, m, e1, e2, e3, _⟩ := (h.2 k p HXp.out) HP2.out
            obtain ⟨_, rfl⟩ := HNR.out.inj e1 HJn.out (e2.trans HNn.out.symm)
            rw [HDd.out] at e3
            cases e3
          · by_cases hal : AllS c p n
            · have HAl := hidK hal
              clear hal
              have HDd := hidK hd
              rw [hd] at e5
              clear hd
              have hbnv : b1 < (wr.alloc (.cells #[.string p.n, .int .i64 p.c, .string p.z, .slice va vl vc, .string p.d, .int .i64 2] 76)).heap.size := by simp; omega
              have e5v := (cell_below (below1 wr (.cells #[.string p.n, .int .i64 p.c, .string p.z, .slice va vl vc, .string p.d, .int .i64 2] 76)) hbn).trans e5
              have HCA : Hid (∀ q : Wd (wr.alloc (.cells #[.string p.n, .int .i64 p.c, .string p.z, .slice va vl vc, .string p.d, .int .i64 2] 76)), Calls Tryz.prog 143 #[.agg #[.slice (some ⟨b1, o1, none⟩) l1 y1, .slice a2 l2 y2, .slice a3 l3 y3, .slice a4 l4 y4, .slice (some ⟨b, o, none⟩) l5 y5, .int .i64 c.now], .agg #[.string p.n, .int .i64 p.c, .string p.z, .slice va vl vc, .string p.d, .int .i64 2]] q.w fun e w' => e = .returned (.bool true) ∧ Below q.w.heap.size q.w w') := by
                intro q
                have h0 := (sall_any ⟨(some ⟨b1, o1, none⟩), l1, y1, a2, l2, y2, a3, l3, y3, a4, l4, y4, (some ⟨b, o, none⟩), l5, y5⟩ c p va vl vc j1 n q.w (HR.out.below (HB.out.trans (((below1 wr _).trans (q.b.mono (by simp))).mono HB.out.size))) HNR.out HX.out HV.out HNE.out (HTp.out.below ((below1 wr _).trans (q.b.mono (by simp)))) HJn.out HNn.out HBD.out).mono (fun _ _ h => BoolB.yes h HAl.out)
                rw [HP2.out] at h0
                exact h0
              have hszv1 : (wr.alloc (.cells #[.string p.n, .int .i64 p.c, .string p.z, .slice va vl vc, .string p.d, .int .i64 2] 76)).heap.size = wr.heap.size + 1 := by simp
              have Gk : Hid ((wr.alloc (.cells #[.string p.n, .int .i64 p.c, .string p.z, .slice va vl vc, .string p.d, .int .i64 2] 76)).heap[w.heap.size]? = some (.cells #[.slice (some ⟨b1, o1, none⟩) l1 y1, .slice a2 l2 y2, .slice a3 l3 y3, .slice a4 l4 y4, .slice (some ⟨b, o, none⟩) l5 y5, .int .i64 c.now] 37 (0, 0))) := (Below.heap_alloc _ _ _ (lt_of_some Bk.out)).trans (Bk.out)
              have Gr : Hid ((wr.alloc (.cells #[.string p.n, .int .i64 p.c, .string p.z, .slice va vl vc, .string p.d, .int .i64 2] 76)).heap[wr.heap.size]? = some (.cells #[.string p.n, .int .i64 p.c, .string p.z, .slice va vl vc, .string p.d, .int .i64 2] 76 (0, 0))) := Array.getElem?_push_size
              have HW : Hid (Below w.heap.size w (wr.alloc (.cells #[.string p.n, .int .i64 p.c, .string p.z, .slice va vl vc, .string p.d, .int .i64 2] 76))) := (HB.out.trans ((below1 _ _).mono HB.out.size))
              have k0 : ∀ q : Wd (wr.alloc (.cells #[.string p.n, .int .i64 p.c, .string p.z, .slice va vl vc, .string p.d, .int .i64 2] 76)), q.w.cell? ⟨w.heap.size, 0, none⟩ = some (.slice (some ⟨b1, o1, none⟩) l1 y1) := fun q => q.slot Gk.out rfl
              have k1 : ∀ q : Wd (wr.alloc (.cells #[.string p.n, .int .i64 p.c, .string p.z, .slice va vl vc, .string p.d, .int .i64 2] 76)), q.w.cell? ⟨w.heap.size, 1, none⟩ = some (.slice a2 l2 y2) := fun q => q.slot Gk.out rfl
              have k2 : ∀ q : Wd (wr.alloc (.cells #[.string p.n, .int .i64 p.c, .string p.z, .slice va vl vc, .string p.d, .int .i64 2] 76)), q.w.cell? ⟨w.heap.size, 2, none⟩ = some (.slice a3 l3 y3) := fun q => q.slot Gk.out rfl
              have k3 : ∀ q : Wd (wr.alloc (.cells #[.string p.n, .int .i64 p.c, .string p.z, .slice va vl vc, .string p.d, .int .i64 2] 76)), q.w.cell? ⟨w.heap.size, 3, none⟩ = some (.slice a4 l4 y4) := fun q => q.slot Gk.out rfl
              have k4 : ∀ q : Wd (wr.alloc (.cells #[.string p.n, .int .i64 p.c, .string p.z, .slice va vl vc, .string p.d, .int .i64 2] 76)), q.w.cell? ⟨w.heap.size, 4, none⟩ = some (.slice (some ⟨b, o, none⟩) l5 y5) := fun q => q.slot Gk.out rfl
              have k5 : ∀ q : Wd (wr.alloc (.cells #[.string p.n, .int .i64 p.c, .string p.z, .slice va vl vc, .string p.d, .int .i64 2] 76)), q.w.cell? ⟨w.heap.size, 5, none⟩ = some (.int .i64 c.now) := fun q => q.slot Gk.out rfl
              have r0 : ∀ q : Wd (wr.alloc (.cells #[.string p.n, .int .i64 p.c, .string p.z, .slice va vl vc, .string p.d, .int .i64 2] 76)), q.w.cell? ⟨wr.heap.size, 0, none⟩ = some (.string p.n) := fun q => q.slot Gr.out rfl
              have r1 : ∀ q : Wd (wr.alloc (.cells #[.string p.n, .int .i64 p.c, .string p.z, .slice va vl vc, .string p.d, .int .i64 2] 76)), q.w.cell? ⟨wr.heap.size, 1, none⟩ = some (.int .i64 p.c) := fun q => q.slot Gr.out rfl
              have r2 : ∀ q : Wd (wr.alloc (.cells #[.string p.n, .int .i64 p.c, .string p.z, .slice va vl vc, .string p.d, .int .i64 2] 76)), q.w.cell? ⟨wr.heap.size, 2, none⟩ = some (.string p.z) := fun q => q.slot Gr.out rfl
              have r3 : ∀ q : Wd (wr.alloc (.cells #[.string p.n, .int .i64 p.c, .string p.z, .slice va vl vc, .string p.d, .int .i64 2] 76)), q.w.cell? ⟨wr.heap.size, 3, none⟩ = some (.slice va vl vc) := fun q => q.slot Gr.out rfl
              have r4 : ∀ q : Wd (wr.alloc (.cells #[.string p.n, .int .i64 p.c, .string p.z, .slice va vl vc, .string p.d, .int .i64 2] 76)), q.w.cell? ⟨wr.heap.size, 4, none⟩ = some (.string p.d) := fun q => q.slot Gr.out rfl
              have r5 : ∀ q : Wd (wr.alloc (.cells #[.string p.n, .int .i64 p.c, .string p.z, .slice va vl vc, .string p.d, .int .i64 2] 76)), q.w.cell? ⟨wr.heap.size, 5, none⟩ = some (.int .i64 2) := fun q => q.slot Gr.out rfl
              have nw : ∀ q : Wd (wr.alloc (.cells #[.string p.n, .int .i64 p.c, .string p.z, .slice va vl vc, .string p.d, .int .i64 2] 76)), q.w.cell? ⟨b1, o1 + j1 * 7 + 5, none⟩ = some (.bool false) := fun q => (q.cell (hbnv)).trans (e5v)
              have hne0 := Wd.ne (wr.alloc (.cells #[.string p.n, .int .i64 p.c, .string p.z, .slice va vl vc, .string p.d, .int .i64 2] 76))
              have HC0 := hidK (fun q : Wd (wr.alloc (.cells #[.string p.n, .int .i64 p.c, .string p.z, .slice va vl vc, .string p.d, .int .i64 2] 76)) => sxnd_hit ⟨(some ⟨b1, o1, none⟩), l1, y1, a2, l2, y2, a3, l3, y3, a4, l4, y4, (some ⟨b, o, none⟩), l5, y5⟩ c.now c.ns p.d q.w (HR.out.n.below (HW.out.trans (q.b.mono HW.out.size))) HNR.out HJn.out HNn.out)
              have HC1 := hidK (fun q : Wd (wr.alloc (.cells #[.string p.n, .int .i64 p.c, .string p.z, .slice va vl vc, .string p.d, .int .i64 2] 76)) => HCA.out q)
              go_wp2_with fail
              refine wp_region_wide (by kernel_rfl) (by kernel_rfl) ?_
              repeat (go_big_quiet_step (first | (go_at_call 79; exact Calls.wide (HC0.out _)) | (go_at_call 143; exact Calls.wide (HC1.out _)) | fail))
              refine wpQuiet_nil ?_
              rintro _ ⟨q1, rfl⟩
              have HB1 := hidK (HW.out.trans (q1.b.mono HW.out.size))
              have Ck := hidK ((q1.b.block _ (lt_of_some Gk.out)).trans Gk.out)
              have Cr := hidK ((q1.b.block _ (lt_of_some Gr.out)).trans Gr.out)
              clear hne0 HW HB HC0 HC1 k0 k1 k2 k3 k4 k5 r0 r1 r2 r3 r4 r5 nw Gk Gr Bk hszv1 pk pkl hb hbn e5 hbnv e5v c0 c1 c2 c3 c4 c5
              have HB := HB1
              clear HB1
              have Bk := Ck
              clear Ck
              have Br := Cr
              clear Cr
              go_wp2_with fail
              refine ⟨⟨k + 1, by omega, by go_num, fun j z hj hz => ?_, HB.out, Bk.out⟩, by simp [intOf]; omega⟩
              by_cases e : j = k
              · subst e
                rw [HXp.out] at hz
                obtain rfl := Option.some.inj hz
                exact fun _ => ⟨j1, n, HJn.out, HNn.out, HDd.out, HAl.out⟩
              · exact HQ.out j z (by omega) hz
            · have HAl := hidK hal
              clear hal
              have HDd := hidK hd
              rw [hd] at e5
              clear hd
              have hbnv : b1 < (wr.alloc (.cells #[.string p.n, .int .i64 p.c, .string p.z, .slice va vl vc, .string p.d, .int .i64 2] 76)).heap.size := by simp; omega
              have e5v := (cell_below (below1 wr (.cells #[.string p.n, .int .i64 p.c, .string p.z, .slice va vl vc, .string p.d, .int .i64 2] 76)) hbn).trans e5
              have HCA : Hid (∀ q : Wd (wr.alloc (.cells #[.string p.n, .int .i64 p.c, .string p.z, .slice va vl vc, .string p.d, .int .i64 2] 76)), Calls Tryz.prog 143 #[.agg #[.slice (some ⟨b1, o1, none⟩) l1 y1, .slice a2 l2 y2, .slice a3 l3 y3, .slice a4 l4 y4, .slice (some ⟨b, o, none⟩) l5 y5, .int .i64 c.now], .agg #[.string p.n, .int .i64 p.c, .string p.z, .slice va vl vc, .string p.d, .int .i64 2]] q.w fun e w' => e = .returned (.bool false) ∧ Below q.w.heap.size q.w w') := by
                intro q
                have h0 := (sall_any ⟨(some ⟨b1, o1, none⟩), l1, y1, a2, l2, y2, a3, l3, y3, a4, l4, y4, (some ⟨b, o, none⟩), l5, y5⟩ c p va vl vc j1 n q.w (HR.out.below (HB.out.trans (((below1 wr _).trans (q.b.mono (by simp))).mono HB.out.size))) HNR.out HX.out HV.out HNE.out (HTp.out.below ((below1 wr _).trans (q.b.mono (by simp)))) HJn.out HNn.out HBD.out).mono (fun _ _ h => BoolB.no h HAl.out)
                rw [HP2.out] at h0
                exact h0
              have hszv1 : (wr.alloc (.cells #[.string p.n, .int .i64 p.c, .string p.z, .slice va vl vc, .string p.d, .int .i64 2] 76)).heap.size = wr.heap.size + 1 := by simp
              have Gk : Hid ((wr.alloc (.cells #[.string p.n, .int .i64 p.c, .string p.z, .slice va vl vc, .string p.d, .int .i64 2] 76)).heap[w.heap.size]? = some (.cells #[.slice (some ⟨b1, o1, none⟩) l1 y1, .slice a2 l2 y2, .slice a3 l3 y3, .slice a4 l4 y4, .slice (some ⟨b, o, none⟩) l5 y5, .int .i64 c.now] 37 (0, 0))) := (Below.heap_alloc _ _ _ (lt_of_some Bk.out)).trans (Bk.out)
              have Gr : Hid ((wr.alloc (.cells #[.string p.n, .int .i64 p.c, .string p.z, .slice va vl vc, .string p.d, .int .i64 2] 76)).heap[wr.heap.size]? = some (.cells #[.string p.n, .int .i64 p.c, .string p.z, .slice va vl vc, .string p.d, .int .i64 2] 76 (0, 0))) := Array.getElem?_push_size
              have HW : Hid (Below w.heap.size w (wr.alloc (.cells #[.string p.n, .int .i64 p.c, .string p.z, .slice va vl vc, .string p.d, .int .i64 2] 76))) := (HB.out.trans ((below1 _ _).mono HB.out.size))
              have k0 : ∀ q : Wd (wr.alloc (.cells #[.string p.n, .int .i64 p.c, .string p.z, .slice va vl vc, .string p.d, .int .i64 2] 76)), q.w.cell? ⟨w.heap.size, 0, none⟩ = some (.slice (some ⟨b1, o1, none⟩) l1 y1) := fun q => q.slot Gk.out rfl
              have k1 : ∀ q : Wd (wr.alloc (.cells #[.string p.n, .int .i64 p.c, .string p.z, .slice va vl vc, .string p.d, .int .i64 2] 76)), q.w.cell? ⟨w.heap.size, 1, none⟩ = some (.slice a2 l2 y2) := fun q => q.slot Gk.out rfl
              have k2 : ∀ q : Wd (wr.alloc (.cells #[.string p.n, .int .i64 p.c, .string p.z, .slice va vl vc, .string p.d, .int .i64 2] 76)), q.w.cell? ⟨w.heap.size, 2, none⟩ = some (.slice a3 l3 y3) := fun q => q.slot Gk.out rfl
              have k3 : ∀ q : Wd (wr.alloc (.cells #[.string p.n, .int .i64 p.c, .string p.z, .slice va vl vc, .string p.d, .int .i64 2] 76)), q.w.cell? ⟨w.heap.size, 3, none⟩ = some (.slice a4 l4 y4) := fun q => q.slot Gk.out rfl
              have k4 : ∀ q : Wd (wr.alloc (.cells #[.string p.n, .int .i64 p.c, .string p.z, .slice va vl vc, .string p.d, .int .i64 2] 76)), q.w.cell? ⟨w.heap.size, 4, none⟩ = some (.slice (some ⟨b, o, none⟩) l5 y5) := fun q => q.slot Gk.out rfl
              have k5 : ∀ q : Wd (wr.alloc (.cells #[.string p.n, .int .i64 p.c, .string p.z, .slice va vl vc, .string p.d, .int .i64 2] 76)), q.w.cell? ⟨w.heap.size, 5, none⟩ = some (.int .i64 c.now) := fun q => q.slot Gk.out rfl
              have r0 : ∀ q : Wd (wr.alloc (.cells #[.string p.n, .int .i64 p.c, .string p.z, .slice va vl vc, .string p.d, .int .i64 2] 76)), q.w.cell? ⟨wr.heap.size, 0, none⟩ = some (.string p.n) := fun q => q.slot Gr.out rfl
              have r1 : ∀ q : Wd (wr.alloc (.cells #[.string p.n, .int .i64 p.c, .string p.z, .slice va vl vc, .string p.d, .int .i64 2] 76)), q.w.cell? ⟨wr.heap.size, 1, none⟩ = some (.int .i64 p.c) := fun q => q.slot Gr.out rfl
              have r2 : ∀ q : Wd (wr.alloc (.cells #[.string p.n, .int .i64 p.c, .string p.z, .slice va vl vc, .string p.d, .int .i64 2] 76)), q.w.cell? ⟨wr.heap.size, 2, none⟩ = some (.string p.z) := fun q => q.slot Gr.out rfl
              have r3 : ∀ q : Wd (wr.alloc (.cells #[.string p.n, .int .i64 p.c, .string p.z, .slice va vl vc, .string p.d, .int .i64 2] 76)), q.w.cell? ⟨wr.heap.size, 3, none⟩ = some (.slice va vl vc) := fun q => q.slot Gr.out rfl
              have r4 : ∀ q : Wd (wr.alloc (.cells #[.string p.n, .int .i64 p.c, .string p.z, .slice va vl vc, .string p.d, .int .i64 2] 76)), q.w.cell? ⟨wr.heap.size, 4, none⟩ = some (.string p.d) := fun q => q.slot Gr.out rfl
              have r5 : ∀ q : Wd (wr.alloc (.cells #[.string p.n, .int .i64 p.c, .string p.z, .slice va vl vc, .string p.d, .int .i64 2] 76)), q.w.cell? ⟨wr.heap.size, 5, none⟩ = some (.int .i64 2) := fun q => q.slot Gr.out rfl
              have nw : ∀ q : Wd (wr.alloc (.cells #[.string p.n, .int .i64 p.c, .string p.z, .slice va vl vc, .string p.d, .int .i64 2] 76)), q.w.cell? ⟨b1, o1 + j1 * 7 + 5, none⟩ = some (.bool false) := fun q => (q.cell (hbnv)).trans (e5v)
              have hne0 := Wd.ne (wr.alloc (.cells #[.string p.n, .int .i64 p.c, .string p.z, .slice va vl vc, .string p.d, .int .i64 2] 76))
              have HC0 := hidK (fun q : Wd (wr.alloc (.cells #[.string p.n, .int .i64 p.c, .string p.z, .slice va vl vc, .string p.d, .int .i64 2] 76)) => sxnd_hit ⟨(some ⟨b1, o1, none⟩), l1, y1, a2, l2, y2, a3, l3, y3, a4, l4, y4, (some ⟨b, o, none⟩), l5, y5⟩ c.now c.ns p.d q.w (HR.out.n.below (HW.out.trans (q.b.mono HW.out.size))) HNR.out HJn.out HNn.out)
              have HC1 := hidK (fun q : Wd (wr.alloc (.cells #[.string p.n, .int .i64 p.c, .string p.z, .slice va vl vc, .string p.d, .int .i64 2] 76)) => HCA.out q)
              go_wp2_with fail
              refine wp_region_wide (by kernel_rfl) (by kernel_rfl) ?_
              repeat (go_big_quiet_step (first | (go_at_call 79; exact Calls.wide (HC0.out _)) | (go_at_call 143; exact Calls.wide (HC1.out _)) | fail))
              refine wpQuiet_nil ?_
              rintro _ ⟨q1, rfl⟩
              have HB1 := hidK (HW.out.trans (q1.b.mono HW.out.size))
              have Ck := hidK ((q1.b.block _ (lt_of_some Gk.out)).trans Gk.out)
              have Cr := hidK ((q1.b.block _ (lt_of_some Gr.out)).trans Gr.out)
              clear hne0 HW HB HC0 HC1 k0 k1 k2 k3 k4 k5 r0 r1 r2 r3 r4 r5 nw Gk Gr Bk hszv1 pk pkl hb hbn e5 hbnv e5v c0 c1 c2 c3 c4 c5
              have HB := HB1
              clear HB1
              have Bk := Ck
              clear Ck
              have Br := Cr
              clear Cr
              go_wp2
              go_ret
              refine BoolB.f (fun h => ?_) HB.out
              obtain ⟨i, m, e1, e2, e3, e4⟩ := (h.2 k p HXp.out) HP2.out
              obtain ⟨_, rfl⟩ := HNR.out.inj e1 HJn.out (e2.trans HNn.out.symm)
              exact HAl.out e4
        · obtain rfl : l5 = k := by omega
          go_wp2
          go_ret
          exact BoolB.t ⟨HQ1.out, fun j z hz => HQ.out j z (by have := (List.getElem?_eq_some_iff.1 hz).1; omega) hz⟩ HB.out

end Rc
end Go.Proofs.YtcljghpfclegmaaGreatDoor
