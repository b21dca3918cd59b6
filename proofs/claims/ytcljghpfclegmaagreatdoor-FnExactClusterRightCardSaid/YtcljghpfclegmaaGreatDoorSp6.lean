/-
  Whether volumes are on nodes where they may be, as the specification asks it.
-/
import Derived.Test.YtcljghpfclegmaaGreatDoorSp2
namespace Go.Proofs.YtcljghpfclegmaaGreatDoor
open Go.RowKit
namespace Rc
open Mk

def AttachedS (c : Cl) : Prop := (∀ (j : Nat) z, c.vs[j]? = some z → AQ1 c z) ∧ ∀ (j : Nat) n, c.ns[j]? = some n → onOf n.n c.vs ≤ n.s

set_option maxRecDepth 100000 in
set_option maxHeartbeats 12800000 in
theorem sattached_any (d : Ad) (c : Cl) (w : World) (hr : ClRow w d c.raw) (hn : RisBy Nd.n c.ns) (hvs8 : c.vs.length ≤ 8) :
    Calls Tryz.prog 58 #[.agg #[.slice d.a1 d.l1 d.c1, .slice d.a2 d.l2 d.c2, .slice d.a3 d.l3 d.c3, .slice d.a4 d.l4 d.c4, .slice d.a5 d.l5 d.c5, .int .i64 c.now]] w (BoolB (AttachedS c) w) := by
  obtain ⟨a1, l1, y1, a2, l2, y2, a3, l3, y3, a4, l4, y4, a5, l5, y5⟩ := d
  dsimp only
  have HR := hidK hr
  have hl1 : c.ns.length = l1 := by simpa using (show (c.ns.map ndF).length = l1 from hr.n.1)
  have hm1 : l1 ≤ 9223372036854775807 := Nat.le_trans hr.n.2.1 hr.n.2.2.1
  have hl2 : c.ks.length = l2 := by simpa using (show (c.ks.map kdF).length = l2 from hr.k.1)
  have hm2 : l2 ≤ 9223372036854775807 := Nat.le_trans hr.k.2.1 hr.k.2.2.1
  have hl3 : c.vs.length = l3 := by simpa using (show (c.vs.map vdF).length = l3 from hr.v.1)
  have hm3 : l3 ≤ 9223372036854775807 := Nat.le_trans hr.v.2.1 hr.v.2.2.1
  have hl4 : c.xs.length = l4 := by simpa using (show (c.xs.map xdF).length = l4 from hr.x.1)
  have hm4 : l4 ≤ 9223372036854775807 := Nat.le_trans hr.x.2.1 hr.x.2.2.1
  have hl5 : c.ps.length = l5 := by simpa using (show (c.ps.map pdF).length = l5 from hr.p.1)
  have hm5 : l5 ≤ 9223372036854775807 := Nat.le_trans hr.p.2.1 hr.p.2.2.1
  clear hr
  have HNR := hidK hn
  have HL3 := hidK hvs8
  clear hn hvs8
  go_enter Tryz.func58, Tryz.ntmps58
  go_wp2
  go_loopw [3] (fun i wr => ∃ k : Nat, k ≤ l3 ∧ i = .int .i64 k ∧ Hid (∀ (j : Nat) z, j < k → c.vs[j]? = some z → AQ1 c z) ∧ Hid (Below w.heap.size w wr) ∧ Hid (wr.heap[w.heap.size]? = some (.cells #[.slice a1 l1 y1, .slice a2 l2 y2, .slice a3 l3 y3, .slice a4 l4 y4, .slice a5 l5 y5, .int .i64 c.now] 37 (0, 0)))) (fun i _ => l3 - (intOf i).toNat)
  case atStart => exact ⟨0, by omega, rfl, fun _ _ h => absurd h (by omega), below1 _ _, Array.getElem?_push_size⟩
  case round =>
    obtain ⟨k, hk, rfl, HQ, HB, Bk⟩ := hrel
    have pk : wr.cell? ⟨w.heap.size, 2, none⟩ = some (.slice a3 l3 y3) := cellK Bk.out 2
    have pkl : w.heap.size < wr.heap.size := lt_of_some Bk.out
    by_cases hlt : k < l3
    · obtain ⟨b, o, v, rfl, hb, hx, hat⟩ := vd_at (HR.out.v.below HB.out) hlt
      obtain ⟨va, vl, vc, hvr, z0, z2, z3, z5, c0, c1, c2, c3, c4, c5, c6, c7⟩ := vd_cells hat
      have HXv := hidK hx
      have HTv := hidK hvr
      have HZv0 := hidK z0
      have HZv2 := hidK z2
      have HZv3 := hidK z3
      have HZv5 := hidK z5
      clear hat hx z0 z2 z3 z5 hvr
      have hvl : v.zs.length = vl := HTv.out.1
      have hvc : vl ≤ 9223372036854775807 := Nat.le_trans HTv.out.2.1 HTv.out.2.2.1
      have HVL := hidK hvl
      clear hvl
      have KV : Hid ((wr.alloc (.cells #[.string v.n, .int .i64 v.c, .string v.z, .string v.k, .bool v.x, .string v.m, .bool v.y, .slice va vl vc] 60)).heap[w.heap.size]? = some (.cells #[.slice a1 l1 y1, .slice a2 l2 y2, .slice (some ⟨b, o, none⟩) l3 y3, .slice a4 l4 y4, .slice a5 l5 y5, .int .i64 c.now] 37 (0, 0))) := (Below.heap_alloc wr (.cells #[.string v.n, .int .i64 v.c, .string v.z, .string v.k, .bool v.x, .string v.m, .bool v.y, .slice va vl vc] 60) _ (lt_of_some Bk.out)).trans Bk.out
      have GV : Hid ((wr.alloc (.cells #[.string v.n, .int .i64 v.c, .string v.z, .string v.k, .bool v.x, .string v.m, .bool v.y, .slice va vl vc] 60)).heap[wr.heap.size]? = some (.cells #[.string v.n, .int .i64 v.c, .string v.z, .string v.k, .bool v.x, .string v.m, .bool v.y, .slice va vl vc] 60 (0, 0))) := Array.getElem?_push_size
      have BV := hidK (HB.out.trans ((below1 wr (.cells #[.string v.n, .int .i64 v.c, .string v.z, .string v.k, .bool v.x, .string v.m, .bool v.y, .slice va vl vc] 60)).mono HB.out.size))
      have TT := hidK (HTv.out.below (below1 wr (.cells #[.string v.n, .int .i64 v.c, .string v.z, .string v.k, .bool v.x, .string v.m, .bool v.y, .slice va vl vc] 60)))
      obtain ⟨W, hW⟩ : ∃ W, W = wr.alloc (.cells #[.string v.n, .int .i64 v.c, .string v.z, .string v.k, .bool v.x, .string v.m, .bool v.y, .slice va vl vc] 60) := ⟨_, rfl⟩
      obtain ⟨gb, hgb⟩ : ∃ gb, gb = wr.heap.size := ⟨_, rfl⟩
      rw [← hW] at KV GV BV TT
      rw [← hgb] at GV
      go_wp2
      rw [← hW, ← hgb]
      clear hW hgb HB Bk HTv c0 c1 c2 c3 c4 c5 c6 c7 hb pk pkl
      go_loopw [5] (fun i wr => ∃ kq : Nat, kq ≤ vl ∧ i = .int .i64 kq ∧ Hid (∀ (j : Nat) t, j < kq → v.zs[j]? = some t → ∃ (i : Nat) (n : Nd), c.ns[i]? = some n ∧ n.n = t ∧ n.z = v.z) ∧ Hid (Below W.heap.size W wr)) (fun i _ => vl - (intOf i).toNat)
      case atStart => exact ⟨0, by omega, rfl, fun _ _ h => absurd h (by omega), Below.refl _ _⟩
      case round =>
        obtain ⟨kq, hkq, rfl, HQ2, HBW⟩ := hrel
        have HB := hidK (BV.out.trans (HBW.out.mono BV.out.size))
        have Bk := hidK ((HBW.out.block _ (lt_of_some KV.out)).trans KV.out)
        have Bv := hidK ((HBW.out.block _ (lt_of_some GV.out)).trans GV.out)
        have pv : wr.cell? ⟨gb, 7, none⟩ = some (.slice va vl vc) := cellK Bv.out 7
        by_cases hlt2 : kq < vl
        · obtain ⟨b2, o2, t, rfl, hb, hx, hc, hsz⟩ := (TT.out.below HBW.out).at hlt2
          have HXt := hidK hx
          clear hx hsz
          by_cases hnn : ∃ (i : Nat) (n : Nd), c.ns[i]? = some n ∧ n.n = t
          rotate_left
          · have HH := hidK hnn
            clear hnn
            have Gk : Hid (wr.heap[w.heap.size]? = some (.cells #[.slice a1 l1 y1, .slice a2 l2 y2, .slice (some ⟨b, o, none⟩) l3 y3, .slice a4 l4 y4, .slice a5 l5 y5, .int .i64 c.now] 37 (0, 0))) := Bk.out
            have Gv : Hid (wr.heap[gb]? = some (.cells #[.string v.n, .int .i64 v.c, .string v.z, .string v.k, .bool v.x, .string v.m, .bool v.y, .slice (some ⟨b2, o2, none⟩) vl vc] 60 (0, 0))) := Bv.out
            have HW := hidK HB.out
            have k0 : ∀ q : Wd wr, q.w.cell? ⟨w.heap.size, 0, none⟩ = some (.slice a1 l1 y1) := fun q => q.slot Gk.out rfl
            have k1 : ∀ q : Wd wr, q.w.cell? ⟨w.heap.size, 1, none⟩ = some (.slice a2 l2 y2) := fun q => q.slot Gk.out rfl
            have k2 : ∀ q : Wd wr, q.w.cell? ⟨w.heap.size, 2, none⟩ = some (.slice (some ⟨b, o, none⟩) l3 y3) := fun q => q.slot Gk.out rfl
            have k3 : ∀ q : Wd wr, q.w.cell? ⟨w.heap.size, 3, none⟩ = some (.slice a4 l4 y4) := fun q => q.slot Gk.out rfl
            have k4 : ∀ q : Wd wr, q.w.cell? ⟨w.heap.size, 4, none⟩ = some (.slice a5 l5 y5) := fun q => q.slot Gk.out rfl
            have k5 : ∀ q : Wd wr, q.w.cell? ⟨w.heap.size, 5, none⟩ = some (.int .i64 c.now) := fun q => q.slot Gk.out rfl
            have v7 : ∀ q : Wd wr, q.w.cell? ⟨gb, 7, none⟩ = some (.slice (some ⟨b2, o2, none⟩) vl vc) := fun q => q.slot Gv.out rfl
            have tw : ∀ q : Wd wr, q.w.cell? ⟨b2, o2 + kq, none⟩ = some (.string t) := fun q => (q.cell (hb)).trans (hc)
            have hne0 := Wd.ne wr
            have HC0 := hidK (fun q : Wd wr => sxnd_miss ⟨a1, l1, y1, a2, l2, y2, (some ⟨b, o, none⟩), l3, y3, a4, l4, y4, a5, l5, y5⟩ c.now c.ns t q.w (HR.out.n.below (HW.out.trans (q.b.mono HW.out.size))) (fun i n h1 h2 => HH.out ⟨i, n, h1, h2⟩))
            go_wp2_with fail
            refine wp_region_wide (by kernel_rfl) (by kernel_rfl) ?_
            repeat (go_big_quiet_step (first | (go_at_call 79; exact Calls.wide (HC0.out _)) | fail))
            refine wpQuiet_nil ?_
            rintro _ ⟨q1, rfl⟩
            have HB1 := hidK (HW.out.trans (q1.b.mono HW.out.size))
            have Ck := hidK ((q1.b.block _ (lt_of_some Gk.out)).trans Gk.out)
            have Cv := hidK ((q1.b.block _ (lt_of_some Gv.out)).trans Gv.out)
            clear hne0 HW HB HC0 k0 k1 k2 k3 k4 k5 v7 tw Gk Gv Bk Bv pv
            have HB := HB1
            clear HB1
            have Bk := Ck
            clear Ck
            have Bv := Cv
            clear Cv
            have Gk : Hid (q1.w.heap[w.heap.size]? = some (.cells #[.slice a1 l1 y1, .slice a2 l2 y2, .slice (some ⟨b, o, none⟩) l3 y3, .slice a4 l4 y4, .slice a5 l5 y5, .int .i64 c.now] 37 (0, 0))) := Bk.out
            have Gv : Hid (q1.w.heap[gb]? = some (.cells #[.string v.n, .int .i64 v.c, .string v.z, .string v.k, .bool v.x, .string v.m, .bool v.y, .slice (some ⟨b2, o2, none⟩) vl vc] 60 (0, 0))) := Bv.out
            have HW := hidK HB.out
            have k0 : ∀ q : Wd q1.w, q.w.cell? ⟨w.heap.size, 0, none⟩ = some (.slice a1 l1 y1) := fun q => q.slot Gk.out rfl
            have v0 : ∀ q : Wd q1.w, q.w.cell? ⟨gb, 0, none⟩ = some (.string v.n) := fun q => q.slot Gv.out rfl
            have v1 : ∀ q : Wd q1.w, q.w.cell? ⟨gb, 1, none⟩ = some (.int .i64 v.c) := fun q => q.slot Gv.out rfl
            have v2 : ∀ q : Wd q1.w, q.w.cell? ⟨gb, 2, none⟩ = some (.string v.z) := fun q => q.slot Gv.out rfl
            have v3 : ∀ q : Wd q1.w, q.w.cell? ⟨gb, 3, none⟩ = some (.string v.k) := fun q => q.slot Gv.out rfl
            have v4 : ∀ q : Wd q1.w, q.w.cell? ⟨gb, 4, none⟩ = some (.bool v.x) := fun q => q.slot Gv.out rfl
            have v5 : ∀ q : Wd q1.w, q.w.cell? ⟨gb, 5, none⟩ = some (.string v.m) := fun q => q.slot Gv.out rfl
            have v6 : ∀ q : Wd q1.w, q.w.cell? ⟨gb, 6, none⟩ = some (.bool v.y) := fun q => q.slot Gv.out rfl
            have v7 : ∀ q : Wd q1.w, q.w.cell? ⟨gb, 7, none⟩ = some (.slice (some ⟨b2, o2, none⟩) vl vc) := fun q => q.slot Gv.out rfl
            have hne0 := Wd.ne q1.w
            go_wp2_with fail
            refine wp_region_wide (by kernel_rfl) (by kernel_rfl) ?_
            repeat (go_big_quiet_step (first | fail))
            refine wpQuiet_nil ?_
            rintro _ ⟨q2, rfl⟩
            have HB2 := hidK (HW.out.trans (q2.b.mono HW.out.size))
            have Ck := hidK ((q2.b.block _ (lt_of_some Gk.out)).trans Gk.out)
            have Cv := hidK ((q2.b.block _ (lt_of_some Gv.out)).trans Gv.out)
            clear hne0 HW HB k0 v0 v1 v2 v3 v4 v5 v6 v7 Gk Gv Bk Bv
            have HB := HB2
            clear HB2
            have Bk := Ck
            clear Ck
            have Bv := Cv
            clear Cv
            go_wp2
            go_ret
            refine BoolB.f (fun h => ?_) HB.out
            obtain ⟨i, n, h2, h3, _⟩ := (h.1 k v HXv.out) kq t HXt.out
            exact HH.out ⟨i, n, h2, h3⟩
          obtain ⟨j1, n, h1, h2⟩ := hnn
          have hl1' : j1 < l1 := by have h3 := (List.getElem?_eq_some_iff.1 h1).1; omega
          obtain ⟨b1, o1, n', rfl, hb1n, hn', hat⟩ := nd_at HR.out.n hl1'
          rw [h1] at hn'
          obtain rfl := Option.some.inj hn'
          obtain ⟨na, nl, nc, hnr, z0, z1, d0, d1, d2, d3, d4, d5, d6⟩ := nd_cells hat
          have HJn := hidK h1
          have HNn := hidK h2
          have HCn := hidK d1
          have HBn := hidK hb1n
          have hj11 : decide ((j1 : Int) < 0) = false := by simp
          clear hn' hat hnr z0 z1 d0 d1 d2 d3 d4 d5 d6 h1 h2 hb1n
          have Gk : Hid (wr.heap[w.heap.size]? = some (.cells #[.slice (some ⟨b1, o1, none⟩) l1 y1, .slice a2 l2 y2, .slice (some ⟨b, o, none⟩) l3 y3, .slice a4 l4 y4, .slice a5 l5 y5, .int .i64 c.now] 37 (0, 0))) := Bk.out
          have Gv : Hid (wr.heap[gb]? = some (.cells #[.string v.n, .int .i64 v.c, .string v.z, .string v.k, .bool v.x, .string v.m, .bool v.y, .slice (some ⟨b2, o2, none⟩) vl vc] 60 (0, 0))) := Bv.out
          have HW := hidK HB.out
          have k0 : ∀ q : Wd wr, q.w.cell? ⟨w.heap.size, 0, none⟩ = some (.slice (some ⟨b1, o1, none⟩) l1 y1) := fun q => q.slot Gk.out rfl
          have k1 : ∀ q : Wd wr, q.w.cell? ⟨w.heap.size, 1, none⟩ = some (.slice a2 l2 y2) := fun q => q.slot Gk.out rfl
          have k2 : ∀ q : Wd wr, q.w.cell? ⟨w.heap.size, 2, none⟩ = some (.slice (some ⟨b, o, none⟩) l3 y3) := fun q => q.slot Gk.out rfl
          have k3 : ∀ q : Wd wr, q.w.cell? ⟨w.heap.size, 3, none⟩ = some (.slice a4 l4 y4) := fun q => q.slot Gk.out rfl
          have k4 : ∀ q : Wd wr, q.w.cell? ⟨w.heap.size, 4, none⟩ = some (.slice a5 l5 y5) := fun q => q.slot Gk.out rfl
          have k5 : ∀ q : Wd wr, q.w.cell? ⟨w.heap.size, 5, none⟩ = some (.int .i64 c.now) := fun q => q.slot Gk.out rfl
          have v7 : ∀ q : Wd wr, q.w.cell? ⟨gb, 7, none⟩ = some (.slice (some ⟨b2, o2, none⟩) vl vc) := fun q => q.slot Gv.out rfl
          have tw : ∀ q : Wd wr, q.w.cell? ⟨b2, o2 + kq, none⟩ = some (.string t) := fun q => (q.cell (hb)).trans (hc)
          have hne0 := Wd.ne wr
          have HC0 := hidK (fun q : Wd wr => sxnd_hit ⟨(some ⟨b1, o1, none⟩), l1, y1, a2, l2, y2, (some ⟨b, o, none⟩), l3, y3, a4, l4, y4, a5, l5, y5⟩ c.now c.ns t q.w (HR.out.n.below (HW.out.trans (q.b.mono HW.out.size))) HNR.out HJn.out HNn.out)
          go_wp2_with fail
          refine wp_region_wide (by kernel_rfl) (by kernel_rfl) ?_
          repeat (go_big_quiet_step (first | (go_at_call 79; exact Calls.wide (HC0.out _)) | fail))
          refine wpQuiet_nil ?_
          rintro _ ⟨q1, rfl⟩
          have HB1 := hidK (HW.out.trans (q1.b.mono HW.out.size))
          have Ck := hidK ((q1.b.block _ (lt_of_some Gk.out)).trans Gk.out)
          have Cv := hidK ((q1.b.block _ (lt_of_some Gv.out)).trans Gv.out)
          clear hne0 HW HB HC0 k0 k1 k2 k3 k4 k5 v7 tw Gk Gv Bk Bv pv hb hc
          have HB := HB1
          clear HB1
          have Bk := Ck
          clear Ck
          have Bv := Cv
          clear Cv
          have HBW1 := hidK (HBW.out.trans (q1.b.mono HBW.out.size))
          have hbn : b1 < q1.w.heap.size := Nat.lt_of_lt_of_le HBn.out HB.out.size
          have n1 := (cell_below HB.out HBn.out).trans HCn.out
          clear HBW
          by_cases hz : n.z = v.z
          · have q8 := tl_yes hz
            have HZ := hidK hz
            clear hz
            have Gk : Hid (q1.w.heap[w.heap.size]? = some (.cells #[.slice (some ⟨b1, o1, none⟩) l1 y1, .slice a2 l2 y2, .slice (some ⟨b, o, none⟩) l3 y3, .slice a4 l4 y4, .slice a5 l5 y5, .int .i64 c.now] 37 (0, 0))) := Bk.out
            have Gv : Hid (q1.w.heap[gb]? = some (.cells #[.string v.n, .int .i64 v.c, .string v.z, .string v.k, .bool v.x, .string v.m, .bool v.y, .slice (some ⟨b2, o2, none⟩) vl vc] 60 (0, 0))) := Bv.out
            have HW := hidK HB.out
            have k0 : ∀ q : Wd q1.w, q.w.cell? ⟨w.heap.size, 0, none⟩ = some (.slice (some ⟨b1, o1, none⟩) l1 y1) := fun q => q.slot Gk.out rfl
            have v0 : ∀ q : Wd q1.w, q.w.cell? ⟨gb, 0, none⟩ = some (.string v.n) := fun q => q.slot Gv.out rfl
            have v1 : ∀ q : Wd q1.w, q.w.cell? ⟨gb, 1, none⟩ = some (.int .i64 v.c) := fun q => q.slot Gv.out rfl
            have v2 : ∀ q : Wd q1.w, q.w.cell? ⟨gb, 2, none⟩ = some (.string v.z) := fun q => q.slot Gv.out rfl
            have v3 : ∀ q : Wd q1.w, q.w.cell? ⟨gb, 3, none⟩ = some (.string v.k) := fun q => q.slot Gv.out rfl
            have v4 : ∀ q : Wd q1.w, q.w.cell? ⟨gb, 4, none⟩ = some (.bool v.x) := fun q => q.slot Gv.out rfl
            have v5 : ∀ q : Wd q1.w, q.w.cell? ⟨gb, 5, none⟩ = some (.string v.m) := fun q => q.slot Gv.out rfl
            have v6 : ∀ q : Wd q1.w, q.w.cell? ⟨gb, 6, none⟩ = some (.bool v.y) := fun q => q.slot Gv.out rfl
            have v7 : ∀ q : Wd q1.w, q.w.cell? ⟨gb, 7, none⟩ = some (.slice (some ⟨b2, o2, none⟩) vl vc) := fun q => q.slot Gv.out rfl
            have nw : ∀ q : Wd q1.w, q.w.cell? ⟨b1, o1 + j1 * 7 + 1, none⟩ = some (.string n.z) := fun q => (q.cell (hbn)).trans (n1)
            have hne0 := Wd.ne q1.w
            go_wp2_with fail
            refine wp_region_wide (by kernel_rfl) (by kernel_rfl) ?_
            repeat (go_big_quiet_step (first | fail))
            refine wpQuiet_nil ?_
            rintro _ ⟨q2, rfl⟩
            have HB2 := hidK (HW.out.trans (q2.b.mono HW.out.size))
            have Ck := hidK ((q2.b.block _ (lt_of_some Gk.out)).trans Gk.out)
            have Cv := hidK ((q2.b.block _ (lt_of_some Gv.out)).trans Gv.out)
            clear hne0 HW HB k0 v0 v1 v2 v3 v4 v5 v6 v7 nw Gk Gv Bk Bv hbn n1
            have HB := HB2
            clear HB2
            have Bk := Ck
            clear Ck
            have Bv := Cv
            clear Cv
            clear q8
            go_wp2_with fail
            refine ⟨⟨kq + 1, by omega, by go_num, fun j s hj hs => ?_, HBW1.out.trans (q2.b.mono HBW1.out.size)⟩, by simp [intOf]; omega⟩
            by_cases e : j = kq
            · subst e
              rw [HXt.out] at hs
              obtain rfl := Option.some.inj hs
              exact ⟨j1, n, HJn.out, HNn.out, HZ.out⟩
            · exact HQ2.out j s (by omega) hs
          · have q8 := tl_no hz
            have HZ := hidK hz
            clear hz
            have Gk : Hid (q1.w.heap[w.heap.size]? = some (.cells #[.slice (some ⟨b1, o1, none⟩) l1 y1, .slice a2 l2 y2, .slice (some ⟨b, o, none⟩) l3 y3, .slice a4 l4 y4, .slice a5 l5 y5, .int .i64 c.now] 37 (0, 0))) := Bk.out
            have Gv : Hid (q1.w.heap[gb]? = some (.cells #[.string v.n, .int .i64 v.c, .string v.z, .string v.k, .bool v.x, .string v.m, .bool v.y, .slice (some ⟨b2, o2, none⟩) vl vc] 60 (0, 0))) := Bv.out
            have HW := hidK HB.out
            have k0 : ∀ q : Wd q1.w, q.w.cell? ⟨w.heap.size, 0, none⟩ = some (.slice (some ⟨b1, o1, none⟩) l1 y1) := fun q => q.slot Gk.out rfl
            have v0 : ∀ q : Wd q1.w, q.w.cell? ⟨gb, 0, none⟩ = some (.string v.n) := fun q => q.slot Gv.out rfl
            have v1 : ∀ q : Wd q1.w, q.w.cell? ⟨gb, 1, none⟩ = some (.int .i64 v.c) := fun q => q.slot Gv.out rfl
            have v2 : ∀ q : Wd q1.w, q.w.cell? ⟨gb, 2, none⟩ = some (.string v.z) := fun q => q.slot Gv.out rfl
            have v3 : ∀ q : Wd q1.w, q.w.cell? ⟨gb, 3, none⟩ = some (.string v.k) := fun q => q.slot Gv.out rfl
            have v4 : ∀ q : Wd q1.w, q.w.cell? ⟨gb, 4, none⟩ = some (.bool v.x) := fun q => q.slot Gv.out rfl
            have v5 : ∀ q : Wd q1.w, q.w.cell? ⟨gb, 5, none⟩ = some (.string v.m) := fun q => q.slot Gv.out rfl
            have v6 : ∀ q : Wd q1.w, q.w.cell? ⟨gb, 6, none⟩ = some (.bool v.y) := fun q => q.slot Gv.out rfl
            have v7 : ∀ q : Wd q1.w, q.w.cell? ⟨gb, 7, none⟩ = some (.slice (some ⟨b2, o2, none⟩) vl vc) := fun q => q.slot Gv.out rfl
            have nw : ∀ q : Wd q1.w, q.w.cell? ⟨b1, o1 + j1 * 7 + 1, none⟩ = some (.string n.z) := fun q => (q.cell (hbn)).trans (n1)
            have hne0 := Wd.ne q1.w
            go_wp2_with fail
            refine wp_region_wide (by kernel_rfl) (by kernel_rfl) ?_
            repeat (go_big_quiet_step (first | fail))
            refine wpQuiet_nil ?_
            rintro _ ⟨q2, rfl⟩
            have HB2 := hidK (HW.out.trans (q2.b.mono HW.out.size))
            have Ck := hidK ((q2.b.block _ (lt_of_some Gk.out)).trans Gk.out)
            have Cv := hidK ((q2.b.block _ (lt_of_some Gv.out)).trans Gv.out)
            clear hne0 HW HB k0 v0 v1 v2 v3 v4 v5 v6 v7 nw Gk Gv Bk Bv hbn n1
            have HB := HB2
            clear HB2
            have Bk := Ck
            clear Ck
            have Bv := Cv
            clear Cv
            go_wp2
            go_ret
            refine BoolB.f (fun h => ?_) HB.out
            obtain ⟨i, m2, e1, e2, e3⟩ := (h.1 k v HXv.out) kq t HXt.out
            obtain ⟨_, rfl⟩ := HNR.out.inj e1 HJn.out (e2.trans HNn.out.symm)
            exact HZ.out e3
        · obtain rfl : vl = kq := by omega
          go_wp2_with fail
          refine ⟨⟨k + 1, by omega, by go_num, fun j z hj hz => ?_, HB.out, Bk.out⟩, by simp [intOf]; omega⟩
          by_cases e : j = k
          · subst e
            rw [HXv.out] at hz
            obtain rfl := Option.some.inj hz
            exact fun j s hs => HQ2.out j s (by have h1 := (List.getElem?_eq_some_iff.1 hs).1; have h2 := HVL.out; omega) hs
          · exact HQ.out j z (by omega) hz
    · obtain rfl : l3 = k := by omega
      have HQ1 : Hid (∀ (j : Nat) z, c.vs[j]? = some z → AQ1 c z) := fun j z hz => HQ.out j z (by have := (List.getElem?_eq_some_iff.1 hz).1; omega) hz
      clear HQ
      have kc : wr.cell? ⟨w.heap.size, 0, none⟩ = some (.slice a1 l1 y1) := cellK Bk.out 0
      go_wp2
      clear pk kc
      go_loopw [7] (fun i wr => ∃ k : Nat, k ≤ l1 ∧ i = .int .i64 k ∧ Hid (∀ (j : Nat) n, j < k → c.ns[j]? = some n → onOf n.n c.vs ≤ n.s) ∧ Hid (Below w.heap.size w wr) ∧ Hid (wr.heap[w.heap.size]? = some (.cells #[.slice a1 l1 y1, .slice a2 l2 y2, .slice a3 l3 y3, .slice a4 l4 y4, .slice a5 l5 y5, .int .i64 c.now] 37 (0, 0)))) (fun i _ => l1 - (intOf i).toNat)
      case atStart => exact ⟨0, by omega, rfl, fun _ _ h => absurd h (by omega), HB.out, Bk.out⟩
      case round =>
        obtain ⟨k, hk, rfl, HQ, HB, Bk⟩ := hrel
        have pk : wr.cell? ⟨w.heap.size, 0, none⟩ = some (.slice a1 l1 y1) := cellK Bk.out 0
        by_cases hlt : k < l1
        · obtain ⟨b, o, n, rfl, hb, hx, hat⟩ := nd_at (HR.out.n.below HB.out) hlt
          obtain ⟨va, vl, vc, hvr, z0, z1, c0, c1, c2, c3, c4, c5, c6⟩ := nd_cells hat
          have HXn := hidK hx
          have HTn := hidK hvr
          have HZn0 := hidK z0
          have HZn1 := hidK z1
          clear hat hx z0 z1 hvr
          have Gk : Hid (wr.heap[w.heap.size]? = some (.cells #[.slice (some ⟨b, o, none⟩) l1 y1, .slice a2 l2 y2, .slice a3 l3 y3, .slice a4 l4 y4, .slice a5 l5 y5, .int .i64 c.now] 37 (0, 0))) := Bk.out
          have HW := hidK HB.out
          have k0 : ∀ q : Wd wr, q.w.cell? ⟨w.heap.size, 0, none⟩ = some (.slice (some ⟨b, o, none⟩) l1 y1) := fun q => q.slot Gk.out rfl
          have k1 : ∀ q : Wd wr, q.w.cell? ⟨w.heap.size, 1, none⟩ = some (.slice a2 l2 y2) := fun q => q.slot Gk.out rfl
          have k2 : ∀ q : Wd wr, q.w.cell? ⟨w.heap.size, 2, none⟩ = some (.slice a3 l3 y3) := fun q => q.slot Gk.out rfl
          have k3 : ∀ q : Wd wr, q.w.cell? ⟨w.heap.size, 3, none⟩ = some (.slice a4 l4 y4) := fun q => q.slot Gk.out rfl
          have k4 : ∀ q : Wd wr, q.w.cell? ⟨w.heap.size, 4, none⟩ = some (.slice a5 l5 y5) := fun q => q.slot Gk.out rfl
          have k5 : ∀ q : Wd wr, q.w.cell? ⟨w.heap.size, 5, none⟩ = some (.int .i64 c.now) := fun q => q.slot Gk.out rfl
          have n0w : ∀ q : Wd wr, q.w.cell? ⟨b, o + k * 7, none⟩ = some (.string n.n) := fun q => (q.cell (hb)).trans (c0)
          have n2w : ∀ q : Wd wr, q.w.cell? ⟨b, o + k * 7 + 3, none⟩ = some (.int .i64 n.s) := fun q => (q.cell (hb)).trans (c3)
          have hne0 := Wd.ne wr
          have HC0 := hidK (fun q : Wd wr => son_any ⟨(some ⟨b, o, none⟩), l1, y1, a2, l2, y2, a3, l3, y3, a4, l4, y4, a5, l5, y5⟩ c.now c.vs n.n q.w (HR.out.v.below (HW.out.trans (q.b.mono HW.out.size))) HL3.out)
          go_wp2_with fail
          refine wp_region_wide (by kernel_rfl) (by kernel_rfl) ?_
          repeat (go_big_quiet_step (first | (go_at_call 142; exact Calls.wide (HC0.out _)) | fail))
          refine wpQuiet_nil ?_
          rintro _ ⟨q1, rfl⟩
          have HB1 := hidK (HW.out.trans (q1.b.mono HW.out.size))
          have Ck := hidK ((q1.b.block _ (lt_of_some Gk.out)).trans Gk.out)
          clear hne0 HW HB HC0 k0 k1 k2 k3 k4 k5 n0w n2w Gk Bk pk c0 c1 c2 c3 c4 c5 c6 hb
          have HB := HB1
          clear HB1
          have Bk := Ck
          clear Ck
          by_cases hq : onOf n.n c.vs ≤ n.s
          · have HCq := hidK hq
            go_wp2_with fail
            refine ⟨⟨k + 1, by omega, by go_num, fun j z hj hz => ?_, HB.out, Bk.out⟩, by simp [intOf]; omega⟩
            by_cases e : j = k
            · subst e
              rw [HXn.out] at hz
              obtain rfl := Option.some.inj hz
              exact HCq.out
            · exact HQ.out j z (by omega) hz
          · have HCq := hidK hq
            go_wp2
            go_ret
            exact BoolB.f (fun h => by have h1 : onOf n.n c.vs ≤ n.s := h.2 k n HXn.out; have h2 := HCq.out; omega) HB.out
        · obtain rfl : l1 = k := by omega
          go_wp2
          go_ret
          exact BoolB.t ⟨HQ1.out, fun j n hz => HQ.out j n (by have := (List.getElem?_eq_some_iff.1 hz).1; omega) hz⟩ HB.out

end Rc
end Go.Proofs.YtcljghpfclegmaaGreatDoor
