/-
  Whether all things are right and rise by their names, as the specification asks it.
-/
import Derived.Test.YtcljghpfclegmaaGreatDoorSp2
namespace Go.Proofs.YtcljghpfclegmaaGreatDoor
open Go.RowKit
namespace Rc
open Mk

set_option maxRecDepth 100000 in
set_option maxHeartbeats 12800000 in
theorem seach_any (d : Ad) (c : Cl) (w : World) (hr : ClRow w d c.raw) :
    Calls Tryz.prog 55 #[.agg #[.slice d.a1 d.l1 d.c1, .slice d.a2 d.l2 d.c2, .slice d.a3 d.l3 d.c3, .slice d.a4 d.l4 d.c4, .slice d.a5 d.l5 d.c5, .int .i64 c.now]] w (BoolB (RowsOk c) w) := by
  obtain ⟨a1, l1, y1, a2, l2, y2, a3, l3, y3, a4, l4, y4, a5, l5, y5⟩ := d
  dsimp only
  have HR := hidK hr
  have hl1 : c.ns.length = l1 := by simpa using (show (c.ns.map ndF).length = l1 from hr.n.1)
  have hm1 : l1 ≤ 9223372036854775807 := Nat.le_trans hr.n.2.1 hr.n.2.2.1
  have hl2 : c.ks.length = l2 := by simpa using (show (c.ks.map kdF).length = l2 from hr.k.1)
  have hm2 : l2 ≤ 9223372036854775807 := Nat.le_trans hr.k.2.1 hr.k.2.2.1
  have hl3 : c.vs.length = l3 := by simpa using (show (c.vs.map vdF).length = l3 from hr.v.1)
  have hm3 : l3 ≤ 9223372036854775807 := Nat.le_trans hr.v.2.1 hr.v.2.2.1
  have hl4 : c.xs.length = l4 := by simpa using (show (c.xs.map xdF).length = l4 from hr.x.1)
  have hm4 : l4 ≤ 9223372036854775807 := Nat.le_trans hr.x.2.1 hr.x.2.2.1
  have hl5 : c.ps.length = l5 := by simpa using (show (c.ps.map pdF).length = l5 from hr.p.1)
  have hm5 : l5 ≤ 9223372036854775807 := Nat.le_trans hr.p.2.1 hr.p.2.2.1
  clear hr
  by_cases hL1 : (6 : Int) < l1
  · go_enter Tryz.func55, Tryz.ntmps55
    go_wp2
    go_ret
    exact BoolB.f (fun h => by have := h.1.1; omega) (below1 _ _)
  by_cases hL2 : (8 : Int) < l2
  · go_enter Tryz.func55, Tryz.ntmps55
    go_wp2
    go_ret
    exact BoolB.f (fun h => by have := h.2.1.1; omega) (below1 _ _)
  by_cases hL3 : (8 : Int) < l3
  · go_enter Tryz.func55, Tryz.ntmps55
    go_wp2
    go_ret
    exact BoolB.f (fun h => by have := h.2.2.1.1; omega) (below1 _ _)
  by_cases hL4 : (8 : Int) < l4
  · go_enter Tryz.func55, Tryz.ntmps55
    go_wp2
    go_ret
    exact BoolB.f (fun h => by have := h.2.2.2.1.1; omega) (below1 _ _)
  by_cases hL5 : (8 : Int) < l5
  · go_enter Tryz.func55, Tryz.ntmps55
    go_wp2
    go_ret
    exact BoolB.f (fun h => by have := h.2.2.2.2.1; omega) (below1 _ _)
  go_enter Tryz.func55, Tryz.ntmps55
  go_wp2
  go_loopw [3] (fun i wr => ∃ k : Nat, k ≤ l1 ∧ i = .int .i64 k ∧ Hid (∀ (j : Nat) z, j < k → c.ns[j]? = some z → ndOk z) ∧ Hid (∀ (j : Nat) z u, j + 1 < k → c.ns[j + 1]? = some z → c.ns[j]? = some u → Op.bytesLess u.n.toList z.n.toList = true) ∧ Hid (Below w.heap.size w wr) ∧ Hid (wr.heap[w.heap.size]? = some (.cells #[.slice a1 l1 y1, .slice a2 l2 y2, .slice a3 l3 y3, .slice a4 l4 y4, .slice a5 l5 y5, .int .i64 c.now] 37 (0, 0)))) (fun i _ => l1 - (intOf i).toNat)
  case atStart => exact ⟨0, by omega, rfl, fun _ _ h => absurd h (by omega), fun _ _ _ h => absurd h (by omega), below1 _ _, Array.getElem?_push_size⟩
  case round =>
    obtain ⟨k, hk, rfl, HQ, HO, HB, Bk⟩ := hrel
    have pk : wr.cell? ⟨w.heap.size, 0, none⟩ = some (.slice a1 l1 y1) := cellK Bk.out 0
    by_cases hlt : k < l1
    · obtain ⟨b, o, x, rfl, hb, hx, hat⟩ := nd_at (HR.out.n.below HB.out) hlt
      obtain ⟨va, vl, vc, hvr, z0, z1, c0, c1, c2, c3, c4, c5, c6⟩ := nd_cells hat
      have HXx := hidK hx
      have HTx := hidK hvr
      have HZx0 := hidK z0
      have HZx1 := hidK z1
      clear hat hx z0 z1 hvr
      by_cases hok : ndOk x
      rotate_left
      · have HOK := hidK hok
        clear hok
        have Gk : Hid (wr.heap[w.heap.size]? = some (.cells #[.slice (some ⟨b, o, none⟩) l1 y1, .slice a2 l2 y2, .slice a3 l3 y3, .slice a4 l4 y4, .slice a5 l5 y5, .int .i64 c.now] 37 (0, 0))) := Bk.out
        have HW := hidK HB.out
        have k0 : ∀ q : Wd wr, q.w.cell? ⟨w.heap.size, 0, none⟩ = some (.slice (some ⟨b, o, none⟩) l1 y1) := fun q => q.slot Gk.out rfl
        have x0 : ∀ q : Wd wr, q.w.cell? ⟨b, o + k * 7, none⟩ = some (.string x.n) := fun q => (q.cell (hb)).trans (c0)
        have x1 : ∀ q : Wd wr, q.w.cell? ⟨b, o + k * 7 + 1, none⟩ = some (.string x.z) := fun q => (q.cell (hb)).trans (c1)
        have x2 : ∀ q : Wd wr, q.w.cell? ⟨b, o + k * 7 + 2, none⟩ = some (.int .i64 x.c) := fun q => (q.cell (hb)).trans (c2)
        have x3 : ∀ q : Wd wr, q.w.cell? ⟨b, o + k * 7 + 3, none⟩ = some (.int .i64 x.s) := fun q => (q.cell (hb)).trans (c3)
        have x4 : ∀ q : Wd wr, q.w.cell? ⟨b, o + k * 7 + 4, none⟩ = some (.int .i64 x.u) := fun q => (q.cell (hb)).trans (c4)
        have x5 : ∀ q : Wd wr, q.w.cell? ⟨b, o + k * 7 + 5, none⟩ = some (.bool x.d) := fun q => (q.cell (hb)).trans (c5)
        have x6 : ∀ q : Wd wr, q.w.cell? ⟨b, o + k * 7 + 6, none⟩ = some (.slice va vl vc) := fun q => (q.cell (hb)).trans (c6)
        have hne0 := Wd.ne wr
        have HC0 := hidK (fun q : Wd wr => (snode_any x.n x.z x.c x.s x.u x.d va vl vc x.zs q.w HZx0.out HZx1.out (HTx.out.below q.b)).mono (fun _ _ h => BoolB.no h HOK.out))
        go_wp2_with fail
        refine wp_region_wide (by kernel_rfl) (by kernel_rfl) ?_
        repeat (go_big_quiet_step (first | (go_at_call 77; exact Calls.wide (HC0.out _)) | fail))
        refine wpQuiet_nil ?_
        rintro _ ⟨q, rfl⟩
        have HB1 := hidK (HW.out.trans (q.b.mono HW.out.size))
        have Ck := hidK ((q.b.block _ (lt_of_some Gk.out)).trans Gk.out)
        clear hne0 HW HB HC0 k0 x0 x1 x2 x3 x4 x5 x6 Gk Bk c0 c1 c2 c3 c4 c5 c6 pk
        have HB := HB1
        clear HB1
        have Bk := Ck
        clear Ck
        go_wp2
        go_ret
        exact BoolB.f (fun h => HOK.out (h.1.2.1 k x HXx.out)) HB.out
      have HOK := hidK hok
      clear hok
      by_cases hk0 : 0 < k
      rotate_left
      · have hd : decide ((0 : Int) < k) = false := by simp; omega
        have Gk : Hid (wr.heap[w.heap.size]? = some (.cells #[.slice (some ⟨b, o, none⟩) l1 y1, .slice a2 l2 y2, .slice a3 l3 y3, .slice a4 l4 y4, .slice a5 l5 y5, .int .i64 c.now] 37 (0, 0))) := Bk.out
        have HW := hidK HB.out
        have k0 : ∀ q : Wd wr, q.w.cell? ⟨w.heap.size, 0, none⟩ = some (.slice (some ⟨b, o, none⟩) l1 y1) := fun q => q.slot Gk.out rfl
        have x0 : ∀ q : Wd wr, q.w.cell? ⟨b, o + k * 7, none⟩ = some (.string x.n) := fun q => (q.cell (hb)).trans (c0)
        have x1 : ∀ q : Wd wr, q.w.cell? ⟨b, o + k * 7 + 1, none⟩ = some (.string x.z) := fun q => (q.cell (hb)).trans (c1)
        have x2 : ∀ q : Wd wr, q.w.cell? ⟨b, o + k * 7 + 2, none⟩ = some (.int .i64 x.c) := fun q => (q.cell (hb)).trans (c2)
        have x3 : ∀ q : Wd wr, q.w.cell? ⟨b, o + k * 7 + 3, none⟩ = some (.int .i64 x.s) := fun q => (q.cell (hb)).trans (c3)
        have x4 : ∀ q : Wd wr, q.w.cell? ⟨b, o + k * 7 + 4, none⟩ = some (.int .i64 x.u) := fun q => (q.cell (hb)).trans (c4)
        have x5 : ∀ q : Wd wr, q.w.cell? ⟨b, o + k * 7 + 5, none⟩ = some (.bool x.d) := fun q => (q.cell (hb)).trans (c5)
        have x6 : ∀ q : Wd wr, q.w.cell? ⟨b, o + k * 7 + 6, none⟩ = some (.slice va vl vc) := fun q => (q.cell (hb)).trans (c6)
        have hne0 := Wd.ne wr
        have HC0 := hidK (fun q : Wd wr => (snode_any x.n x.z x.c x.s x.u x.d va vl vc x.zs q.w HZx0.out HZx1.out (HTx.out.below q.b)).mono (fun _ _ h => BoolB.yes h HOK.out))
        go_wp2_with fail
        refine wp_region_wide (by kernel_rfl) (by kernel_rfl) ?_
        repeat (go_big_quiet_step (first | (go_at_call 77; exact Calls.wide (HC0.out _)) | fail))
        refine wpQuiet_nil ?_
        rintro _ ⟨q, rfl⟩
        have HB1 := hidK (HW.out.trans (q.b.mono HW.out.size))
        have Ck := hidK ((q.b.block _ (lt_of_some Gk.out)).trans Gk.out)
        clear hne0 HW HB HC0 k0 x0 x1 x2 x3 x4 x5 x6 Gk Bk c0 c1 c2 c3 c4 c5 c6 pk
        have HB := HB1
        clear HB1
        have Bk := Ck
        clear Ck
        clear hd
        go_wp2_with fail
        refine ⟨⟨k + 1, by omega, by go_num, fun j z hj hz => ?_, fun j z y hj hz hy => ?_, HB.out, Bk.out⟩, by simp [intOf]; omega⟩
        · by_cases e : j = k
          · subst e
            rw [HXx.out] at hz
            obtain rfl := Option.some.inj hz
            exact HOK.out
          · exact HQ.out j z (by omega) hz
        · by_cases e : j + 1 = k
          · exact absurd hk0 (by omega)
          · exact HO.out j z y (by omega) hz hy
      have hk0' : (0 : Int) < k := by omega
      have ek : ((k : Int) - 1).toNat = k - 1 := by omega
      obtain ⟨b', o', y, e', hb', hy, haty⟩ := nd_at (HR.out.n.below HB.out) (show k - 1 < l1 by omega)
      cases e'
      have y0 : wr.cell? ⟨b, o + (k - 1) * 7, none⟩ = some (.string y.n) := by
        obtain ⟨q, h1, h2⟩ := haty 0 _ rfl
        obtain ⟨rfl, -⟩ := h2
        exact h1
      have HXy := hidK hy
      clear hy haty
      cases hless : Op.bytesLess y.n.toList x.n.toList
      · have Gk : Hid (wr.heap[w.heap.size]? = some (.cells #[.slice (some ⟨b, o, none⟩) l1 y1, .slice a2 l2 y2, .slice a3 l3 y3, .slice a4 l4 y4, .slice a5 l5 y5, .int .i64 c.now] 37 (0, 0))) := Bk.out
        have HW := hidK HB.out
        have k0 : ∀ q : Wd wr, q.w.cell? ⟨w.heap.size, 0, none⟩ = some (.slice (some ⟨b, o, none⟩) l1 y1) := fun q => q.slot Gk.out rfl
        have x0 : ∀ q : Wd wr, q.w.cell? ⟨b, o + k * 7, none⟩ = some (.string x.n) := fun q => (q.cell (hb)).trans (c0)
        have x1 : ∀ q : Wd wr, q.w.cell? ⟨b, o + k * 7 + 1, none⟩ = some (.string x.z) := fun q => (q.cell (hb)).trans (c1)
        have x2 : ∀ q : Wd wr, q.w.cell? ⟨b, o + k * 7 + 2, none⟩ = some (.int .i64 x.c) := fun q => (q.cell (hb)).trans (c2)
        have x3 : ∀ q : Wd wr, q.w.cell? ⟨b, o + k * 7 + 3, none⟩ = some (.int .i64 x.s) := fun q => (q.cell (hb)).trans (c3)
        have x4 : ∀ q : Wd wr, q.w.cell? ⟨b, o + k * 7 + 4, none⟩ = some (.int .i64 x.u) := fun q => (q.cell (hb)).trans (c4)
        have x5 : ∀ q : Wd wr, q.w.cell? ⟨b, o + k * 7 + 5, none⟩ = some (.bool x.d) := fun q => (q.cell (hb)).trans (c5)
        have x6 : ∀ q : Wd wr, q.w.cell? ⟨b, o + k * 7 + 6, none⟩ = some (.slice va vl vc) := fun q => (q.cell (hb)).trans (c6)
        have yw : ∀ q : Wd wr, q.w.cell? ⟨b, o + (k - 1) * 7, none⟩ = some (.string y.n) := fun q => (q.cell (hb)).trans (y0)
        have hne0 := Wd.ne wr
        have HC0 := hidK (fun q : Wd wr => (snode_any x.n x.z x.c x.s x.u x.d va vl vc x.zs q.w HZx0.out HZx1.out (HTx.out.below q.b)).mono (fun _ _ h => BoolB.yes h HOK.out))
        go_wp2_with fail
        refine wp_region_wide (by kernel_rfl) (by kernel_rfl) ?_
        repeat (go_big_quiet_step (first | (go_at_call 77; exact Calls.wide (HC0.out _)) | fail))
        refine wpQuiet_nil ?_
        rintro _ ⟨q, rfl⟩
        have HB1 := hidK (HW.out.trans (q.b.mono HW.out.size))
        have Ck := hidK ((q.b.block _ (lt_of_some Gk.out)).trans Gk.out)
        clear hne0 HW HB HC0 k0 x0 x1 x2 x3 x4 x5 x6 yw Gk Bk c0 c1 c2 c3 c4 c5 c6 pk y0
        have HB := HB1
        clear HB1
        have Bk := Ck
        clear Ck
        go_wp2
        go_ret
        refine BoolB.f (fun h => ?_) HB.out
        have h3 := h.1.2.2 (k - 1) x y (by rw [Nat.sub_add_cancel hk0]; exact HXx.out) HXy.out
        rw [hless] at h3
        cases h3
      · have Gk : Hid (wr.heap[w.heap.size]? = some (.cells #[.slice (some ⟨b, o, none⟩) l1 y1, .slice a2 l2 y2, .slice a3 l3 y3, .slice a4 l4 y4, .slice a5 l5 y5, .int .i64 c.now] 37 (0, 0))) := Bk.out
        have HW := hidK HB.out
        have k0 : ∀ q : Wd wr, q.w.cell? ⟨w.heap.size, 0, none⟩ = some (.slice (some ⟨b, o, none⟩) l1 y1) := fun q => q.slot Gk.out rfl
        have x0 : ∀ q : Wd wr, q.w.cell? ⟨b, o + k * 7, none⟩ = some (.string x.n) := fun q => (q.cell (hb)).trans (c0)
        have x1 : ∀ q : Wd wr, q.w.cell? ⟨b, o + k * 7 + 1, none⟩ = some (.string x.z) := fun q => (q.cell (hb)).trans (c1)
        have x2 : ∀ q : Wd wr, q.w.cell? ⟨b, o + k * 7 + 2, none⟩ = some (.int .i64 x.c) := fun q => (q.cell (hb)).trans (c2)
        have x3 : ∀ q : Wd wr, q.w.cell? ⟨b, o + k * 7 + 3, none⟩ = some (.int .i64 x.s) := fun q => (q.cell (hb)).trans (c3)
        have x4 : ∀ q : Wd wr, q.w.cell? ⟨b, o + k * 7 + 4, none⟩ = some (.int .i64 x.u) := fun q => (q.cell (hb)).trans (c4)
        have x5 : ∀ q : Wd wr, q.w.cell? ⟨b, o + k * 7 + 5, none⟩ = some (.bool x.d) := fun q => (q.cell (hb)).trans (c5)
        have x6 : ∀ q : Wd wr, q.w.cell? ⟨b, o + k * 7 + 6, none⟩ = some (.slice va vl vc) := fun q => (q.cell (hb)).trans (c6)
        have yw : ∀ q : Wd wr, q.w.cell? ⟨b, o + (k - 1) * 7, none⟩ = some (.string y.n) := fun q => (q.cell (hb)).trans (y0)
        have hne0 := Wd.ne wr
        have HC0 := hidK (fun q : Wd wr => (snode_any x.n x.z x.c x.s x.u x.d va vl vc x.zs q.w HZx0.out HZx1.out (HTx.out.below q.b)).mono (fun _ _ h => BoolB.yes h HOK.out))
        go_wp2_with fail
        refine wp_region_wide (by kernel_rfl) (by kernel_rfl) ?_
        repeat (go_big_quiet_step (first | (go_at_call 77; exact Calls.wide (HC0.out _)) | fail))
        refine wpQuiet_nil ?_
        rintro _ ⟨q, rfl⟩
        have HB1 := hidK (HW.out.trans (q.b.mono HW.out.size))
        have Ck := hidK ((q.b.block _ (lt_of_some Gk.out)).trans Gk.out)
        clear hne0 HW HB HC0 k0 x0 x1 x2 x3 x4 x5 x6 yw Gk Bk c0 c1 c2 c3 c4 c5 c6 pk y0
        have HB := HB1
        clear HB1
        have Bk := Ck
        clear Ck
        clear hk0' ek
        go_wp2_with fail
        refine ⟨⟨k + 1, by omega, by go_num, fun j z hj hz => ?_, fun j z y hj hz hy => ?_, HB.out, Bk.out⟩, by simp [intOf]; omega⟩
        · by_cases e : j = k
          · subst e
            rw [HXx.out] at hz
            obtain rfl := Option.some.inj hz
            exact HOK.out
          · exact HQ.out j z (by omega) hz
        · by_cases e : j + 1 = k
          · have hj : j = k - 1 := by omega
            subst hj
            rw [Nat.sub_add_cancel hk0, HXx.out] at hz
            obtain rfl := Option.some.inj hz
            rw [HXy.out] at hy
            obtain rfl := Option.some.inj hy
            exact hless
          · exact HO.out j z y (by omega) hz hy
    · obtain rfl : l1 = k := by omega
      have HR1 : Hid (RowOk ndOk Nd.n c.ns 6) := ⟨by omega, fun j z hz => HQ.out j z (by have := (List.getElem?_eq_some_iff.1 hz).1; omega) hz, fun j z u hz hu => HO.out j z u (by have := (List.getElem?_eq_some_iff.1 hz).1; omega) hz hu⟩
      clear HQ HO
      skip
      have kc : wr.cell? ⟨w.heap.size, 1, none⟩ = some (.slice a2 l2 y2) := cellK Bk.out 1
      go_wp2
      go_loopw [4] (fun i wr => ∃ k : Nat, k ≤ l2 ∧ i = .int .i64 k ∧ Hid (∀ (j : Nat) z, j < k → c.ks[j]? = some z → kdOk z) ∧ Hid (∀ (j : Nat) z u, j + 1 < k → c.ks[j + 1]? = some z → c.ks[j]? = some u → Op.bytesLess u.n.toList z.n.toList = true) ∧ Hid (Below w.heap.size w wr) ∧ Hid (wr.heap[w.heap.size]? = some (.cells #[.slice a1 l1 y1, .slice a2 l2 y2, .slice a3 l3 y3, .slice a4 l4 y4, .slice a5 l5 y5, .int .i64 c.now] 37 (0, 0)))) (fun i _ => l2 - (intOf i).toNat)
      case atStart => exact ⟨0, by omega, rfl, fun _ _ h => absurd h (by omega), fun _ _ _ h => absurd h (by omega), HB.out, Bk.out⟩
      case round =>
        obtain ⟨k, hk, rfl, HQ, HO, HB, Bk⟩ := hrel
        have pk : wr.cell? ⟨w.heap.size, 1, none⟩ = some (.slice a2 l2 y2) := cellK Bk.out 1
        by_cases hlt : k < l2
        · obtain ⟨b, o, x, rfl, hb, hx, hat⟩ := kd_at (HR.out.k.below HB.out) hlt
          obtain ⟨z0, z3, c0, c1, c2, c3⟩ := kd_cells hat
          have HXx := hidK hx
          have HZx0 := hidK z0
          have HZx3 := hidK z3
          clear hat hx z0 z3
          by_cases hok : kdOk x
          rotate_left
          · have HOK := hidK hok
            clear hok
            have Gk : Hid (wr.heap[w.heap.size]? = some (.cells #[.slice a1 l1 y1, .slice (some ⟨b, o, none⟩) l2 y2, .slice a3 l3 y3, .slice a4 l4 y4, .slice a5 l5 y5, .int .i64 c.now] 37 (0, 0))) := Bk.out
            have HW := hidK HB.out
            have k1 : ∀ q : Wd wr, q.w.cell? ⟨w.heap.size, 1, none⟩ = some (.slice (some ⟨b, o, none⟩) l2 y2) := fun q => q.slot Gk.out rfl
            have x0 : ∀ q : Wd wr, q.w.cell? ⟨b, o + k * 4, none⟩ = some (.string x.n) := fun q => (q.cell (hb)).trans (c0)
            have x1 : ∀ q : Wd wr, q.w.cell? ⟨b, o + k * 4 + 1, none⟩ = some (.bool x.x) := fun q => (q.cell (hb)).trans (c1)
            have x2 : ∀ q : Wd wr, q.w.cell? ⟨b, o + k * 4 + 2, none⟩ = some (.bool x.y) := fun q => (q.cell (hb)).trans (c2)
            have x3 : ∀ q : Wd wr, q.w.cell? ⟨b, o + k * 4 + 3, none⟩ = some (.string x.z) := fun q => (q.cell (hb)).trans (c3)
            have hne0 := Wd.ne wr
            have HC0 := hidK (fun q : Wd wr => (sclass_any x.n x.z x.x x.y q.w HZx0.out HZx3.out).mono (fun _ _ h => BoolB.no h HOK.out))
            go_wp2_with fail
            refine wp_region_wide (by kernel_rfl) (by kernel_rfl) ?_
            repeat (go_big_quiet_step (first | (go_at_call 93; exact Calls.wide (HC0.out _)) | fail))
            refine wpQuiet_nil ?_
            rintro _ ⟨q, rfl⟩
            have HB1 := hidK (HW.out.trans (q.b.mono HW.out.size))
            have Ck := hidK ((q.b.block _ (lt_of_some Gk.out)).trans Gk.out)
            clear hne0 HW HB HC0 k1 x0 x1 x2 x3 Gk Bk c0 c1 c2 c3 pk
            have HB := HB1
            clear HB1
            have Bk := Ck
            clear Ck
            go_wp2
            go_ret
            exact BoolB.f (fun h => HOK.out (h.2.1.2.1 k x HXx.out)) HB.out
          have HOK := hidK hok
          clear hok
          by_cases hk0 : 0 < k
          rotate_left
          · have hd : decide ((0 : Int) < k) = false := by simp; omega
            have Gk : Hid (wr.heap[w.heap.size]? = some (.cells #[.slice a1 l1 y1, .slice (some ⟨b, o, none⟩) l2 y2, .slice a3 l3 y3, .slice a4 l4 y4, .slice a5 l5 y5, .int .i64 c.now] 37 (0, 0))) := Bk.out
            have HW := hidK HB.out
            have k1 : ∀ q : Wd wr, q.w.cell? ⟨w.heap.size, 1, none⟩ = some (.slice (some ⟨b, o, none⟩) l2 y2) := fun q => q.slot Gk.out rfl
            have x0 : ∀ q : Wd wr, q.w.cell? ⟨b, o + k * 4, none⟩ = some (.string x.n) := fun q => (q.cell (hb)).trans (c0)
            have x1 : ∀ q : Wd wr, q.w.cell? ⟨b, o + k * 4 + 1, none⟩ = some (.bool x.x) := fun q => (q.cell (hb)).trans (c1)
            have x2 : ∀ q : Wd wr, q.w.cell? ⟨b, o + k * 4 + 2, none⟩ = some (.bool x.y) := fun q => (q.cell (hb)).trans (c2)
            have x3 : ∀ q : Wd wr, q.w.cell? ⟨b, o + k * 4 + 3, none⟩ = some (.string x.z) := fun q => (q.cell (hb)).trans (c3)
            have hne0 := Wd.ne wr
            have HC0 := hidK (fun q : Wd wr => (sclass_any x.n x.z x.x x.y q.w HZx0.out HZx3.out).mono (fun _ _ h => BoolB.yes h HOK.out))
            go_wp2_with fail
            refine wp_region_wide (by kernel_rfl) (by kernel_rfl) ?_
            repeat (go_big_quiet_step (first | (go_at_call 93; exact Calls.wide (HC0.out _)) | fail))
            refine wpQuiet_nil ?_
            rintro _ ⟨q, rfl⟩
            have HB1 := hidK (HW.out.trans (q.b.mono HW.out.size))
            have Ck := hidK ((q.b.block _ (lt_of_some Gk.out)).trans Gk.out)
            clear hne0 HW HB HC0 k1 x0 x1 x2 x3 Gk Bk c0 c1 c2 c3 pk
            have HB := HB1
            clear HB1
            have Bk := Ck
            clear Ck
            clear hd
            go_wp2_with fail
            refine ⟨⟨k + 1, by omega, by go_num, fun j z hj hz => ?_, fun j z y hj hz hy => ?_, HB.out, Bk.out⟩, by simp [intOf]; omega⟩
            · by_cases e : j = k
              · subst e
                rw [HXx.out] at hz
                obtain rfl := Option.some.inj hz
                exact HOK.out
              · exact HQ.out j z (by omega) hz
            · by_cases e : j + 1 = k
              · exact absurd hk0 (by omega)
              · exact HO.out j z y (by omega) hz hy
          have hk0' : (0 : Int) < k := by omega
          have ek : ((k : Int) - 1).toNat = k - 1 := by omega
          obtain ⟨b', o', y, e', hb', hy, haty⟩ := kd_at (HR.out.k.below HB.out) (show k - 1 < l2 by omega)
          cases e'
          have y0 : wr.cell? ⟨b, o + (k - 1) * 4, none⟩ = some (.string y.n) := by
            obtain ⟨q, h1, h2⟩ := haty 0 _ rfl
            obtain ⟨rfl, -⟩ := h2
            exact h1
          have HXy := hidK hy
          clear hy haty
          cases hless : Op.bytesLess y.n.toList x.n.toList
          · have Gk : Hid (wr.heap[w.heap.size]? = some (.cells #[.slice a1 l1 y1, .slice (some ⟨b, o, none⟩) l2 y2, .slice a3 l3 y3, .slice a4 l4 y4, .slice a5 l5 y5, .int .i64 c.now] 37 (0, 0))) := Bk.out
            have HW := hidK HB.out
            have k1 : ∀ q : Wd wr, q.w.cell? ⟨w.heap.size, 1, none⟩ = some (.slice (some ⟨b, o, none⟩) l2 y2) := fun q => q.slot Gk.out rfl
            have x0 : ∀ q : Wd wr, q.w.cell? ⟨b, o + k * 4, none⟩ = some (.string x.n) := fun q => (q.cell (hb)).trans (c0)
            have x1 : ∀ q : Wd wr, q.w.cell? ⟨b, o + k * 4 + 1, none⟩ = some (.bool x.x) := fun q => (q.cell (hb)).trans (c1)
            have x2 : ∀ q : Wd wr, q.w.cell? ⟨b, o + k * 4 + 2, none⟩ = some (.bool x.y) := fun q => (q.cell (hb)).trans (c2)
            have x3 : ∀ q : Wd wr, q.w.cell? ⟨b, o + k * 4 + 3, none⟩ = some (.string x.z) := fun q => (q.cell (hb)).trans (c3)
            have yw : ∀ q : Wd wr, q.w.cell? ⟨b, o + (k - 1) * 4, none⟩ = some (.string y.n) := fun q => (q.cell (hb)).trans (y0)
            have hne0 := Wd.ne wr
            have HC0 := hidK (fun q : Wd wr => (sclass_any x.n x.z x.x x.y q.w HZx0.out HZx3.out).mono (fun _ _ h => BoolB.yes h HOK.out))
            go_wp2_with fail
            refine wp_region_wide (by kernel_rfl) (by kernel_rfl) ?_
            repeat (go_big_quiet_step (first | (go_at_call 93; exact Calls.wide (HC0.out _)) | fail))
            refine wpQuiet_nil ?_
            rintro _ ⟨q, rfl⟩
            have HB1 := hidK (HW.out.trans (q.b.mono HW.out.size))
            have Ck := hidK ((q.b.block _ (lt_of_some Gk.out)).trans Gk.out)
            clear hne0 HW HB HC0 k1 x0 x1 x2 x3 yw Gk Bk c0 c1 c2 c3 pk y0
            have HB := HB1
            clear HB1
            have Bk := Ck
            clear Ck
            go_wp2
            go_ret
            refine BoolB.f (fun h => ?_) HB.out
            have h3 := h.2.1.2.2 (k - 1) x y (by rw [Nat.sub_add_cancel hk0]; exact HXx.out) HXy.out
            rw [hless] at h3
            cases h3
          · have Gk : Hid (wr.heap[w.heap.size]? = some (.cells #[.slice a1 l1 y1, .slice (some ⟨b, o, none⟩) l2 y2, .slice a3 l3 y3, .slice a4 l4 y4, .slice a5 l5 y5, .int .i64 c.now] 37 (0, 0))) := Bk.out
            have HW := hidK HB.out
            have k1 : ∀ q : Wd wr, q.w.cell? ⟨w.heap.size, 1, none⟩ = some (.slice (some ⟨b, o, none⟩) l2 y2) := fun q => q.slot Gk.out rfl
            have x0 : ∀ q : Wd wr, q.w.cell? ⟨b, o + k * 4, none⟩ = some (.string x.n) := fun q => (q.cell (hb)).trans (c0)
            have x1 : ∀ q : Wd wr, q.w.cell? ⟨b, o + k * 4 + 1, none⟩ = some (.bool x.x) := fun q => (q.cell (hb)).trans (c1)
            have x2 : ∀ q : Wd wr, q.w.cell? ⟨b, o + k * 4 + 2, none⟩ = some (.bool x.y) := fun q => (q.cell (hb)).trans (c2)
            have x3 : ∀ q : Wd wr, q.w.cell? ⟨b, o + k * 4 + 3, none⟩ = some (.string x.z) := fun q => (q.cell (hb)).trans (c3)
            have yw : ∀ q : Wd wr, q.w.cell? ⟨b, o + (k - 1) * 4, none⟩ = some (.string y.n) := fun q => (q.cell (hb)).trans (y0)
            have hne0 := Wd.ne wr
            have HC0 := hidK (fun q : Wd wr => (sclass_any x.n x.z x.x x.y q.w HZx0.out HZx3.out).mono (fun _ _ h => BoolB.yes h HOK.out))
            go_wp2_with fail
            refine wp_region_wide (by kernel_rfl) (by kernel_rfl) ?_
            repeat (go_big_quiet_step (first | (go_at_call 93; exact Calls.wide (HC0.out _)) | fail))
            refine wpQuiet_nil ?_
            rintro _ ⟨q, rfl⟩
            have HB1 := hidK (HW.out.trans (q.b.mono HW.out.size))
            have Ck := hidK ((q.b.block _ (lt_of_some Gk.out)).trans Gk.out)
            clear hne0 HW HB HC0 k1 x0 x1 x2 x3 yw Gk Bk c0 c1 c2 c3 pk y0
            have HB := HB1
            clear HB1
            have Bk := Ck
            clear Ck
            clear hk0' ek
            go_wp2_with fail
            refine ⟨⟨k + 1, by omega, by go_num, fun j z hj hz => ?_, fun j z y hj hz hy => ?_, HB.out, Bk.out⟩, by simp [intOf]; omega⟩
            · by_cases e : j = k
              · subst e
                rw [HXx.out] at hz
                obtain rfl := Option.some.inj hz
                exact HOK.out
              · exact HQ.out j z (by omega) hz
            · by_cases e : j + 1 = k
              · have hj : j = k - 1 := by omega
                subst hj
                rw [Nat.sub_add_cancel hk0, HXx.out] at hz
                obtain rfl := Option.some.inj hz
                rw [HXy.out] at hy
                obtain rfl := Option.some.inj hy
                exact hless
              · exact HO.out j z y (by omega) hz hy
        · obtain rfl : l2 = k := by omega
          have HR2 : Hid (RowOk kdOk Kd.n c.ks 8) := ⟨by omega, fun j z hz => HQ.out j z (by have := (List.getElem?_eq_some_iff.1 hz).1; omega) hz, fun j z u hz hu => HO.out j z u (by have := (List.getElem?_eq_some_iff.1 hz).1; omega) hz hu⟩
          clear HQ HO
          skip
          have kc : wr.cell? ⟨w.heap.size, 2, none⟩ = some (.slice a3 l3 y3) := cellK Bk.out 2
          go_wp2
          go_loopw [5] (fun i wr => ∃ k : Nat, k ≤ l3 ∧ i = .int .i64 k ∧ Hid (∀ (j : Nat) z, j < k → c.vs[j]? = some z → vdOk z) ∧ Hid (∀ (j : Nat) z u, j + 1 < k → c.vs[j + 1]? = some z → c.vs[j]? = some u → Op.bytesLess u.n.toList z.n.toList = true) ∧ Hid (Below w.heap.size w wr) ∧ Hid (wr.heap[w.heap.size]? = some (.cells #[.slice a1 l1 y1, .slice a2 l2 y2, .slice a3 l3 y3, .slice a4 l4 y4, .slice a5 l5 y5, .int .i64 c.now] 37 (0, 0)))) (fun i _ => l3 - (intOf i).toNat)
          case atStart => exact ⟨0, by omega, rfl, fun _ _ h => absurd h (by omega), fun _ _ _ h => absurd h (by omega), HB.out, Bk.out⟩
          case round =>
            obtain ⟨k, hk, rfl, HQ, HO, HB, Bk⟩ := hrel
            have pk : wr.cell? ⟨w.heap.size, 2, none⟩ = some (.slice a3 l3 y3) := cellK Bk.out 2
            by_cases hlt : k < l3
            · obtain ⟨b, o, x, rfl, hb, hx, hat⟩ := vd_at (HR.out.v.below HB.out) hlt
              obtain ⟨va, vl, vc, hvr, z0, z2, z3, z5, c0, c1, c2, c3, c4, c5, c6, c7⟩ := vd_cells hat
              have HXx := hidK hx
              have HTx := hidK hvr
              have HZx0 := hidK z0
              have HZx2 := hidK z2
              have HZx3 := hidK z3
              have HZx5 := hidK z5
              clear hat hx z0 z2 z3 z5 hvr
              by_cases hok : vdOk x
              rotate_left
              · have HOK := hidK hok
                clear hok
                have Gk : Hid (wr.heap[w.heap.size]? = some (.cells #[.slice a1 l1 y1, .slice a2 l2 y2, .slice (some ⟨b, o, none⟩) l3 y3, .slice a4 l4 y4, .slice a5 l5 y5, .int .i64 c.now] 37 (0, 0))) := Bk.out
                have HW := hidK HB.out
                have k2 : ∀ q : Wd wr, q.w.cell? ⟨w.heap.size, 2, none⟩ = some (.slice (some ⟨b, o, none⟩) l3 y3) := fun q => q.slot Gk.out rfl
                have x0 : ∀ q : Wd wr, q.w.cell? ⟨b, o + k * 8, none⟩ = some (.string x.n) := fun q => (q.cell (hb)).trans (c0)
                have x1 : ∀ q : Wd wr, q.w.cell? ⟨b, o + k * 8 + 1, none⟩ = some (.int .i64 x.c) := fun q => (q.cell (hb)).trans (c1)
                have x2 : ∀ q : Wd wr, q.w.cell? ⟨b, o + k * 8 + 2, none⟩ = some (.string x.z) := fun q => (q.cell (hb)).trans (c2)
                have x3 : ∀ q : Wd wr, q.w.cell? ⟨b, o + k * 8 + 3, none⟩ = some (.string x.k) := fun q => (q.cell (hb)).trans (c3)
                have x4 : ∀ q : Wd wr, q.w.cell? ⟨b, o + k * 8 + 4, none⟩ = some (.bool x.x) := fun q => (q.cell (hb)).trans (c4)
                have x5 : ∀ q : Wd wr, q.w.cell? ⟨b, o + k * 8 + 5, none⟩ = some (.string x.m) := fun q => (q.cell (hb)).trans (c5)
                have x6 : ∀ q : Wd wr, q.w.cell? ⟨b, o + k * 8 + 6, none⟩ = some (.bool x.y) := fun q => (q.cell (hb)).trans (c6)
                have x7 : ∀ q : Wd wr, q.w.cell? ⟨b, o + k * 8 + 7, none⟩ = some (.slice va vl vc) := fun q => (q.cell (hb)).trans (c7)
                have hne0 := Wd.ne wr
                have HC0 := hidK (fun q : Wd wr => (svol_any x.n x.c x.z x.k x.x x.m x.y va vl vc x.zs q.w HZx0.out HZx2.out HZx3.out HZx5.out (HTx.out.below q.b)).mono (fun _ _ h => BoolB.no h HOK.out))
                go_wp2_with fail
                refine wp_region_wide (by kernel_rfl) (by kernel_rfl) ?_
                repeat (go_big_quiet_step (first | (go_at_call 99; exact Calls.wide (HC0.out _)) | fail))
                refine wpQuiet_nil ?_
                rintro _ ⟨q, rfl⟩
                have HB1 := hidK (HW.out.trans (q.b.mono HW.out.size))
                have Ck := hidK ((q.b.block _ (lt_of_some Gk.out)).trans Gk.out)
                clear hne0 HW HB HC0 k2 x0 x1 x2 x3 x4 x5 x6 x7 Gk Bk c0 c1 c2 c3 c4 c5 c6 c7 pk
                have HB := HB1
                clear HB1
                have Bk := Ck
                clear Ck
                go_wp2
                go_ret
                exact BoolB.f (fun h => HOK.out (h.2.2.1.2.1 k x HXx.out)) HB.out
              have HOK := hidK hok
              clear hok
              by_cases hk0 : 0 < k
              rotate_left
              · have hd : decide ((0 : Int) < k) = false := by simp; omega
                have Gk : Hid (wr.heap[w.heap.size]? = some (.cells #[.slice a1 l1 y1, .slice a2 l2 y2, .slice (some ⟨b, o, none⟩) l3 y3, .slice a4 l4 y4, .slice a5 l5 y5, .int .i64 c.now] 37 (0, 0))) := Bk.out
                have HW := hidK HB.out
                have k2 : ∀ q : Wd wr, q.w.cell? ⟨w.heap.size, 2, none⟩ = some (.slice (some ⟨b, o, none⟩) l3 y3) := fun q => q.slot Gk.out rfl
                have x0 : ∀ q : Wd wr, q.w.cell? ⟨b, o + k * 8, none⟩ = some (.string x.n) := fun q => (q.cell (hb)).trans (c0)
                have x1 : ∀ q : Wd wr, q.w.cell? ⟨b, o + k * 8 + 1, none⟩ = some (.int .i64 x.c) := fun q => (q.cell (hb)).trans (c1)
                have x2 : ∀ q : Wd wr, q.w.cell? ⟨b, o + k * 8 + 2, none⟩ = some (.string x.z) := fun q => (q.cell (hb)).trans (c2)
                have x3 : ∀ q : Wd wr, q.w.cell? ⟨b, o + k * 8 + 3, none⟩ = some (.string x.k) := fun q => (q.cell (hb)).trans (c3)
                have x4 : ∀ q : Wd wr, q.w.cell? ⟨b, o + k * 8 + 4, none⟩ = some (.bool x.x) := fun q => (q.cell (hb)).trans (c4)
                have x5 : ∀ q : Wd wr, q.w.cell? ⟨b, o + k * 8 + 5, none⟩ = some (.string x.m) := fun q => (q.cell (hb)).trans (c5)
                have x6 : ∀ q : Wd wr, q.w.cell? ⟨b, o + k * 8 + 6, none⟩ = some (.bool x.y) := fun q => (q.cell (hb)).trans (c6)
                have x7 : ∀ q : Wd wr, q.w.cell? ⟨b, o + k * 8 + 7, none⟩ = some (.slice va vl vc) := fun q => (q.cell (hb)).trans (c7)
                have hne0 := Wd.ne wr
                have HC0 := hidK (fun q : Wd wr => (svol_any x.n x.c x.z x.k x.x x.m x.y va vl vc x.zs q.w HZx0.out HZx2.out HZx3.out HZx5.out (HTx.out.below q.b)).mono (fun _ _ h => BoolB.yes h HOK.out))
                go_wp2_with fail
                refine wp_region_wide (by kernel_rfl) (by kernel_rfl) ?_
                repeat (go_big_quiet_step (first | (go_at_call 99; exact Calls.wide (HC0.out _)) | fail))
                refine wpQuiet_nil ?_
                rintro _ ⟨q, rfl⟩
                have HB1 := hidK (HW.out.trans (q.b.mono HW.out.size))
                have Ck := hidK ((q.b.block _ (lt_of_some Gk.out)).trans Gk.out)
                clear hne0 HW HB HC0 k2 x0 x1 x2 x3 x4 x5 x6 x7 Gk Bk c0 c1 c2 c3 c4 c5 c6 c7 pk
                have HB := HB1
                clear HB1
                have Bk := Ck
                clear Ck
                clear hd
                go_wp2_with fail
                refine ⟨⟨k + 1, by omega, by go_num, fun j z hj hz => ?_, fun j z y hj hz hy => ?_, HB.out, Bk.out⟩, by simp [intOf]; omega⟩
                · by_cases e : j = k
                  · subst e
                    rw [HXx.out] at hz
                    obtain rfl := Option.some.inj hz
                    exact HOK.out
                  · exact HQ.out j z (by omega) hz
                · by_cases e : j + 1 = k
                  · exact absurd hk0 (by omega)
                  · exact HO.out j z y (by omega) hz hy
              have hk0' : (0 : Int) < k := by omega
              have ek : ((k : Int) - 1).toNat = k - 1 := by omega
              obtain ⟨b', o', y, e', hb', hy, haty⟩ := vd_at (HR.out.v.below HB.out) (show k - 1 < l3 by omega)
              cases e'
              have y0 : wr.cell? ⟨b, o + (k - 1) * 8, none⟩ = some (.string y.n) := by
                obtain ⟨q, h1, h2⟩ := haty 0 _ rfl
                obtain ⟨rfl, -⟩ := h2
                exact h1
              have HXy := hidK hy
              clear hy haty
              cases hless : Op.bytesLess y.n.toList x.n.toList
              · have Gk : Hid (wr.heap[w.heap.size]? = some (.cells #[.slice a1 l1 y1, .slice a2 l2 y2, .slice (some ⟨b, o, none⟩) l3 y3, .slice a4 l4 y4, .slice a5 l5 y5, .int .i64 c.now] 37 (0, 0))) := Bk.out
                have HW := hidK HB.out
                have k2 : ∀ q : Wd wr, q.w.cell? ⟨w.heap.size, 2, none⟩ = some (.slice (some ⟨b, o, none⟩) l3 y3) := fun q => q.slot Gk.out rfl
                have x0 : ∀ q : Wd wr, q.w.cell? ⟨b, o + k * 8, none⟩ = some (.string x.n) := fun q => (q.cell (hb)).trans (c0)
                have x1 : ∀ q : Wd wr, q.w.cell? ⟨b, o + k * 8 + 1, none⟩ = some (.int .i64 x.c) := fun q => (q.cell (hb)).trans (c1)
                have x2 : ∀ q : Wd wr, q.w.cell? ⟨b, o + k * 8 + 2, none⟩ = some (.string x.z) := fun q => (q.cell (hb)).trans (c2)
                have x3 : ∀ q : Wd wr, q.w.cell? ⟨b, o + k * 8 + 3, none⟩ = some (.string x.k) := fun q => (q.cell (hb)).trans (c3)
                have x4 : ∀ q : Wd wr, q.w.cell? ⟨b, o + k * 8 + 4, none⟩ = some (.bool x.x) := fun q => (q.cell (hb)).trans (c4)
                have x5 : ∀ q : Wd wr, q.w.cell? ⟨b, o + k * 8 + 5, none⟩ = some (.string x.m) := fun q => (q.cell (hb)).trans (c5)
                have x6 : ∀ q : Wd wr, q.w.cell? ⟨b, o + k * 8 + 6, none⟩ = some (.bool x.y) := fun q => (q.cell (hb)).trans (c6)
                have x7 : ∀ q : Wd wr, q.w.cell? ⟨b, o + k * 8 + 7, none⟩ = some (.slice va vl vc) := fun q => (q.cell (hb)).trans (c7)
                have yw : ∀ q : Wd wr, q.w.cell? ⟨b, o + (k - 1) * 8, none⟩ = some (.string y.n) := fun q => (q.cell (hb)).trans (y0)
                have hne0 := Wd.ne wr
                have HC0 := hidK (fun q : Wd wr => (svol_any x.n x.c x.z x.k x.x x.m x.y va vl vc x.zs q.w HZx0.out HZx2.out HZx3.out HZx5.out (HTx.out.below q.b)).mono (fun _ _ h => BoolB.yes h HOK.out))
                go_wp2_with fail
                refine wp_region_wide (by kernel_rfl) (by kernel_rfl) ?_
                repeat (go_big_quiet_step (first | (go_at_call 99; exact Calls.wide (HC0.out _)) | fail))
                refine wpQuiet_nil ?_
                rintro _ ⟨q, rfl⟩
                have HB1 := hidK (HW.out.trans (q.b.mono HW.out.size))
                have Ck := hidK ((q.b.block _ (lt_of_some Gk.out)).trans Gk.out)
                clear hne0 HW HB HC0 k2 x0 x1 x2 x3 x4 x5 x6 x7 yw Gk Bk c0 c1 c2 c3 c4 c5 c6 c7 pk y0
                have HB := HB1
                clear HB1
                have Bk := Ck
                clear Ck
                go_wp2
                go_ret
                refine BoolB.f (fun h => ?_) HB.out
                have h3 := h.2.2.1.2.2 (k - 1) x y (by rw [Nat.sub_add_cancel hk0]; exact HXx.out) HXy.out
                rw [hless] at h3
                cases h3
              · have Gk : Hid (wr.heap[w.heap.size]? = some (.cells #[.slice a1 l1 y1, .slice a2 l2 y2, .slice (some ⟨b, o, none⟩) l3 y3, .slice a4 l4 y4, .slice a5 l5 y5, .int .i64 c.now] 37 (0, 0))) := Bk.out
                have HW := hidK HB.out
                have k2 : ∀ q : Wd wr, q.w.cell? ⟨w.heap.size, 2, none⟩ = some (.slice (some ⟨b, o, none⟩) l3 y3) := fun q => q.slot Gk.out rfl
                have x0 : ∀ q : Wd wr, q.w.cell? ⟨b, o + k * 8, none⟩ = some (.string x.n) := fun q => (q.cell (hb)).trans (c0)
                have x1 : ∀ q : Wd wr, q.w.cell? ⟨b, o + k * 8 + 1, none⟩ = some (.int .i64 x.c) := fun q => (q.cell (hb)).trans (c1)
                have x2 : ∀ q : Wd wr, q.w.cell? ⟨b, o + k * 8 + 2, none⟩ = some (.string x.z) := fun q => (q.cell (hb)).trans (c2)
                have x3 : ∀ q : Wd wr, q.w.cell? ⟨b, o + k * 8 + 3, none⟩ = some (.string x.k) := fun q => (q.cell (hb)).trans (c3)
                have x4 : ∀ q : Wd wr, q.w.cell? ⟨b, o + k * 8 + 4, none⟩ = some (.bool x.x) := fun q => (q.cell (hb)).trans (c4)
                have x5 : ∀ q : Wd wr, q.w.cell? ⟨b, o + k * 8 + 5, none⟩ = some (.string x.m) := fun q => (q.cell (hb)).trans (c5)
                have x6 : ∀ q : Wd wr, q.w.cell? ⟨b, o + k * 8 + 6, none⟩ = some (.bool x.y) := fun q => (q.cell (hb)).trans (c6)
                have x7 : ∀ q : Wd wr, q.w.cell? ⟨b, o + k * 8 + 7, none⟩ = some (.slice va vl vc) := fun q => (q.cell (hb)).trans (c7)
                have yw : ∀ q : Wd wr, q.w.cell? ⟨b, o + (k - 1) * 8, none⟩ = some (.string y.n) := fun q => (q.cell (hb)).trans (y0)
                have hne0 := Wd.ne wr
                have HC0 := hidK (fun q : Wd wr => (svol_any x.n x.c x.z x.k x.x x.m x.y va vl vc x.zs q.w HZx0.out HZx2.out HZx3.out HZx5.out (HTx.out.below q.b)).mono (fun _ _ h => BoolB.yes h HOK.out))
                go_wp2_with fail
                refine wp_region_wide (by kernel_rfl) (by kernel_rfl) ?_
                repeat (go_big_quiet_step (first | (go_at_call 99; exact Calls.wide (HC0.out _)) | fail))
                refine wpQuiet_nil ?_
                rintro _ ⟨q, rfl⟩
                have HB1 := hidK (HW.out.trans (q.b.mono HW.out.size))
                have Ck := hidK ((q.b.block _ (lt_of_some Gk.out)).trans Gk.out)
                clear hne0 HW HB HC0 k2 x0 x1 x2 x3 x4 x5 x6 x7 yw Gk Bk c0 c1 c2 c3 c4 c5 c6 c7 pk y0
                have HB := HB1
                clear HB1
                have Bk := Ck
                clear Ck
                clear hk0' ek
                go_wp2_with fail
                refine ⟨⟨k + 1, by omega, by go_num, fun j z hj hz => ?_, fun j z y hj hz hy => ?_, HB.out, Bk.out⟩, by simp [intOf]; omega⟩
                · by_cases e : j = k
                  · subst e
                    rw [HXx.out] at hz
                    obtain rfl := Option.some.inj hz
                    exact HOK.out
                  · exact HQ.out j z (by omega) hz
                · by_cases e : j + 1 = k
                  · have hj : j = k - 1 := by omega
                    subst hj
                    rw [Nat.sub_add_cancel hk0, HXx.out] at hz
                    obtain rfl := Option.some.inj hz
                    rw [HXy.out] at hy
                    obtain rfl := Option.some.inj hy
                    exact hless
                  · exact HO.out j z y (by omega) hz hy
            · obtain rfl : l3 = k := by omega
              have HR3 : Hid (RowOk vdOk Vd.n c.vs 8) := ⟨by omega, fun j z hz => HQ.out j z (by have := (List.getElem?_eq_some_iff.1 hz).1; omega) hz, fun j z u hz hu => HO.out j z u (by have := (List.getElem?_eq_some_iff.1 hz).1; omega) hz hu⟩
              clear HQ HO
              skip
              have kc : wr.cell? ⟨w.heap.size, 3, none⟩ = some (.slice a4 l4 y4) := cellK Bk.out 3
              go_wp2
              go_loopw [6] (fun i wr => ∃ k : Nat, k ≤ l4 ∧ i = .int .i64 k ∧ Hid (∀ (j : Nat) z, j < k → c.xs[j]? = some z → xdOk z) ∧ Hid (∀ (j : Nat) z u, j + 1 < k → c.xs[j + 1]? = some z → c.xs[j]? = some u → Op.bytesLess u.n.toList z.n.toList = true) ∧ Hid (Below w.heap.size w wr) ∧ Hid (wr.heap[w.heap.size]? = some (.cells #[.slice a1 l1 y1, .slice a2 l2 y2, .slice a3 l3 y3, .slice a4 l4 y4, .slice a5 l5 y5, .int .i64 c.now] 37 (0, 0)))) (fun i _ => l4 - (intOf i).toNat)
              case atStart => exact ⟨0, by omega, rfl, fun _ _ h => absurd h (by omega), fun _ _ _ h => absurd h (by omega), HB.out, Bk.out⟩
              case round =>
                obtain ⟨k, hk, rfl, HQ, HO, HB, Bk⟩ := hrel
                have pk : wr.cell? ⟨w.heap.size, 3, none⟩ = some (.slice a4 l4 y4) := cellK Bk.out 3
                by_cases hlt : k < l4
                · obtain ⟨b, o, x, rfl, hb, hx, hat⟩ := xd_at (HR.out.x.below HB.out) hlt
                  obtain ⟨z0, z2, z4, c0, c1, c2, c3, c4⟩ := xd_cells hat
                  have HXx := hidK hx
                  have HZx0 := hidK z0
                  have HZx2 := hidK z2
                  have HZx4 := hidK z4
                  clear hat hx z0 z2 z4
                  by_cases hok : xdOk x
                  rotate_left
                  · have HOK := hidK hok
                    clear hok
                    have Gk : Hid (wr.heap[w.heap.size]? = some (.cells #[.slice a1 l1 y1, .slice a2 l2 y2, .slice a3 l3 y3, .slice (some ⟨b, o, none⟩) l4 y4, .slice a5 l5 y5, .int .i64 c.now] 37 (0, 0))) := Bk.out
                    have HW := hidK HB.out
                    have k3 : ∀ q : Wd wr, q.w.cell? ⟨w.heap.size, 3, none⟩ = some (.slice (some ⟨b, o, none⟩) l4 y4) := fun q => q.slot Gk.out rfl
                    have x0 : ∀ q : Wd wr, q.w.cell? ⟨b, o + k * 5, none⟩ = some (.string x.n) := fun q => (q.cell (hb)).trans (c0)
                    have x1 : ∀ q : Wd wr, q.w.cell? ⟨b, o + k * 5 + 1, none⟩ = some (.int .i64 x.z) := fun q => (q.cell (hb)).trans (c1)
                    have x2 : ∀ q : Wd wr, q.w.cell? ⟨b, o + k * 5 + 2, none⟩ = some (.string x.k) := fun q => (q.cell (hb)).trans (c2)
                    have x3 : ∀ q : Wd wr, q.w.cell? ⟨b, o + k * 5 + 3, none⟩ = some (.bool x.x) := fun q => (q.cell (hb)).trans (c3)
                    have x4 : ∀ q : Wd wr, q.w.cell? ⟨b, o + k * 5 + 4, none⟩ = some (.string x.v) := fun q => (q.cell (hb)).trans (c4)
                    have hne0 := Wd.ne wr
                    have HC0 := hidK (fun q : Wd wr => (sclaim_any x.n x.z x.k x.x x.v q.w HZx0.out HZx2.out HZx4.out).mono (fun _ _ h => BoolB.no h HOK.out))
                    go_wp2_with fail
                    refine wp_region_wide (by kernel_rfl) (by kernel_rfl) ?_
                    repeat (go_big_quiet_step (first | (go_at_call 112; exact Calls.wide (HC0.out _)) | fail))
                    refine wpQuiet_nil ?_
                    rintro _ ⟨q, rfl⟩
                    have HB1 := hidK (HW.out.trans (q.b.mono HW.out.size))
                    have Ck := hidK ((q.b.block _ (lt_of_some Gk.out)).trans Gk.out)
                    clear hne0 HW HB HC0 k3 x0 x1 x2 x3 x4 Gk Bk c0 c1 c2 c3 c4 pk
                    have HB := HB1
                    clear HB1
                    have Bk := Ck
                    clear Ck
                    go_wp2
                    go_ret
                    exact BoolB.f (fun h => HOK.out (h.2.2.2.1.2.1 k x HXx.out)) HB.out
                  have HOK := hidK hok
                  clear hok
                  by_cases hk0 : 0 < k
                  rotate_left
                  · have hd : decide ((0 : Int) < k) = false := by simp; omega
                    have Gk : Hid (wr.heap[w.heap.size]? = some (.cells #[.slice a1 l1 y1, .slice a2 l2 y2, .slice a3 l3 y3, .slice (some ⟨b, o, none⟩) l4 y4, .slice a5 l5 y5, .int .i64 c.now] 37 (0, 0))) := Bk.out
                    have HW := hidK HB.out
                    have k3 : ∀ q : Wd wr, q.w.cell? ⟨w.heap.size, 3, none⟩ = some (.slice (some ⟨b, o, none⟩) l4 y4) := fun q => q.slot Gk.out rfl
                    have x0 : ∀ q : Wd wr, q.w.cell? ⟨b, o + k * 5, none⟩ = some (.string x.n) := fun q => (q.cell (hb)).trans (c0)
                    have x1 : ∀ q : Wd wr, q.w.cell? ⟨b, o + k * 5 + 1, none⟩ = some (.int .i64 x.z) := fun q => (q.cell (hb)).trans (c1)
                    have x2 : ∀ q : Wd wr, q.w.cell? ⟨b, o + k * 5 + 2, none⟩ = some (.string x.k) := fun q => (q.cell (hb)).trans (c2)
                    have x3 : ∀ q : Wd wr, q.w.cell? ⟨b, o + k * 5 + 3, none⟩ = some (.bool x.x) := fun q => (q.cell (hb)).trans (c3)
                    have x4 : ∀ q : Wd wr, q.w.cell? ⟨b, o + k * 5 + 4, none⟩ = some (.string x.v) := fun q => (q.cell (hb)).trans (c4)
                    have hne0 := Wd.ne wr
                    have HC0 := hidK (fun q : Wd wr => (sclaim_any x.n x.z x.k x.x x.v q.w HZx0.out HZx2.out HZx4.out).mono (fun _ _ h => BoolB.yes h HOK.out))
                    go_wp2_with fail
                    refine wp_region_wide (by kernel_rfl) (by kernel_rfl) ?_
                    repeat (go_big_quiet_step (first | (go_at_call 112; exact Calls.wide (HC0.out _)) | fail))
                    refine wpQuiet_nil ?_
                    rintro _ ⟨q, rfl⟩
                    have HB1 := hidK (HW.out.trans (q.b.mono HW.out.size))
                    have Ck := hidK ((q.b.block _ (lt_of_some Gk.out)).trans Gk.out)
                    clear hne0 HW HB HC0 k3 x0 x1 x2 x3 x4 Gk Bk c0 c1 c2 c3 c4 pk
                    have HB := HB1
                    clear HB1
                    have Bk := Ck
                    clear Ck
                    clear hd
                    go_wp2_with fail
                    refine ⟨⟨k + 1, by omega, by go_num, fun j z hj hz => ?_, fun j z y hj hz hy => ?_, HB.out, Bk.out⟩, by simp [intOf]; omega⟩
                    · by_cases e : j = k
                      · subst e
                        rw [HXx.out] at hz
                        obtain rfl := Option.some.inj hz
                        exact HOK.out
                      · exact HQ.out j z (by omega) hz
                    · by_cases e : j + 1 = k
                      · exact absurd hk0 (by omega)
                      · exact HO.out j z y (by omega) hz hy
                  have hk0' : (0 : Int) < k := by omega
                  have ek : ((k : Int) - 1).toNat = k - 1 := by omega
                  obtain ⟨b', o', y, e', hb', hy, haty⟩ := xd_at (HR.out.x.below HB.out) (show k - 1 < l4 by omega)
                  cases e'
                  have y0 : wr.cell? ⟨b, o + (k - 1) * 5, none⟩ = some (.string y.n) := by
                    obtain ⟨q, h1, h2⟩ := haty 0 _ rfl
                    obtain ⟨rfl, -⟩ := h2
                    exact h1
                  have HXy := hidK hy
                  clear hy haty
                  cases hless : Op.bytesLess y.n.toList x.n.toList
                  · have Gk : Hid (wr.heap[w.heap.size]? = some (.cells #[.slice a1 l1 y1, .slice a2 l2 y2, .slice a3 l3 y3, .slice (some ⟨b, o, none⟩) l4 y4, .slice a5 l5 y5, .int .i64 c.now] 37 (0, 0))) := Bk.out
                    have HW := hidK HB.out
                    have k3 : ∀ q : Wd wr, q.w.cell? ⟨w.heap.size, 3, none⟩ = some (.slice (some ⟨b, o, none⟩) l4 y4) := fun q => q.slot Gk.out rfl
                    have x0 : ∀ q : Wd wr, q.w.cell? ⟨b, o + k * 5, none⟩ = some (.string x.n) := fun q => (q.cell (hb)).trans (c0)
                    have x1 : ∀ q : Wd wr, q.w.cell? ⟨b, o + k * 5 + 1, none⟩ = some (.int .i64 x.z) := fun q => (q.cell (hb)).trans (c1)
                    have x2 : ∀ q : Wd wr, q.w.cell? ⟨b, o + k * 5 + 2, none⟩ = some (.string x.k) := fun q => (q.cell (hb)).trans (c2)
                    have x3 : ∀ q : Wd wr, q.w.cell? ⟨b, o + k * 5 + 3, none⟩ = some (.bool x.x) := fun q => (q.cell (hb)).trans (c3)
                    have x4 : ∀ q : Wd wr, q.w.cell? ⟨b, o + k * 5 + 4, none⟩ = some (.string x.v) := fun q => (q.cell (hb)).trans (c4)
                    have yw : ∀ q : Wd wr, q.w.cell? ⟨b, o + (k - 1) * 5, none⟩ = some (.string y.n) := fun q => (q.cell (hb)).trans (y0)
                    have hne0 := Wd.ne wr
                    have HC0 := hidK (fun q : Wd wr => (sclaim_any x.n x.z x.k x.x x.v q.w HZx0.out HZx2.out HZx4.out).mono (fun _ _ h => BoolB.yes h HOK.out))
                    go_wp2_with fail
                    refine wp_region_wide (by kernel_rfl) (by kernel_rfl) ?_
                    repeat (go_big_quiet_step (first | (go_at_call 112; exact Calls.wide (HC0.out _)) | fail))
                    refine wpQuiet_nil ?_
                    rintro _ ⟨q, rfl⟩
                    have HB1 := hidK (HW.out.trans (q.b.mono HW.out.size))
                    have Ck := hidK ((q.b.block _ (lt_of_some Gk.out)).trans Gk.out)
                    clear hne0 HW HB HC0 k3 x0 x1 x2 x3 x4 yw Gk Bk c0 c1 c2 c3 c4 pk y0
                    have HB := HB1
                    clear HB1
                    have Bk := Ck
                    clear Ck
                    go_wp2
                    go_ret
                    refine BoolB.f (fun h => ?_) HB.out
                    have h3 := h.2.2.2.1.2.2 (k - 1) x y (by rw [Nat.sub_add_cancel hk0]; exact HXx.out) HXy.out
                    rw [hless] at h3
                    cases h3
                  · have Gk : Hid (wr.heap[w.heap.size]? = some (.cells #[.slice a1 l1 y1, .slice a2 l2 y2, .slice a3 l3 y3, .slice (some ⟨b, o, none⟩) l4 y4, .slice a5 l5 y5, .int .i64 c.now] 37 (0, 0))) := Bk.out
                    have HW := hidK HB.out
                    have k3 : ∀ q : Wd wr, q.w.cell? ⟨w.heap.size, 3, none⟩ = some (.slice (some ⟨b, o, none⟩) l4 y4) := fun q => q.slot Gk.out rfl
                    have x0 : ∀ q : Wd wr, q.w.cell? ⟨b, o + k * 5, none⟩ = some (.string x.n) := fun q => (q.cell (hb)).trans (c0)
                    have x1 : ∀ q : Wd wr, q.w.cell? ⟨b, o + k * 5 + 1, none⟩ = some (.int .i64 x.z) := fun q => (q.cell (hb)).trans (c1)
                    have x2 : ∀ q : Wd wr, q.w.cell? ⟨b, o + k * 5 + 2, none⟩ = some (.string x.k) := fun q => (q.cell (hb)).trans (c2)
                    have x3 : ∀ q : Wd wr, q.w.cell? ⟨b, o + k * 5 + 3, none⟩ = some (.bool x.x) := fun q => (q.cell (hb)).trans (c3)
                    have x4 : ∀ q : Wd wr, q.w.cell? ⟨b, o + k * 5 + 4, none⟩ = some (.string x.v) := fun q => (q.cell (hb)).trans (c4)
                    have yw : ∀ q : Wd wr, q.w.cell? ⟨b, o + (k - 1) * 5, none⟩ = some (.string y.n) := fun q => (q.cell (hb)).trans (y0)
                    have hne0 := Wd.ne wr
                    have HC0 := hidK (fun q : Wd wr => (sclaim_any x.n x.z x.k x.x x.v q.w HZx0.out HZx2.out HZx4.out).mono (fun _ _ h => BoolB.yes h HOK.out))
                    go_wp2_with fail
                    refine wp_region_wide (by kernel_rfl) (by kernel_rfl) ?_
                    repeat (go_big_quiet_step (first | (go_at_call 112; exact Calls.wide (HC0.out _)) | fail))
                    refine wpQuiet_nil ?_
                    rintro _ ⟨q, rfl⟩
                    have HB1 := hidK (HW.out.trans (q.b.mono HW.out.size))
                    have Ck := hidK ((q.b.block _ (lt_of_some Gk.out)).trans Gk.out)
                    clear hne0 HW HB HC0 k3 x0 x1 x2 x3 x4 yw Gk Bk c0 c1 c2 c3 c4 pk y0
                    have HB := HB1
                    clear HB1
                    have Bk := Ck
                    clear Ck
                    clear hk0' ek
                    go_wp2_with fail
                    refine ⟨⟨k + 1, by omega, by go_num, fun j z hj hz => ?_, fun j z y hj hz hy => ?_, HB.out, Bk.out⟩, by simp [intOf]; omega⟩
                    · by_cases e : j = k
                      · subst e
                        rw [HXx.out] at hz
                        obtain rfl := Option.some.inj hz
                        exact HOK.out
                      · exact HQ.out j z (by omega) hz
                    · by_cases e : j + 1 = k
                      · have hj : j = k - 1 := by omega
                        subst hj
                        rw [Nat.sub_add_cancel hk0, HXx.out] at hz
                        obtain rfl := Option.some.inj hz
                        rw [HXy.out] at hy
                        obtain rfl := Option.some.inj hy
                        exact hless
                      · exact HO.out j z y (by omega) hz hy
                · obtain rfl : l4 = k := by omega
                  have HR4 : Hid (RowOk xdOk Xd.n c.xs 8) := ⟨by omega, fun j z hz => HQ.out j z (by have := (List.getElem?_eq_some_iff.1 hz).1; omega) hz, fun j z u hz hu => HO.out j z u (by have := (List.getElem?_eq_some_iff.1 hz).1; omega) hz hu⟩
                  clear HQ HO
                  skip
                  have kc : wr.cell? ⟨w.heap.size, 4, none⟩ = some (.slice a5 l5 y5) := cellK Bk.out 4
                  go_wp2
                  go_loopw [7] (fun i wr => ∃ k : Nat, k ≤ l5 ∧ i = .int .i64 k ∧ Hid (∀ (j : Nat) z, j < k → c.ps[j]? = some z → pdOk z) ∧ Hid (∀ (j : Nat) z u, j + 1 < k → c.ps[j + 1]? = some z → c.ps[j]? = some u → Op.bytesLess u.n.toList z.n.toList = true) ∧ Hid (Below w.heap.size w wr) ∧ Hid (wr.heap[w.heap.size]? = some (.cells #[.slice a1 l1 y1, .slice a2 l2 y2, .slice a3 l3 y3, .slice a4 l4 y4, .slice a5 l5 y5, .int .i64 c.now] 37 (0, 0)))) (fun i _ => l5 - (intOf i).toNat)
                  case atStart => exact ⟨0, by omega, rfl, fun _ _ h => absurd h (by omega), fun _ _ _ h => absurd h (by omega), HB.out, Bk.out⟩
                  case round =>
                    obtain ⟨k, hk, rfl, HQ, HO, HB, Bk⟩ := hrel
                    have pk : wr.cell? ⟨w.heap.size, 4, none⟩ = some (.slice a5 l5 y5) := cellK Bk.out 4
                    by_cases hlt : k < l5
                    · obtain ⟨b, o, x, rfl, hb, hx, hat⟩ := pd_at (HR.out.p.below HB.out) hlt
                      obtain ⟨va, vl, vc, hvr, z0, z2, z4, c0, c1, c2, c3, c4, c5⟩ := pd_cells hat
                      have HXx := hidK hx
                      have HTx := hidK hvr
                      have HZx0 := hidK z0
                      have HZx2 := hidK z2
                      have HZx4 := hidK z4
                      clear hat hx z0 z2 z4 hvr
                      by_cases hok : pdOk x
                      rotate_left
                      · have HOK := hidK hok
                        clear hok
                        have Gk : Hid (wr.heap[w.heap.size]? = some (.cells #[.slice a1 l1 y1, .slice a2 l2 y2, .slice a3 l3 y3, .slice a4 l4 y4, .slice (some ⟨b, o, none⟩) l5 y5, .int .i64 c.now] 37 (0, 0))) := Bk.out
                        have HW := hidK HB.out
                        have k4 : ∀ q : Wd wr, q.w.cell? ⟨w.heap.size, 4, none⟩ = some (.slice (some ⟨b, o, none⟩) l5 y5) := fun q => q.slot Gk.out rfl
                        have x0 : ∀ q : Wd wr, q.w.cell? ⟨b, o + k * 6, none⟩ = some (.string x.n) := fun q => (q.cell (hb)).trans (c0)
                        have x1 : ∀ q : Wd wr, q.w.cell? ⟨b, o + k * 6 + 1, none⟩ = some (.int .i64 x.c) := fun q => (q.cell (hb)).trans (c1)
                        have x2 : ∀ q : Wd wr, q.w.cell? ⟨b, o + k * 6 + 2, none⟩ = some (.string x.z) := fun q => (q.cell (hb)).trans (c2)
                        have x3 : ∀ q : Wd wr, q.w.cell? ⟨b, o + k * 6 + 3, none⟩ = some (.slice va vl vc) := fun q => (q.cell (hb)).trans (c3)
                        have x4 : ∀ q : Wd wr, q.w.cell? ⟨b, o + k * 6 + 4, none⟩ = some (.string x.d) := fun q => (q.cell (hb)).trans (c4)
                        have x5 : ∀ q : Wd wr, q.w.cell? ⟨b, o + k * 6 + 5, none⟩ = some (.int .i64 x.p) := fun q => (q.cell (hb)).trans (c5)
                        have hne0 := Wd.ne wr
                        have HC0 := hidK (fun q : Wd wr => (spod_any x.n x.c x.z va vl vc x.zs x.d x.p q.w HZx0.out HZx2.out HZx4.out (HTx.out.below q.b)).mono (fun _ _ h => BoolB.no h HOK.out))
                        go_wp2_with fail
                        refine wp_region_wide (by kernel_rfl) (by kernel_rfl) ?_
                        repeat (go_big_quiet_step (first | (go_at_call 117; exact Calls.wide (HC0.out _)) | fail))
                        refine wpQuiet_nil ?_
                        rintro _ ⟨q, rfl⟩
                        have HB1 := hidK (HW.out.trans (q.b.mono HW.out.size))
                        have Ck := hidK ((q.b.block _ (lt_of_some Gk.out)).trans Gk.out)
                        clear hne0 HW HB HC0 k4 x0 x1 x2 x3 x4 x5 Gk Bk c0 c1 c2 c3 c4 c5 pk
                        have HB := HB1
                        clear HB1
                        have Bk := Ck
                        clear Ck
                        go_wp2
                        go_ret
                        exact BoolB.f (fun h => HOK.out (h.2.2.2.2.2.1 k x HXx.out)) HB.out
                      have HOK := hidK hok
                      clear hok
                      by_cases hk0 : 0 < k
                      rotate_left
                      · have hd : decide ((0 : Int) < k) = false := by simp; omega
                        have Gk : Hid (wr.heap[w.heap.size]? = some (.cells #[.slice a1 l1 y1, .slice a2 l2 y2, .slice a3 l3 y3, .slice a4 l4 y4, .slice (some ⟨b, o, none⟩) l5 y5, .int .i64 c.now] 37 (0, 0))) := Bk.out
                        have HW := hidK HB.out
                        have k4 : ∀ q : Wd wr, q.w.cell? ⟨w.heap.size, 4, none⟩ = some (.slice (some ⟨b, o, none⟩) l5 y5) := fun q => q.slot Gk.out rfl
                        have x0 : ∀ q : Wd wr, q.w.cell? ⟨b, o + k * 6, none⟩ = some (.string x.n) := fun q => (q.cell (hb)).trans (c0)
                        have x1 : ∀ q : Wd wr, q.w.cell? ⟨b, o + k * 6 + 1, none⟩ = some (.int .i64 x.c) := fun q => (q.cell (hb)).trans (c1)
                        have x2 : ∀ q : Wd wr, q.w.cell? ⟨b, o + k * 6 + 2, none⟩ = some (.string x.z) := fun q => (q.cell (hb)).trans (c2)
                        have x3 : ∀ q : Wd wr, q.w.cell? ⟨b, o + k * 6 + 3, none⟩ = some (.slice va vl vc) := fun q => (q.cell (hb)).trans (c3)
                        have x4 : ∀ q : Wd wr, q.w.cell? ⟨b, o + k * 6 + 4, none⟩ = some (.string x.d) := fun q => (q.cell (hb)).trans (c4)
                        have x5 : ∀ q : Wd wr, q.w.cell? ⟨b, o + k * 6 + 5, none⟩ = some (.int .i64 x.p) := fun q => (q.cell (hb)).trans (c5)
                        have hne0 := Wd.ne wr
                        have HC0 := hidK (fun q : Wd wr => (spod_any x.n x.c x.z va vl vc x.zs x.d x.p q.w HZx0.out HZx2.out HZx4.out (HTx.out.below q.b)).mono (fun _ _ h => BoolB.yes h HOK.out))
                        go_wp2_with fail
                        refine wp_region_wide (by kernel_rfl) (by kernel_rfl) ?_
                        repeat (go_big_quiet_step (first | (go_at_call 117; exact Calls.wide (HC0.out _)) | fail))
                        refine wpQuiet_nil ?_
                        rintro _ ⟨q, rfl⟩
                        have HB1 := hidK (HW.out.trans (q.b.mono HW.out.size))
                        have Ck := hidK ((q.b.block _ (lt_of_some Gk.out)).trans Gk.out)
                        clear hne0 HW HB HC0 k4 x0 x1 x2 x3 x4 x5 Gk Bk c0 c1 c2 c3 c4 c5 pk
                        have HB := HB1
                        clear HB1
                        have Bk := Ck
                        clear Ck
                        clear hd
                        go_wp2_with fail
                        refine ⟨⟨k + 1, by omega, by go_num, fun j z hj hz => ?_, fun j z y hj hz hy => ?_, HB.out, Bk.out⟩, by simp [intOf]; omega⟩
                        · by_cases e : j = k
                          · subst e
                            rw [HXx.out] at hz
                            obtain rfl := Option.some.inj hz
                            exact HOK.out
                          · exact HQ.out j z (by omega) hz
                        · by_cases e : j + 1 = k
                          · exact absurd hk0 (by omega)
                          · exact HO.out j z y (by omega) hz hy
                      have hk0' : (0 : Int) < k := by omega
                      have ek : ((k : Int) - 1).toNat = k - 1 := by omega
                      obtain ⟨b', o', y, e', hb', hy, haty⟩ := pd_at (HR.out.p.below HB.out) (show k - 1 < l5 by omega)
                      cases e'
                      have y0 : wr.cell? ⟨b, o + (k - 1) * 6, none⟩ = some (.string y.n) := by
                        obtain ⟨q, h1, h2⟩ := haty 0 _ rfl
                        obtain ⟨rfl, -⟩ := h2
                        exact h1
                      have HXy := hidK hy
                      clear hy haty
                      cases hless : Op.bytesLess y.n.toList x.n.toList
                      · have Gk : Hid (wr.heap[w.heap.size]? = some (.cells #[.slice a1 l1 y1, .slice a2 l2 y2, .slice a3 l3 y3, .slice a4 l4 y4, .slice (some ⟨b, o, none⟩) l5 y5, .int .i64 c.now] 37 (0, 0))) := Bk.out
                        have HW := hidK HB.out
                        have k4 : ∀ q : Wd wr, q.w.cell? ⟨w.heap.size, 4, none⟩ = some (.slice (some ⟨b, o, none⟩) l5 y5) := fun q => q.slot Gk.out rfl
                        have x0 : ∀ q : Wd wr, q.w.cell? ⟨b, o + k * 6, none⟩ = some (.string x.n) := fun q => (q.cell (hb)).trans (c0)
                        have x1 : ∀ q : Wd wr, q.w.cell? ⟨b, o + k * 6 + 1, none⟩ = some (.int .i64 x.c) := fun q => (q.cell (hb)).trans (c1)
                        have x2 : ∀ q : Wd wr, q.w.cell? ⟨b, o + k * 6 + 2, none⟩ = some (.string x.z) := fun q => (q.cell (hb)).trans (c2)
                        have x3 : ∀ q : Wd wr, q.w.cell? ⟨b, o + k * 6 + 3, none⟩ = some (.slice va vl vc) := fun q => (q.cell (hb)).trans (c3)
                        have x4 : ∀ q : Wd wr, q.w.cell? ⟨b, o + k * 6 + 4, none⟩ = some (.string x.d) := fun q => (q.cell (hb)).trans (c4)
                        have x5 : ∀ q : Wd wr, q.w.cell? ⟨b, o + k * 6 + 5, none⟩ = some (.int .i64 x.p) := fun q => (q.cell (hb)).trans (c5)
                        have yw : ∀ q : Wd wr, q.w.cell? ⟨b, o + (k - 1) * 6, none⟩ = some (.string y.n) := fun q => (q.cell (hb)).trans (y0)
                        have hne0 := Wd.ne wr
                        have HC0 := hidK (fun q : Wd wr => (spod_any x.n x.c x.z va vl vc x.zs x.d x.p q.w HZx0.out HZx2.out HZx4.out (HTx.out.below q.b)).mono (fun _ _ h => BoolB.yes h HOK.out))
                        go_wp2_with fail
                        refine wp_region_wide (by kernel_rfl) (by kernel_rfl) ?_
                        repeat (go_big_quiet_step (first | (go_at_call 117; exact Calls.wide (HC0.out _)) | fail))
                        refine wpQuiet_nil ?_
                        rintro _ ⟨q, rfl⟩
                        have HB1 := hidK (HW.out.trans (q.b.mono HW.out.size))
                        have Ck := hidK ((q.b.block _ (lt_of_some Gk.out)).trans Gk.out)
                        clear hne0 HW HB HC0 k4 x0 x1 x2 x3 x4 x5 yw Gk Bk c0 c1 c2 c3 c4 c5 pk y0
                        have HB := HB1
                        clear HB1
                        have Bk := Ck
                        clear Ck
                        go_wp2
                        go_ret
                        refine BoolB.f (fun h => ?_) HB.out
                        have h3 := h.2.2.2.2.2.2 (k - 1) x y (by rw [Nat.sub_add_cancel hk0]; exact HXx.out) HXy.out
                        rw [hless] at h3
                        cases h3
                      · have Gk : Hid (wr.heap[w.heap.size]? = some (.cells #[.slice a1 l1 y1, .slice a2 l2 y2, .slice a3 l3 y3, .slice a4 l4 y4, .slice (some ⟨b, o, none⟩) l5 y5, .int .i64 c.now] 37 (0, 0))) := Bk.out
                        have HW := hidK HB.out
                        have k4 : ∀ q : Wd wr, q.w.cell? ⟨w.heap.size, 4, none⟩ = some (.slice (some ⟨b, o, none⟩) l5 y5) := fun q => q.slot Gk.out rfl
                        have x0 : ∀ q : Wd wr, q.w.cell? ⟨b, o + k * 6, none⟩ = some (.string x.n) := fun q => (q.cell (hb)).trans (c0)
                        have x1 : ∀ q : Wd wr, q.w.cell? ⟨b, o + k * 6 + 1, none⟩ = some (.int .i64 x.c) := fun q => (q.cell (hb)).trans (c1)
                        have x2 : ∀ q : Wd wr, q.w.cell? ⟨b, o + k * 6 + 2, none⟩ = some (.string x.z) := fun q => (q.cell (hb)).trans (c2)
                        have x3 : ∀ q : Wd wr, q.w.cell? ⟨b, o + k * 6 + 3, none⟩ = some (.slice va vl vc) := fun q => (q.cell (hb)).trans (c3)
                        have x4 : ∀ q : Wd wr, q.w.cell? ⟨b, o + k * 6 + 4, none⟩ = some (.string x.d) := fun q => (q.cell (hb)).trans (c4)
                        have x5 : ∀ q : Wd wr, q.w.cell? ⟨b, o + k * 6 + 5, none⟩ = some (.int .i64 x.p) := fun q => (q.cell (hb)).trans (c5)
                        have yw : ∀ q : Wd wr, q.w.cell? ⟨b, o + (k - 1) * 6, none⟩ = some (.string y.n) := fun q => (q.cell (hb)).trans (y0)
                        have hne0 := Wd.ne wr
                        have HC0 := hidK (fun q : Wd wr => (spod_any x.n x.c x.z va vl vc x.zs x.d x.p q.w HZx0.out HZx2.out HZx4.out (HTx.out.below q.b)).mono (fun _ _ h => BoolB.yes h HOK.out))
                        go_wp2_with fail
                        refine wp_region_wide (by kernel_rfl) (by kernel_rfl) ?_
                        repeat (go_big_quiet_step (first | (go_at_call 117; exact Calls.wide (HC0.out _)) | fail))
                        refine wpQuiet_nil ?_
                        rintro _ ⟨q, rfl⟩
                        have HB1 := hidK (HW.out.trans (q.b.mono HW.out.size))
                        have Ck := hidK ((q.b.block _ (lt_of_some Gk.out)).trans Gk.out)
                        clear hne0 HW HB HC0 k4 x0 x1 x2 x3 x4 x5 yw Gk Bk c0 c1 c2 c3 c4 c5 pk y0
                        have HB := HB1
                        clear HB1
                        have Bk := Ck
                        clear Ck
                        clear hk0' ek
                        go_wp2_with fail
                        refine ⟨⟨k + 1, by omega, by go_num, fun j z hj hz => ?_, fun j z y hj hz hy => ?_, HB.out, Bk.out⟩, by simp [intOf]; omega⟩
                        · by_cases e : j = k
                          · subst e
                            rw [HXx.out] at hz
                            obtain rfl := Option.some.inj hz
                            exact HOK.out
                          · exact HQ.out j z (by omega) hz
                        · by_cases e : j + 1 = k
                          · have hj : j = k - 1 := by omega
                            subst hj
                            rw [Nat.sub_add_cancel hk0, HXx.out] at hz
                            obtain rfl := Option.some.inj hz
                            rw [HXy.out] at hy
                            obtain rfl := Option.some.inj hy
                            exact hless
                          · exact HO.out j z y (by omega) hz hy
                    · obtain rfl : l5 = k := by omega
                      have HR5 : Hid (RowOk pdOk Pd.n c.ps 8) := ⟨by omega, fun j z hz => HQ.out j z (by have := (List.getElem?_eq_some_iff.1 hz).1; omega) hz, fun j z u hz hu => HO.out j z u (by have := (List.getElem?_eq_some_iff.1 hz).1; omega) hz hu⟩
                      clear HQ HO
                      go_wp2
                      go_ret
                      exact BoolB.t ⟨HR1.out, HR2.out, HR3.out, HR4.out, HR5.out⟩ HB.out

end Rc
end Go.Proofs.YtcljghpfclegmaaGreatDoor
