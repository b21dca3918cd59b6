import Derived.Test.YtfapjochclhfpaaGreatDoorB2
/-
  Whether all things are right and rise by their names, as the specification asks it.
-/
namespace Go.Proofs.YtfapjochclhfpaaGreatDoor
open Go.RowKit
namespace Rc
open Mk

set_option maxRecDepth 100000 in
set_option maxHeartbeats 12800000 in
theorem seach_any (d : Ad) (c : Cl) (w : World) (hr : ClRow w d c.raw) :
    Calls Tryz.prog 72 #[.agg #[.slice d.a1 d.l1 d.c1, .slice d.a2 d.l2 d.c2, .slice d.a3 d.l3 d.c3, .slice d.a4 d.l4 d.c4, .slice d.a5 d.l5 d.c5, .int .i64 c.now]] w (BoolB (RowsOk c) w) := by
  obtain ⟨a1, l1, y1, a2, l2, y2, a3, l3, y3, a4, l4, y4, a5, l5, y5⟩ := d
  dsimp only
  have HR := hidK hr
  have hl1 : c.ns.length = l1 := by simpa using (show (c.ns.map ndF).length = l1 from hr.n.1)
  have hm1 : l1 ≤ 9223372036854775807 := Nat.le_trans hr.n.2.1 hr.n.2.2.1
  have hl2 : c.ks.length = l2 := by simpa using (show (c.ks.map kdF).length = l2 from hr.k.1)
  have hm2 : l2 ≤ 9223372036854775807 := Nat.le_trans hr.k.2.1 hr.k.2.2.1
  have hl3 : c.vs.length = l3 := by simpa using (show (c.vs.map vdF).length = l3 from hr.v.1)
  have hm3 : l3 ≤ 9223372036854775807 := Nat.le_trans hr.v.2.1 hr.v.2.2.1
  have hl4 : c.xs.length = l4 := by simpa using (show (c.xs.map xdF).length = l4 from hr.x.1)
  have hm4 : l4 ≤ 9223372036854775807 := Nat.le_trans hr.x.2.1 hr.x.2.2.1
  have hl5 : c.ps.length = l5 := by simpa using (show (c.ps.map pdF).length = l5 from hr.p.1)
  have hm5 : l5 ≤ 9223372036854775807 := Nat.le_trans hr.p.2.1 hr.p.2.2.1
  clear hr
  by_cases hL1 : (6 : Int) < l1
  · go_enter Tryz.func72, Tryz.ntmps72
    go_wp2
    go_ret
    exact BoolB.f (fun h => by have := h.1.1; omega) (below1 _ _)
  by_cases hL2 : (8 : Int) < l2
  · go_enter Tryz.func72, Tryz.ntmps72
    go_wp2
    go_ret
    exact BoolB.f (fun h => by have := h.2.1.1; omega) (below1 _ _)
  by_cases hL3 : (8 : Int) < l3
  · go_enter Tryz.func72, Tryz.ntmps72
    go_wp2
    go_ret
    exact BoolB.f (fun h => by have := h.2.2.1.1; omega) (below1 _ _)
  by_cases hL4 : (8 : Int) < l4
  · go_enter Tryz.func72, Tryz.ntmps72
    go_wp2
    go_ret
    exact BoolB.f (fun h => by have := h.2.2.2.1.1; omega) (below1 _ _)
  by_cases hL5 : (8 : Int) < l5
  · go_enter Tryz.func72, Tryz.ntmps72
    go_wp2
    go_ret
    exact BoolB.f (fun h => by have := h.2.2.2.2.1; omega) (below1 _ _)
  go_enter Tryz.func72, Tryz.ntmps72
  go_wp2
  go_loopw [3] (fun i wr => ∃ k : Nat, k ≤ l1 ∧ i = .int .i64 k ∧ Hid (∀ (j : Nat) z, j < k → c.ns[j]? = some z → ndOk z) ∧ Hid (∀ (j : Nat) z u, j + 1 < k → c.ns[j + 1]? = some z → c.ns[j]? = some u → Op.bytesLess u.n.toList z.n.toList = true) ∧ Hid (Below w.heap.size w wr) ∧ Hid (wr.heap[w.heap.size]? = some (.cells #[.slice a1 l1 y1, .slice a2 l2 y2, .slice a3 l3 y3, .slice a4 l4 y4, .slice a5 l5 y5, .int .i64 c.now] 39 (0, 0)))) (fun i _ => l1 - (intOf i).toNat)
  case atStart => exact ⟨0, by omega, rfl, fun _ _ h => absurd h (by omega), fun _ _ _ h => absurd h (by omega), below1 _ _, Array.getElem?_push_size⟩
  case round =>
    obtain ⟨k, hk, rfl, HQ, HO, HB, Bk⟩ := hrel
    have pk : wr.cell? ⟨w.heap.size, 0, none⟩ = some (.slice a1 l1 y1) := cellK Bk.out 0
    by_cases hlt : k < l1
    · obtain ⟨b, o, x, rfl, hb, hx, hat⟩ := nd_at (HR.out.n.below HB.out) hlt
      obtain ⟨va, vl, vc, hvr, z0, z1, c0, c1, c2, c3, c4, c5, c6⟩ := nd_cells hat
      have HXx := hidK hx
      have HTx := hidK hvr
      have HZx0 := hidK z0
      have HZx1 := hidK z1
      clear hat hx z0 z1 hvr
      by_cases hok : ndOk x
      rotate_left
      · have HOK := hidK hok
        clear hok
        have Gk : Hid (wr.heap[w.heap.size]? = some (.cells #[.slice (some ⟨b, o, none⟩) l1 y1, .slice a2 l2 y2, .slice a3 l3 y3, .slice a4 l4 y4, .slice a5 l5 y5, .int .i64 c.now] 39 (0, 0))) := Bk.out
        have HW : Hid (Below w.heap.size w wr) := HB.out
        have k0 := fun q : Wd wr => q.slot (o := 0) Gk.out rfl
        have x0 : ∀ q : Wd wr, q.w.cell? ⟨b, o + k * 7, none⟩ = some (.string x.n) := fun q => (q.cell (hb)).trans (c0)
        have x1 : ∀ q : Wd wr, q.w.cell? ⟨b, o + k * 7 + 1, none⟩ = some (.string x.z) := fun q => (q.cell (hb)).trans (c1)
        have x2 : ∀ q : Wd wr, q.w.cell? ⟨b, o + k * 7 + 2, none⟩ = some (.int .i64 x.c) := fun q => (q.cell (hb)).trans (c2)
        have x3 : ∀ q : Wd wr, q.w.cell? ⟨b, o + k * 7 + 3, none⟩ = some (.int .i64 x.s) := fun q => (q.cell (hb)).trans (c3)
        have x4 : ∀ q : Wd wr, q.w.cell? ⟨b, o + k * 7 + 4, none⟩ = some (.int .i64 x.u) := fun q => (q.cell (hb)).trans (c4)
        have x5 : ∀ q : Wd wr, q.w.cell? ⟨b, o + k * 7 + 5, none⟩ = some (.bool x.d) := fun q => (q.cell (hb)).trans (c5)
        have x6 : ∀ q : Wd wr, q.w.cell? ⟨b, o + k * 7 + 6, none⟩ = some (.slice va vl vc) := fun q => (q.cell (hb)).trans (c6)
        have hne0 := Wd.ne wr
        have HC0 := hidK (fun q : Wd wr => (snode_any x.n x.z x.c x.s x.u x.d va vl vc x.zs q.w HZx0.out HZx1.out (HTx.out.below q.b)).mono (fun _ _ h => BoolB.no h HOK.out))
        go_wp2_with fail
        refine wp_region_wide (by kernel_rfl) (by kernel_rfl) ?_
        repeat (go_big_quiet_step (first | (go_at_call 122; exact Calls.wide (HC0.out _)) | fail))
        refine wpQuiet_nil ?_
        rintro _ ⟨q, rfl⟩
        have HB1 := upB HW q.b
        have Ck := upK Gk q.b
        clear hne0 HW HB HC0 k0 x0 x1 x2 x3 x4 x5 x6 Gk Bk c0 c1 c2 c3 c4 c5 c6 pk
        have HB := HB1
        clear HB1
        have Bk := Ck
        clear Ck
        go_wp2
        go_ret
        exact BoolB.f (fun h => HOK.out (h.1.2.1 k x HXx.out)) HB.out
      have HOK := hidK hok
      clear hok
      by_cases hk0 : 0 < k
      rotate_left
      · have hd : decide ((0 : Int) < k) = false := by simp; omega
        have Gk : Hid (wr.heap[w.heap.size]? = some (.cells #[.slice (some ⟨b, o, none⟩) l1 y1, .slice a2 l2 y2, .slice a3 l3 y3, .slice a4 l4 y4, .slice a5 l5 y5, .int .i64 c.now] 39 (0, 0))) := Bk.out
        have HW : Hid (Below w.heap.size w wr) := HB.out
        have k0 := fun q : Wd wr => q.slot (o := 0) Gk.out rfl
        have x0 : ∀ q : Wd wr, q.w.cell? ⟨b, o + k * 7, none⟩ = some (.string x.n) := fun q => (q.cell (hb)).trans (c0)
        have x1 : ∀ q : Wd wr, q.w.cell? ⟨b, o + k * 7 + 1, none⟩ = some (.string x.z) := fun q => (q.cell (hb)).trans (c1)
        have x2 : ∀ q : Wd wr, q.w.cell? ⟨b, o + k * 7 + 2, none⟩ = some (.int .i64 x.c) := fun q => (q.cell (hb)).trans (c2)
        have x3 : ∀ q : Wd wr, q.w.cell? ⟨b, o + k * 7 + 3, none⟩ = some (.int .i64 x.s) := fun q => (q.cell (hb)).trans (c3)
        have x4 : ∀ q : Wd wr, q.w.cell? ⟨b, o + k * 7 + 4, none⟩ = some (.int .i64 x.u) := fun q => (q.cell (hb)).trans (c4)
        have x5 : ∀ q : Wd wr, q.w.cell? ⟨b, o + k * 7 + 5, none⟩ = some (.bool x.d) := fun q => (q.cell (hb)).trans (c5)
        have x6 : ∀ q : Wd wr, q.w.cell? ⟨b, o + k * 7 + 6, none⟩ = some (.slice va vl vc) := fun q => (q.cell (hb)).trans (c6)
        have hne0 := Wd.ne wr
        have HC0 := hidK (fun q : Wd wr => (snode_any x.n x.z x.c x.s x.u x.d va vl vc x.zs q.w HZx0.out HZx1.out (HTx.out.below q.b)).mono (fun _ _ h => BoolB.yes h HOK.out))
        go_wp2_with fail
        refine wp_region_wide (by kernel_rfl) (by kernel_rfl) ?_
        repeat (go_big_quiet_step (first | (go_at_call 122; exact Calls.wide (HC0.out _)) | fail))
        refine wpQuiet_nil ?_
        rintro _ ⟨q, rfl⟩
        have HB1 := upB HW q.b
        have Ck := upK Gk q.b
        clear hne0 HW HB HC0 k0 x0 x1 x2 x3 x4 x5 x6 Gk Bk c0 c1 c2 c3 c4 c5 c6 pk
        have HB := HB1
        clear HB1
        have Bk := Ck
        clear Ck
        clear hd
        go_wp2_with fail
        refine ⟨⟨k + 1, by omega, by go_num, fun j z hj hz => ?_, fun j z y hj hz hy => ?_, HB.out, Bk.out⟩, by simp [intOf]; omega⟩
        · by_cases e : j = k
          · subst e
            rw [HXx.out] at hz
            obtain rfl := Option.some.inj hz
            exact HOK.out
          · exact HQ.out j z (by omega) hz
        · by_cases e : j + 1 = k
          · exact absurd hk0 (by omega)
          · exact HO.out j z y (by omega) hz hy
      have hk0' : (0 : Int) < k := by omega
      have ek : ((k : Int) - 1).toNat = k - 1 := by omega
      obtain ⟨b', o', y, e', hb', hy, haty⟩ := nd_at (HR.out.n.below HB.out) (show k - 1 < l1 by omega)
      cases e'
      have y0 : wr.cell? ⟨b, o + (k - 1) * 7, none⟩ = some (.string y.n) := by
        obtain ⟨q, h1, h2⟩ := haty 0 _ rfl
        obtain ⟨rfl, -⟩ := h2
        exact h1
      have HXy := hidK hy
      clear hy haty
      cases hless : Op.bytesLess y.n.toList x.n.toList
      · have Gk : Hid (wr.heap[w.heap.size]? = some (.cells #[.slice (some ⟨b, o, none⟩) l1 y1, .slice a2 l2 y2, .slice a3 l3 y3, .slice a4 l4 y4, .slice a5 l5 y5, .int .i64 c.now] 39 (0, 0))) := Bk.out
        have HW : Hid (Below w.heap.size w wr) := HB.out
        have k0 := fun q : Wd wr => q.slot (o := 0) Gk.out rfl
        have x0 : ∀ q : Wd wr, q.w.cell? ⟨b, o + k * 7, none⟩ = some (.string x.n) := fun q => (q.cell (hb)).trans (c0)
        have x1 : ∀ q : Wd wr, q.w.cell? ⟨b, o + k * 7 + 1, none⟩ = some (.string x.z) := fun q => (q.cell (hb)).trans (c1)
        have x2 : ∀ q : Wd wr, q.w.cell? ⟨b, o + k * 7 + 2, none⟩ = some (.int .i64 x.c) := fun q => (q.cell (hb)).trans (c2)
        have x3 : ∀ q : Wd wr, q.w.cell? ⟨b, o + k * 7 + 3, none⟩ = some (.int .i64 x.s) := fun q => (q.cell (hb)).trans (c3)
        have x4 : ∀ q : Wd wr, q.w.cell? ⟨b, o + k * 7 + 4, none⟩ = some (.int .i64 x.u) := fun q => (q.cell (hb)).trans (c4)
        have x5 : ∀ q : Wd wr, q.w.cell? ⟨b, o + k * 7 + 5, none⟩ = some (.bool x.d) := fun q => (q.cell (hb)).trans (c5)
        have x6 : ∀ q : Wd wr, q.w.cell? ⟨b, o + k * 7 + 6, none⟩ = some (.slice va vl vc) := fun q => (q.cell (hb)).trans (c6)
        have yw : ∀ q : Wd wr, q.w.cell? ⟨b, o + (k - 1) * 7, none⟩ = some (.string y.n) := fun q => (q.cell (hb)).trans (y0)
        have hne0 := Wd.ne wr
        have HC0 := hidK (fun q : Wd wr => (snode_any x.n x.z x.c x.s x.u x.d va vl vc x.zs q.w HZx0.out HZx1.out (HTx.out.below q.b)).mono (fun _ _ h => BoolB.yes h HOK.out))
        go_wp2_with fail
        refine wp_region_wide (by kernel_rfl) (by kernel_rfl) ?_
        repeat (go_big_quiet_step (first | (go_at_call 122; exact Calls.wide (HC0.out _)) | fail))
        refine wpQuiet_nil ?_
        rintro _ ⟨q, rfl⟩
        have HB1 := upB HW q.b
        have Ck := upK Gk q.b
        clear hne0 HW HB HC0 k0 x0 x1 x2 x3 x4 x5 x6 yw Gk Bk c0 c1 c2 c3 c4 c5 c6 pk y0
        have HB := HB1
        clear HB1
        have Bk := Ck
        clear Ck
        go_wp2
        go_ret
        refine BoolB.f (fun h => ?_) HB.out
        have h3 := h.1.2.2 (k - 1) x y (by rw [Nat.sub_add_cancel hk0]; exact HXx.out) HXy.out
        rw [hless] at h3
        cases h3
      · have Gk : Hid (wr.heap[w.heap.size]? = some (.cells #[.slice (some ⟨b, o, none⟩) l1 y1, .slice a2 l2 y2, .slice a3 l3 y3, .slice a4 l4 y4, .slice a5 l5 y5, .int .i64 c.now] 39 (0, 0))) := Bk.out
        have HW : Hid (Below w.heap.size w wr) := HB.out
        have k0 := fun q : Wd wr => q.slot (o := 0) Gk.out rfl
        have x0 : ∀ q : Wd wr, q.w.cell? ⟨b, o + k * 7, none⟩ = some (.string x.n) := fun q => (q.cell (hb)).trans (c0)
        have x1 : ∀ q : Wd wr, q.w.cell? ⟨b, o + k * 7 + 1, none⟩ = some (.string x.z) := fun q => (q.cell (hb)).trans (c1)
        have x2 : ∀ q : Wd wr, q.w.cell? ⟨b, o + k * 7 + 2, none⟩ = some (.int .i64 x.c) := fun q => (q.cell (hb)).trans (c2)
        have x3 : ∀ q : Wd wr, q.w.cell? ⟨b, o + k * 7 + 3, none⟩ = some (.int .i64 x.s) := fun q => (q.cell (hb)).trans (c3)
        have x4 : ∀ q : Wd wr, q.w.cell? ⟨b, o + k * 7 + 4, none⟩ = some (.int .i64 x.u) := fun q => (q.cell (hb)).trans (c4)
        have x5 : ∀ q : Wd wr, q.w.cell? ⟨b, o + k * 7 + 5, none⟩ = some (.bool x.d) := fun q => (q.cell (hb)).trans (c5)
        have x6 : ∀ q : Wd wr, q.w.cell? ⟨b, o + k * 7 + 6, none⟩ = some (.slice va vl vc) := fun q => (q.cell (hb)).trans (c6)
        have yw : ∀ q : Wd wr, q.w.cell? ⟨b, o + (k - 1) * 7, none⟩ = some (.string y.n) := fun q => (q.cell (hb)).trans (y0)
        have hne0 := Wd.ne wr
        have HC0 := hidK (fun q : Wd wr => (snode_any x.n x.z x.c x.s x.u x.d va vl vc x.zs q.w HZx0.out HZx1.out (HTx.out.below q.b)).mono (fun _ _ h => BoolB.yes h HOK.out))
        go_wp2_with fail
        refine wp_region_wide (by kernel_rfl) (by kernel_rfl) ?_
        repeat (go_big_quiet_step (first | (go_at_call 122; exact Calls.wide (HC0.out _)) | fail))
        refine wpQuiet_nil ?_
        rintro _ ⟨q, rfl⟩
        have HB1 := upB HW q.b
        have Ck := upK Gk q.b
        clear hne0 HW HB HC0 k0 x0 x1 x2 x3 x4 x5 x6 yw Gk Bk c0 c1 c2 c3 c4 c5 c6 pk y0
        have HB := HB1
        clear HB1
        have Bk := Ck
        clear Ck
        clear hk0' ek
        go_wp2_with fail
        refine ⟨⟨k + 1, by omega, by go_num, fun j z hj hz => ?_, fun j z y hj hz hy => ?_, HB.out, Bk.out⟩, by simp [intOf]; omega⟩
        · by_cases e : j = k
          · subst e
            rw [HXx.out] at hz
            obtain rfl := Option.some.inj hz
            exact HOK.out
          · exact HQ.out j z (by omega) hz
        · by_cases e : j + 1 = k
          · have hj : j = k - 1 := by omega
            subst hj
            rw [Nat.sub_add_cancel hk0, HXx.out] at hz
            obtain rfl := Option.some.inj hz
            rw [HXy.out] at hy
            obtain rfl := Option.some.inj hy
            exact hless
          · exact HO.out j z y (by omega) hz hy
    · obtain rfl : l1 = k := by omega
      have HR1 : Hid (RowOk ndOk Nd.n c.ns 6) := ⟨by omega, fun j z hz => HQ.out j z (by have := (List.getElem?_eq_some_iff.1 hz).1; omega) hz, fun j z u hz hu => HO.out j z u (by have := (List.getElem?_eq_some_iff.1 hz).1; omega) hz hu⟩
      clear HQ HO
      skip
      have kc : wr.cell? ⟨w.heap.size, 1, none⟩ = some (.slice a2 l2 y2) := cellK Bk.out 1
      go_wp2
      go_loopw [4] (fun i wr => ∃ k : Nat, k ≤ l2 ∧ i = .int .i64 k ∧ Hid (∀ (j : Nat) z, j < k → c.ks[j]? = some z → kdOk z) ∧ Hid (∀ (j : Nat) z u, j + 1 < k → c.ks[j + 1]? = some z → c.ks[j]? = some u → Op.bytesLess u.n.toList z.n.toList = true) ∧ Hid (Below w.heap.size w wr) ∧ Hid (wr.heap[w.heap.size]? = some (.cells #[.slice a1 l1 y1, .slice a2 l2 y2, .slice a3 l3 y3, .slice a4 l4 y4, .slice a5 l5 y5, .int .i64 c.now] 39 (0, 0)))) (fun i _ => l2 - (intOf i).toNat)
      case atStart => exact ⟨0, by omega, rfl, fun _ _ h => absurd h (by omega), fun _ _ _ h => absurd h (by omega), HB.out, Bk.out⟩
      case round =>
        obtain ⟨k, hk, rfl, HQ, HO, HB, Bk⟩ := hrel
        have pk : wr.cell? ⟨w.heap.size, 1, none⟩ = some (.slice a2 l2 y2) := cellK Bk.out 1
        by_cases hlt : k < l2
        · obtain ⟨b, o, x, rfl, hb, hx, hat⟩ := kd_at (HR.out.k.below HB.out) hlt
          obtain ⟨z0, z3, c0, c1, c2, c3⟩ := kd_cells hat
          have HXx := hidK hx
          have HZx0 := hidK z0
          have HZx3 := hidK z3
          clear hat hx z0 z3
          by_cases hok : kdOk x
          rotate_left
          · have HOK := hidK hok
            clear hok
            have Gk : Hid (wr.heap[w.heap.size]? = some (.cells #[.slice a1 l1 y1, .slice (some ⟨b, o, none⟩) l2 y2, .slice a3 l3 y3, .slice a4 l4 y4, .slice a5 l5 y5, .int .i64 c.now] 39 (0, 0))) := Bk.out
            have HW : Hid (Below w.heap.size w wr) := HB.out
            have k1 := fun q : Wd wr => q.slot (o := 1) Gk.out rfl
            have x0 : ∀ q : Wd wr, q.w.cell? ⟨b, o + k * 4, none⟩ = some (.string x.n) := fun q => (q.cell (hb)).trans (c0)
            have x1 : ∀ q : Wd wr, q.w.cell? ⟨b, o + k * 4 + 1, none⟩ = some (.bool x.x) := fun q => (q.cell (hb)).trans (c1)
            have x2 : ∀ q : Wd wr, q.w.cell? ⟨b, o + k * 4 + 2, none⟩ = some (.bool x.y) := fun q => (q.cell (hb)).trans (c2)
            have x3 : ∀ q : Wd wr, q.w.cell? ⟨b, o + k * 4 + 3, none⟩ = some (.string x.z) := fun q => (q.cell (hb)).trans (c3)
            have hne0 := Wd.ne wr
            have HC0 := hidK (fun q : Wd wr => (sclass_any x.n x.z x.x x.y q.w HZx0.out HZx3.out).mono (fun _ _ h => BoolB.no h HOK.out))
            go_wp2_with fail
            refine wp_region_wide (by kernel_rfl) (by kernel_rfl) ?_
            repeat (go_big_quiet_step (first | (go_at_call 123; exact Calls.wide (HC0.out _)) | fail))
            refine wpQuiet_nil ?_
            rintro _ ⟨q, rfl⟩
            have HB1 := upB HW q.b
            have Ck := upK Gk q.b
            clear hne0 HW HB HC0 k1 x0 x1 x2 x3 Gk Bk c0 c1 c2 c3 pk
            have HB := HB1
            clear HB1
            have Bk := Ck
            clear Ck
            go_wp2
            go_ret
            exact BoolB.f (fun h => HOK.out (h.2.1.2.1 k x HXx.out)) HB.out
          have HOK := hidK hok
          clear hok
          by_cases hk0 : 0 < k
          rotate_left
          · have hd : decide ((0 : Int) < k) = false := by simp; omega
            have Gk : Hid (wr.heap[w.heap.size]? = some (.cells #[.slice a1 l1 y1, .slice (some ⟨b, o, none⟩) l2 y2, .slice a3 l3 y3, .slice a4 l4 y4, .slice a5 l5 y5, .int .i64 c.now] 39 (0, 0))) := Bk.out
            have HW : Hid (Below w.heap.size w wr) := HB.out
            have k1 := fun q : Wd wr => q.slot (o := 1) Gk.out rfl
            have x0 : ∀ q : Wd wr, q.w.cell? ⟨b, o + k * 4, none⟩ = some (.string x.n) := fun q => (q.cell (hb)).trans (c0)
            have x1 : ∀ q : Wd wr, q.w.cell? ⟨b, o + k * 4 + 1, none⟩ = some (.bool x.x) := fun q => (q.cell (hb)).trans (c1)
            have x2 : ∀ q : Wd wr, q.w.cell? ⟨b, o + k * 4 + 2, none⟩ = some (.bool x.y) := fun q => (q.cell (hb)).trans (c2)
            have x3 : ∀ q : Wd wr, q.w.cell? ⟨b, o + k * 4 + 3, none⟩ = some (.string x.z) := fun q => (q.cell (hb)).trans (c3)
            have hne0 := Wd.ne wr
            have HC0 := hidK (fun q : Wd wr => (sclass_any x.n x.z x.x x.y q.w HZx0.out HZx3.out).mono (fun _ _ h => BoolB.yes h HOK.out))
            go_wp2_with fail
            refine wp_region_wide (by kernel_rfl) (by kernel_rfl) ?_
            repeat (go_big_quiet_step (first | (go_at_call 123; exact Calls.wide (HC0.out _)) | fail))
            refine wpQuiet_nil ?_
            rintro _ ⟨q, rfl⟩
            have HB1 := upB HW q.b
            have Ck := upK Gk q.b
            clear hne0 HW HB HC0 k1 x0 x1 x2 x3 Gk Bk c0 c1 c2 c3 pk
            have HB := HB1
            clear HB1
            have Bk := Ck
            clear Ck
            clear hd
            go_wp2_with fail
            refine ⟨⟨k + 1, by omega, by go_num, fun j z hj hz => ?_, fun j z y hj hz hy => ?_, HB.out, Bk.out⟩, by simp [intOf]; omega⟩
            · by_cases e : j = k
              · subst e
                rw [HXx.out] at hz
                obtain rfl := Option.some.inj hz
                exact HOK.out
              · exact HQ.out j z (by omega) hz
            · by_cases e : j + 1 = k
              · exact absurd hk0 (by omega)
              · exact HO.out j z y (by omega) hz hy
          have hk0' : (0 : Int) < k := by omega
          have ek : ((k : Int) - 1).toNat = k - 1 := by omega
          obtain ⟨b', o', y, e', hb', hy, haty⟩ := kd_at (HR.out.k.below HB.out) (show k - 1 < l2 by omega)
          cases e'
          have y0 : wr.cell? ⟨b, o + (k - 1) * 4, none⟩ = some (.string y.n) := by
            obtain ⟨q, h1, h2⟩ := haty 0 _ rfl
            obtain ⟨rfl, -⟩ := h2
            exact h1
          have HXy := hidK hy
          clear hy haty
          cases hless : Op.bytesLess y.n.toList x.n.toList
          · have Gk : Hid (wr.heap[w.heap.size]? = some (.cells #[.slice a1 l1 y1, .slice (some ⟨b, o, none⟩) l2 y2, .slice a3 l3 y3, .slice a4 l4 y4, .slice a5 l5 y5, .int .i64 c.now] 39 (0, 0))) := Bk.out
            have HW : Hid (Below w.heap.size w wr) := HB.out
            have k1 := fun q : Wd wr => q.slot (o := 1) Gk.out rfl
            have x0 : ∀ q : Wd wr, q.w.cell? ⟨b, o + k * 4, none⟩ = some (.string x.n) := fun q => (q.cell (hb)).trans (c0)
            have x1 : ∀ q : Wd wr, q.w.cell? ⟨b, o + k * 4 + 1, none⟩ = some (.bool x.x) := fun q => (q.cell (hb)).trans (c1)
            have x2 : ∀ q : Wd wr, q.w.cell? ⟨b, o + k * 4 + 2, none⟩ = some (.bool x.y) := fun q => (q.cell (hb)).trans (c2)
            have x3 : ∀ q : Wd wr, q.w.cell? ⟨b, o + k * 4 + 3, none⟩ = some (.string x.z) := fun q => (q.cell (hb)).trans (c3)
            have yw : ∀ q : Wd wr, q.w.cell? ⟨b, o + (k - 1) * 4, none⟩ = some (.string y.n) := fun q => (q.cell (hb)).trans (y0)
            have hne0 := Wd.ne wr
            have HC0 := hidK (fun q : Wd wr => (sclass_any x.n x.z x.x x.y q.w HZx0.out HZx3.out).mono (fun _ _ h => BoolB.yes h HOK.out))
            go_wp2_with fail
            refine wp_region_wide (by kernel_rfl) (by kernel_rfl) ?_
            repeat (go_big_quiet_step (first | (go_at_call 123; exact Calls.wide (HC0.out _)) | fail))
            refine wpQuiet_nil ?_
            rintro _ ⟨q, rfl⟩
            have HB1 := upB HW q.b
            have Ck := upK Gk q.b
            clear hne0 HW HB HC0 k1 x0 x1 x2 x3 yw Gk Bk c0 c1 c2 c3 pk y0
            have HB := HB1
            clear HB1
            have Bk := Ck
            clear Ck
            go_wp2
            go_ret
            refine BoolB.f (fun h => ?_) HB.out
            have h3 := h.2.1.2.2 (k - 1) x y (by rw [Nat.sub_add_cancel hk0]; exact HXx.out) HXy.out
            rw [hless] at h3
            cases h3
          · have Gk : Hid (wr.heap[w.heap.size]? = some (.cells #[.slice a1 l1 y1, .slice (some ⟨b, o, none⟩) l2 y2, .slice a3 l3 y3, .slice a4 l4 y4, .slice a5 l5 y5, .int .i64 c.now] 39 (0, 0))) := Bk.out
            have HW : Hid (Below w.heap.size w wr) := HB.out
            have k1 := fun q : Wd wr => q.slot (o := 1) Gk.out rfl
            have x0 : ∀ q : Wd wr, q.w.cell? ⟨b, o + k * 4, none⟩ = some (.string x.n) := fun q => (q.cell (hb)).trans (c0)
            have x1 : ∀ q : Wd wr, q.w.cell? ⟨b, o + k * 4 + 1, none⟩ = some (.bool x.x) := fun q => (q.cell (hb)).trans (c1)
            have x2 : ∀ q : Wd wr, q.w.cell? ⟨b, o + k * 4 + 2, none⟩ = some (.bool x.y) := fun q => (q.cell (hb)).trans (c2)
            have x3 : ∀ q : Wd wr, q.w.cell? ⟨b, o + k * 4 + 3, none⟩ = some (.string x.z) := fun q => (q.cell (hb)).trans (c3)
            have yw : ∀ q : Wd wr, q.w.cell? ⟨b, o + (k - 1) * 4, none⟩ = some (.string y.n) := fun q => (q.cell (hb)).trans (y0)
            have hne0 := Wd.ne wr
            have HC0 := hidK (fun q : Wd wr => (sclass_any x.n x.z x.x x.y q.w HZx0.out HZx3.out).mono (fun _ _ h => BoolB.yes h HOK.out))
            go_wp2_with fail
            refine wp_region_wide (by kernel_rfl) (by kernel_rfl) ?_
            repeat (go_big_quiet_step (first | (go_at_call 123; exact Calls.wide (HC0.out _)) | fail))
            refine wpQuiet_nil ?_
            rintro _ ⟨q, rfl⟩
            have HB1 := upB HW q.b
            have Ck := upK Gk q.b
            clear hne0 HW HB HC0 k1 x0 x1 x2 x3 yw Gk Bk c0 c1 c2 c3 pk y0
            have HB := HB1
            clear HB1
            have Bk := Ck
            clear Ck
            clear hk0' ek
            go_wp2_with fail
            refine ⟨⟨k + 1, by omega, by go_num, fun j z hj hz => ?_, fun j z y hj hz hy => ?_, HB.out, Bk.out⟩, by simp [intOf]; omega⟩
            · by_cases e : j = k
              · subst e
                rw [HXx.out] at hz
                obtain rfl := Option.some.inj hz
                exact HOK.out
              · exact HQ.out j z (by omega) hz
            · by_cases e : j + 1 = k
              · have hj : j = k - 1 := by omega
                subst hj
                rw [Nat.sub_add_cancel hk0, HXx.out] at hz
                obtain rfl := Option.some.inj hz
                rw [HXy.out] at hy
                obtain rfl := Option.some.inj hy
                exact hless
              · exact HO.out j z y (by omega) hz hy
        · obtain rfl : l2 = k := by omega
          have HR2 : Hid (RowOk kdOk Kd.n c.ks 8) := ⟨by omega, fun j z hz => HQ.out j z (by have := (List.getElem?_eq_some_iff.1 hz).1; omega) hz, fun j z u hz hu => HO.out j z u (by have := (List.getElem?_eq_some_iff.1 hz).1; omega) hz hu⟩
          clear HQ HO
          skip
          have kc : wr.cell? ⟨w.heap.size, 2, none⟩ = some (.slice a3 l3 y3) := cellK Bk.out 2
          go_wp2
          go_loopw [5] (fun i wr => ∃ k : Nat, k ≤ l3 ∧ i = .int .i64 k ∧ Hid (∀ (j : Nat) z, j < k → c.vs[j]? = some z → vdOk z) ∧ Hid (∀ (j : Nat) z u, j + 1 < k → c.vs[j + 1]? = some z → c.vs[j]? = some u → Op.bytesLess u.n.toList z.n.toList = true) ∧ Hid (Below w.heap.size w wr) ∧ Hid (wr.heap[w.heap.size]? = some (.cells #[.slice a1 l1 y1, .slice a2 l2 y2, .slice a3 l3 y3, .slice a4 l4 y4, .slice a5 l5 y5, .int .i64 c.now] 39 (0, 0)))) (fun i _ => l3 - (intOf i).toNat)
          case atStart => exact ⟨0, by omega, rfl, fun _ _ h => absurd h (by omega), fun _ _ _ h => absurd h (by omega), HB.out, Bk.out⟩
          case round =>
            obtain ⟨k, hk, rfl, HQ, HO, HB, Bk⟩ := hrel
            have pk : wr.cell? ⟨w.heap.size, 2, none⟩ = some (.slice a3 l3 y3) := cellK Bk.out 2
            by_cases hlt : k < l3
            · obtain ⟨b, o, x, rfl, hb, hx, hat⟩ := vd_at (HR.out.v.below HB.out) hlt
              obtain ⟨va, vl, vc, hvr, z0, z2, z3, z5, c0, c1, c2, c3, c4, c5, c6, c7⟩ := vd_cells hat
              have HXx := hidK hx
              have HTx := hidK hvr
              have HZx0 := hidK z0
              have HZx2 := hidK z2
              have HZx3 := hidK z3
              have HZx5 := hidK z5
              clear hat hx z0 z2 z3 z5 hvr
              by_cases hok : vdOk x
              rotate_left
              · have HOK := hidK hok
                clear hok
                have Gk : Hid (wr.heap[w.heap.size]? = some (.cells #[.slice a1 l1 y1, .slice a2 l2 y2, .slice (some ⟨b, o, none⟩) l3 y3, .slice a4 l4 y4, .slice a5 l5 y5, .int .i64 c.now] 39 (0, 0))) := Bk.out
                have HW : Hid (Below w.heap.size w wr) := HB.out
                have k2 := fun q : Wd wr => q.slot (o := 2) Gk.out rfl
                have x0 : ∀ q : Wd wr, q.w.cell? ⟨b, o + k * 8, none⟩ = some (.string x.n) := fun q => (q.cell (hb)).trans (c0)
                have x1 : ∀ q : Wd wr, q.w.cell? ⟨b, o + k * 8 + 1, none⟩ = some (.int .i64 x.c) := fun q => (q.cell (hb)).trans (c1)
                have x2 : ∀ q : Wd wr, q.w.cell? ⟨b, o + k * 8 + 2, none⟩ = some (.string x.z) := fun q => (q.cell (hb)).trans (c2)
                have x3 : ∀ q : Wd wr, q.w.cell? ⟨b, o + k * 8 + 3, none⟩ = some (.string x.k) := fun q => (q.cell (hb)).trans (c3)
                have x4 : ∀ q : Wd wr, q.w.cell? ⟨b, o + k * 8 + 4, none⟩ = some (.bool x.x) := fun q => (q.cell (hb)).trans (c4)
                have x5 : ∀ q : Wd wr, q.w.cell? ⟨b, o + k * 8 + 5, none⟩ = some (.string x.m) := fun q => (q.cell (hb)).trans (c5)
                have x6 : ∀ q : Wd wr, q.w.cell? ⟨b, o + k * 8 + 6, none⟩ = some (.bool x.y) := fun q => (q.cell (hb)).trans (c6)
                have x7 : ∀ q : Wd wr, q.w.cell? ⟨b, o + k * 8 + 7, none⟩ = some (.slice va vl vc) := fun q => (q.cell (hb)).trans (c7)
                have hne0 := Wd.ne wr
                have HC0 := hidK (fun q : Wd wr => (svol_any x.n x.c x.z x.k x.x x.m x.y va vl vc x.zs q.w HZx0.out HZx2.out HZx3.out HZx5.out (HTx.out.below q.b)).mono (fun _ _ h => BoolB.no h HOK.out))
                go_wp2_with fail
                refine wp_region_wide (by kernel_rfl) (by kernel_rfl) ?_
                repeat (go_big_quiet_step (first | (go_at_call 124; exact Calls.wide (HC0.out _)) | fail))
                refine wpQuiet_nil ?_
                rintro _ ⟨q, rfl⟩
                have HB1 := upB HW q.b
                have Ck := upK Gk q.b
                clear hne0 HW HB HC0 k2 x0 x1 x2 x3 x4 x5 x6 x7 Gk Bk c0 c1 c2 c3 c4 c5 c6 c7 pk
                have HB := HB1
                clear HB1
                have Bk := Ck
                clear Ck
                go_wp2
                go_ret
                exact BoolB.f (fun h => HOK.out (h.2.2.1.2.1 k x HXx.out)) HB.out
              have HOK := hidK hok
              clear hok
              by_cases hk0 : 0 < k
              rotate_left
              · have hd : decide ((0 : Int) < k) = false := by simp; omega
                have Gk : Hid (wr.heap[w.heap.size]? = some (.cells #[.slice a1 l1 y1, .slice a2 l2 y2, .slice (some ⟨b, o, none⟩) l3 y3, .slice a4 l4 y4, .slice a5 l5 y5, .int .i64 c.now] 39 (0, 0))) := Bk.out
                have HW : Hid (Below w.heap.size w wr) := HB.out
                have k2 := fun q : Wd wr => q.slot (o := 2) Gk.out rfl
                have x0 : ∀ q : Wd wr, q.w.cell? ⟨b, o + k * 8, none⟩ = some (.string x.n) := fun q => (q.cell (hb)).trans (c0)
                have x1 : ∀ q : Wd wr, q.w.cell? ⟨b, o + k * 8 + 1, none⟩ = some (.int .i64 x.c) := fun q => (q.cell (hb)).trans (c1)
                have x2 : ∀ q : Wd wr, q.w.cell? ⟨b, o + k * 8 + 2, none⟩ = some (.string x.z) := fun q => (q.cell (hb)).trans (c2)
                have x3 : ∀ q : Wd wr, q.w.cell? ⟨b, o + k * 8 + 3, none⟩ = some (.string x.k) := fun q => (q.cell (hb)).trans (c3)
                have x4 : ∀ q : Wd wr, q.w.cell? ⟨b, o + k * 8 + 4, none⟩ = some (.bool x.x) := fun q => (q.cell (hb)).trans (c4)
                have x5 : ∀ q : Wd wr, q.w.cell? ⟨b, o + k * 8 + 5, none⟩ = some (.string x.m) := fun q => (q.cell (hb)).trans (c5)
                have x6 : ∀ q : Wd wr, q.w.cell? ⟨b, o + k * 8 + 6, none⟩ = some (.bool x.y) := fun q => (q.cell (hb)).trans (c6)
                have x7 : ∀ q : Wd wr, q.w.cell? ⟨b, o + k * 8 + 7, none⟩ = some (.slice va vl vc) := fun q => (q.cell (hb)).trans (c7)
                have hne0 := Wd.ne wr
                have HC0 := hidK (fun q : Wd wr => (svol_any x.n x.c x.z x.k x.x x.m x.y va vl vc x.zs q.w HZx0.out HZx2.out HZx3.out HZx5.out (HTx.out.below q.b)).mono (fun _ _ h => BoolB.yes h HOK.out))
                go_wp2_with fail
                refine wp_region_wide (by kernel_rfl) (by kernel_rfl) ?_
                repeat (go_big_quiet_step (first | (go_at_call 124; exact Calls.wide (HC0.out _)) | fail))
                refine wpQuiet_nil ?_
                rintro _ ⟨q, rfl⟩
                have HB1 := upB HW q.b
                have Ck := upK Gk q.b
                clear hne0 HW HB HC0 k2 x0 x1 x2 x3 x4 x5 x6 x7 Gk Bk c0 c1 c2 c3 c4 c5 c6 c7 pk
                have HB := HB1
                clear HB1
                have Bk := Ck
                clear Ck
                clear hd
                go_wp2_with fail
                refine ⟨⟨k + 1, by omega, by go_num, fun j z hj hz => ?_, fun j z y hj hz hy => ?_, HB.out, Bk.out⟩, by simp [intOf]; omega⟩
                · by_cases e : j = k
                  · subst e
                    rw [HXx.out] at hz
                    obtain rfl := Option.some.inj hz
                    exact HOK.out
                  · exact HQ.out j z (by omega) hz
                · by_cases e : j + 1 = k
                  · exact absurd hk0 (by omega)
                  · exact HO.out j z y (by omega) hz hy
              have hk0' : (0 : Int) < k := by omega
              have ek : ((k : Int) - 1).toNat = k - 1 := by omega
              obtain ⟨b', o', y, e', hb', hy, haty⟩ := vd_at (HR.out.v.below HB.out) (show k - 1 < l3 by omega)
              cases e'
              have y0 : wr.cell? ⟨b, o + (k - 1) * 8, none⟩ = some (.string y.n) := by
                obtain ⟨q, h1, h2⟩ := haty 0 _ rfl
                obtain ⟨rfl, -⟩ := h2
                exact h1
              have HXy := hidK hy
              clear hy haty
              cases hless : Op.bytesLess y.n.toList x.n.toList
              · have Gk : Hid (wr.heap[w.heap.size]? = some (.cells #[.slice a1 l1 y1, .slice a2 l2 y2, .slice (some ⟨b, o, none⟩) l3 y3, .slice a4 l4 y4, .slice a5 l5 y5, .int .i64 c.now] 39 (0, 0))) := Bk.out
                have HW : Hid (Below w.heap.size w wr) := HB.out
                have k2 := fun q : Wd wr => q.slot (o := 2) Gk.out rfl
                have x0 : ∀ q : Wd wr, q.w.cell? ⟨b, o + k * 8, none⟩ = some (.string x.n) := fun q => (q.cell (hb)).trans (c0)
                have x1 : ∀ q : Wd wr, q.w.cell? ⟨b, o + k * 8 + 1, none⟩ = some (.int .i64 x.c) := fun q => (q.cell (hb)).trans (c1)
                have x2 : ∀ q : Wd wr, q.w.cell? ⟨b, o + k * 8 + 2, none⟩ = some (.string x.z) := fun q => (q.cell (hb)).trans (c2)
                have x3 : ∀ q : Wd wr, q.w.cell? ⟨b, o + k * 8 + 3, none⟩ = some (.string x.k) := fun q => (q.cell (hb)).trans (c3)
                have x4 : ∀ q : Wd wr, q.w.cell? ⟨b, o + k * 8 + 4, none⟩ = some (.bool x.x) := fun q => (q.cell (hb)).trans (c4)
                have x5 : ∀ q : Wd wr, q.w.cell? ⟨b, o + k * 8 + 5, none⟩ = some (.string x.m) := fun q => (q.cell (hb)).trans (c5)
                have x6 : ∀ q : Wd wr, q.w.cell? ⟨b, o + k * 8 + 6, none⟩ = some (.bool x.y) := fun q => (q.cell (hb)).trans (c6)
                have x7 : ∀ q : Wd wr, q.w.cell? ⟨b, o + k * 8 + 7, none⟩ = some (.slice va vl vc) := fun q => (q.cell (hb)).trans (c7)
                have yw : ∀ q : Wd wr, q.w.cell? ⟨b, o + (k - 1) * 8, none⟩ = some (.string y.n) := fun q => (q.cell (hb)).trans (y0)
                have hne0 := Wd.ne wr
                have HC0 := hidK (fun q : Wd wr => (svol_any x.n x.c x.z x.k x.x x.m x.y va vl vc x.zs q.w HZx0.out HZx2.out HZx3.out HZx5.out (HTx.out.below q.b)).mono (fun _ _ h => BoolB.yes h HOK.out))
                go_wp2_with fail
                refine wp_region_wide (by kernel_rfl) (by kernel_rfl) ?_
                repeat (go_big_quiet_step (first | (go_at_call 124; exact Calls.wide (HC0.out _)) | fail))
                refine wpQuiet_nil ?_
                rintro _ ⟨q, rfl⟩
                have HB1 := upB HW q.b
                have Ck := upK Gk q.b
                clear hne0 HW HB HC0 k2 x0 x1 x2 x3 x4 x5 x6 x7 yw Gk Bk c0 c1 c2 c3 c4 c5 c6 c7 pk y0
                have HB := HB1
                clear HB1
                have Bk := Ck
                clear Ck
                go_wp2
                go_ret
                refine BoolB.f (fun h => ?_) HB.out
                have h3 := h.2.2.1.2.2 (k - 1) x y (by rw [Nat.sub_add_cancel hk0]; exact HXx.out) HXy.out
                rw [hless] at h3
                cases h3
              · have Gk : Hid (wr.heap[w.heap.size]? = some (.cells #[.slice a1 l1 y1, .slice a2 l2 y2, .slice (some ⟨b, o, none⟩) l3 y3, .slice a4 l4 y4, .slice a5 l5 y5, .int .i64 c.now] 39 (0, 0))) := Bk.out
                have HW : Hid (Below w.heap.size w wr) := HB.out
                have k2 := fun q : Wd wr => q.slot (o := 2) Gk.out rfl
                have x0 : ∀ q : Wd wr, q.w.cell? ⟨b, o + k * 8, none⟩ = some (.string x.n) := fun q => (q.cell (hb)).trans (c0)
                have x1 : ∀ q : Wd wr, q.w.cell? ⟨b, o + k * 8 + 1, none⟩ = some (.int .i64 x.c) := fun q => (q.cell (hb)).trans (c1)
                have x2 : ∀ q : Wd wr, q.w.cell? ⟨b, o + k * 8 + 2, none⟩ = some (.string x.z) := fun q => (q.cell (hb)).trans (c2)
                have x3 : ∀ q : Wd wr, q.w.cell? ⟨b, o + k * 8 + 3, none⟩ = some (.string x.k) := fun q => (q.cell (hb)).trans (c3)
                have x4 : ∀ q : Wd wr, q.w.cell? ⟨b, o + k * 8 + 4, none⟩ = some (.bool x.x) := fun q => (q.cell (hb)).trans (c4)
                have x5 : ∀ q : Wd wr, q.w.cell? ⟨b, o + k * 8 + 5, none⟩ = some (.string x.m) := fun q => (q.cell (hb)).trans (c5)
                have x6 : ∀ q : Wd wr, q.w.cell? ⟨b, o + k * 8 + 6, none⟩ = some (.bool x.y) := fun q => (q.cell (hb)).trans (c6)
                have x7 : ∀ q : Wd wr, q.w.cell? ⟨b, o + k * 8 + 7, none⟩ = some (.slice va vl vc) := fun q => (q.cell (hb)).trans (c7)
                have yw : ∀ q : Wd wr, q.w.cell? ⟨b, o + (k - 1) * 8, none⟩ = some (.string y.n) := fun q => (q.cell (hb)).trans (y0)
                have hne0 := Wd.ne wr
                have HC0 := hidK (fun q : Wd wr => (svol_any x.n x.c x.z x.k x.x x.m x.y va vl vc x.zs q.w HZx0.out HZx2.out HZx3.out HZx5.out (HTx.out.below q.b)).mono (fun _ _ h => BoolB.yes h HOK.out))
                go_wp2_with fail
                refine wp_region_wide (by kernel_rfl) (by kernel_rfl) ?_
                repeat (go_big_quiet_step (first | (go_at_call 124; exact Calls.wide (HC0.out _)) | fail))
                refine wpQuiet_nil ?_
                rintro _ ⟨q, rfl⟩
                have HB1 := upB HW q.b
                have Ck := upK Gk q.b
                clear hne0 HW HB HC0 k2 x0 x1 x2 x3 x4 x5 x6 x7 yw Gk Bk c0 c1 c2 c3 c4 c5 c6 c7 pk y0
                have HB := HB1
                clear HB1
                have Bk := Ck
                clear Ck
                clear hk0' ek
                go_wp2_with fail
                refine ⟨⟨k + 1, by omega, by go_num, fun j z hj hz => ?_, fun j z y hj hz hy => ?_, HB.out, Bk.out⟩, by simp [intOf]; omega⟩
                · by_cases e : j = k
                  · subst e
                    rw [HXx.out] at hz
                    obtain rfl := Option.some.inj hz
                    exact HOK.out
                  · exact HQ.out j z (by omega) hz
                · by_cases e : j + 1 = k
                  · have hj : j = k - 1 := by omega
                    subst hj
                    rw [Nat.sub_add_cancel hk0, HXx.out] at hz
                    obtain rfl := Option.some.inj hz
                    rw [HXy.out] at hy
                    obtain rfl := Option.some.inj hy
                    exact hless
                  · exact HO.out j z y (by omega) hz hy
            · obtain rfl : l3 = k := by omega
              have HR3 : Hid (RowOk vdOk Vd.n c.vs 8) := ⟨by omega, fun j z hz => HQ.out j z (by have := (List.getElem?_eq_some_iff.1 hz).1; omega) hz, fun j z u hz hu => HO.out j z u (by have := (List.getElem?_eq_some_iff.1 hz).1; omega) hz hu⟩
              clear HQ HO
              skip
              have kc : wr.cell? ⟨w.heap.size, 3, none⟩ = some (.slice a4 l4 y4) := cellK Bk.out 3
              go_wp2
              go_loopw [6] (fun i wr => ∃ k : Nat, k ≤ l4 ∧ i = .int .i64 k ∧ Hid (∀ (j : Nat) z, j < k → c.xs[j]? = some z → xdOk z) ∧ Hid (∀ (j : Nat) z u, j + 1 < k → c.xs[j + 1]? = some z → c.xs[j]? = some u → Op.bytesLess u.n.toList z.n.toList = true) ∧ Hid (Below w.heap.size w wr) ∧ Hid (wr.heap[w.heap.size]? = some (.cells #[.slice a1 l1 y1, .slice a2 l2 y2, .slice a3 l3 y3, .slice a4 l4 y4, .slice a5 l5 y5, .int .i64 c.now] 39 (0, 0)))) (fun i _ => l4 - (intOf i).toNat)
              case atStart => exact ⟨0, by omega, rfl, fun _ _ h => absurd h (by omega), fun _ _ _ h => absurd h (by omega), HB.out, Bk.out⟩
              case round =>
                obtain ⟨k, hk, rfl, HQ, HO, HB, Bk⟩ := hrel
                have pk : wr.cell? ⟨w.heap.size, 3, none⟩ = some (.slice a4 l4 y4) := cellK Bk.out 3
                by_cases hlt : k < l4
                · obtain ⟨b, o, x, rfl, hb, hx, hat⟩ := xd_at (HR.out.x.below HB.out) hlt
                  obtain ⟨z0, z2, z4, c0, c1, c2, c3, c4⟩ := xd_cells hat
                  have HXx := hidK hx
                  have HZx0 := hidK z0
                  have HZx2 := hidK z2
                  have HZx4 := hidK z4
                  clear hat hx z0 z2 z4
                  by_cases hok : xdOk x
                  rotate_left
                  · have HOK := hidK hok
                    clear hok
                    have Gk : Hid (wr.heap[w.heap.size]? = some (.cells #[.slice a1 l1 y1, .slice a2 l2 y2, .slice a3 l3 y3, .slice (some ⟨b, o, none⟩) l4 y4, .slice a5 l5 y5, .int .i64 c.now] 39 (0, 0))) := Bk.out
                    have HW : Hid (Below w.heap.size w wr) := HB.out
                    have k3 := fun q : Wd wr => q.slot (o := 3) Gk.out rfl
                    have x0 : ∀ q : Wd wr, q.w.cell? ⟨b, o + k * 5, none⟩ = some (.string x.n) := fun q => (q.cell (hb)).trans (c0)
                    have x1 : ∀ q : Wd wr, q.w.cell? ⟨b, o + k * 5 + 1, none⟩ = some (.int .i64 x.z) := fun q => (q.cell (hb)).trans (c1)
                    have x2 : ∀ q : Wd wr, q.w.cell? ⟨b, o + k * 5 + 2, none⟩ = some (.string x.k) := fun q => (q.cell (hb)).trans (c2)
                    have x3 : ∀ q : Wd wr, q.w.cell? ⟨b, o + k * 5 + 3, none⟩ = some (.bool x.x) := fun q => (q.cell (hb)).trans (c3)
                    have x4 : ∀ q : Wd wr, q.w.cell? ⟨b, o + k * 5 + 4, none⟩ = some (.string x.v) := fun q => (q.cell (hb)).trans (c4)
                    have hne0 := Wd.ne wr
                    have HC0 := hidK (fun q : Wd wr => (sclaim_any x.n x.z x.k x.x x.v q.w HZx0.out HZx2.out HZx4.out).mono (fun _ _ h => BoolB.no h HOK.out))
                    go_wp2_with fail
                    refine wp_region_wide (by kernel_rfl) (by kernel_rfl) ?_
                    repeat (go_big_quiet_step (first | (go_at_call 27; exact Calls.wide (HC0.out _)) | fail))
                    refine wpQuiet_nil ?_
                    rintro _ ⟨q, rfl⟩
                    have HB1 := upB HW q.b
                    have Ck := upK Gk q.b
                    clear hne0 HW HB HC0 k3 x0 x1 x2 x3 x4 Gk Bk c0 c1 c2 c3 c4 pk
                    have HB := HB1
                    clear HB1
                    have Bk := Ck
                    clear Ck
                    go_wp2
                    go_ret
                    exact BoolB.f (fun h => HOK.out (h.2.2.2.1.2.1 k x HXx.out)) HB.out
                  have HOK := hidK hok
                  clear hok
                  by_cases hk0 : 0 < k
                  rotate_left
                  · have hd : decide ((0 : Int) < k) = false := by simp; omega
                    have Gk : Hid (wr.heap[w.heap.size]? = some (.cells #[.slice a1 l1 y1, .slice a2 l2 y2, .slice a3 l3 y3, .slice (some ⟨b, o, none⟩) l4 y4, .slice a5 l5 y5, .int .i64 c.now] 39 (0, 0))) := Bk.out
                    have HW : Hid (Below w.heap.size w wr) := HB.out
                    have k3 := fun q : Wd wr => q.slot (o := 3) Gk.out rfl
                    have x0 : ∀ q : Wd wr, q.w.cell? ⟨b, o + k * 5, none⟩ = some (.string x.n) := fun q => (q.cell (hb)).trans (c0)
                    have x1 : ∀ q : Wd wr, q.w.cell? ⟨b, o + k * 5 + 1, none⟩ = some (.int .i64 x.z) := fun q => (q.cell (hb)).trans (c1)
                    have x2 : ∀ q : Wd wr, q.w.cell? ⟨b, o + k * 5 + 2, none⟩ = some (.string x.k) := fun q => (q.cell (hb)).trans (c2)
                    have x3 : ∀ q : Wd wr, q.w.cell? ⟨b, o + k * 5 + 3, none⟩ = some (.bool x.x) := fun q => (q.cell (hb)).trans (c3)
                    have x4 : ∀ q : Wd wr, q.w.cell? ⟨b, o + k * 5 + 4, none⟩ = some (.string x.v) := fun q => (q.cell (hb)).trans (c4)
                    have hne0 := Wd.ne wr
                    have HC0 := hidK (fun q : Wd wr => (sclaim_any x.n x.z x.k x.x x.v q.w HZx0.out HZx2.out HZx4.out).mono (fun _ _ h => BoolB.yes h HOK.out))
                    go_wp2_with fail
                    refine wp_region_wide (by kernel_rfl) (by kernel_rfl) ?_
                    repeat (go_big_quiet_step (first | (go_at_call 27; exact Calls.wide (HC0.out _)) | fail))
                    refine wpQuiet_nil ?_
                    rintro _ ⟨q, rfl⟩
                    have HB1 := upB HW q.b
                    have Ck := upK Gk q.b
                    clear hne0 HW HB HC0 k3 x0 x1 x2 x3 x4 Gk Bk c0 c1 c2 c3 c4 pk
                    have HB := HB1
                    clear HB1
                    have Bk := Ck
                    clear Ck
                    clear hd
                    go_wp2_with fail
                    refine ⟨⟨k + 1, by omega, by go_num, fun j z hj hz => ?_, fun j z y hj hz hy => ?_, HB.out, Bk.out⟩, by simp [intOf]; omega⟩
                    · by_cases e : j = k
                      · subst e
                        rw [HXx.out] at hz
                        obtain rfl := Option.some.inj hz
                        exact HOK.out
                      · exact HQ.out j z (by omega) hz
                    · by_cases e : j + 1 = k
                      · exact absurd hk0 (by omega)
                      · exact HO.out j z y (by omega) hz hy
                  have hk0' : (0 : Int) < k := by omega
                  have ek : ((k : Int) - 1).toNat = k - 1 := by omega
                  obtain ⟨b', o', y, e', hb', hy, haty⟩ := xd_at (HR.out.x.below HB.out) (show k - 1 < l4 by omega)
                  cases e'
                  have y0 : wr.cell? ⟨b, o + (k - 1) * 5, none⟩ = some (.string y.n) := by
                    obtain ⟨q, h1, h2⟩ := haty 0 _ rfl
                    obtain ⟨rfl, -⟩ := h2
                    exact h1
                  have HXy := hidK hy
                  clear hy haty
                  cases hless : Op.bytesLess y.n.toList x.n.toList
                  · have Gk : Hid (wr.heap[w.heap.size]? = some (.cells #[.slice a1 l1 y1, .slice a2 l2 y2, .slice a3 l3 y3, .slice (some ⟨b, o, none⟩) l4 y4, .slice a5 l5 y5, .int .i64 c.now] 39 (0, 0))) := Bk.out
                    have HW : Hid (Below w.heap.size w wr) := HB.out
                    have k3 := fun q : Wd wr => q.slot (o := 3) Gk.out rfl
                    have x0 : ∀ q : Wd wr, q.w.cell? ⟨b, o + k * 5, none⟩ = some (.string x.n) := fun q => (q.cell (hb)).trans (c0)
                    have x1 : ∀ q : Wd wr, q.w.cell? ⟨b, o + k * 5 + 1, none⟩ = some (.int .i64 x.z) := fun q => (q.cell (hb)).trans (c1)
                    have x2 : ∀ q : Wd wr, q.w.cell? ⟨b, o + k * 5 + 2, none⟩ = some (.string x.k) := fun q => (q.cell (hb)).trans (c2)
                    have x3 : ∀ q : Wd wr, q.w.cell? ⟨b, o + k * 5 + 3, none⟩ = some (.bool x.x) := fun q => (q.cell (hb)).trans (c3)
                    have x4 : ∀ q : Wd wr, q.w.cell? ⟨b, o + k * 5 + 4, none⟩ = some (.string x.v) := fun q => (q.cell (hb)).trans (c4)
                    have yw : ∀ q : Wd wr, q.w.cell? ⟨b, o + (k - 1) * 5, none⟩ = some (.string y.n) := fun q => (q.cell (hb)).trans (y0)
                    have hne0 := Wd.ne wr
                    have HC0 := hidK (fun q : Wd wr => (sclaim_any x.n x.z x.k x.x x.v q.w HZx0.out HZx2.out HZx4.out).mono (fun _ _ h => BoolB.yes h HOK.out))
                    go_wp2_with fail
                    refine wp_region_wide (by kernel_rfl) (by kernel_rfl) ?_
                    repeat (go_big_quiet_step (first | (go_at_call 27; exact Calls.wide (HC0.out _)) | fail))
                    refine wpQuiet_nil ?_
                    rintro _ ⟨q, rfl⟩
                    have HB1 := upB HW q.b
                    have Ck := upK Gk q.b
                    clear hne0 HW HB HC0 k3 x0 x1 x2 x3 x4 yw Gk Bk c0 c1 c2 c3 c4 pk y0
                    have HB := HB1
                    clear HB1
                    have Bk := Ck
                    clear Ck
                    go_wp2
                    go_ret
                    refine BoolB.f (fun h => ?_) HB.out
                    have h3 := h.2.2.2.1.2.2 (k - 1) x y (by rw [Nat.sub_add_cancel hk0]; exact HXx.out) HXy.out
                    rw [hless] at h3
                    cases h3
                  · have Gk : Hid (wr.heap[w.heap.size]? = some (.cells #[.slice a1 l1 y1, .slice a2 l2 y2, .slice a3 l3 y3, .slice (some ⟨b, o, none⟩) l4 y4, .slice a5 l5 y5, .int .i64 c.now] 39 (0, 0))) := Bk.out
                    have HW : Hid (Below w.heap.size w wr) := HB.out
                    have k3 := fun q : Wd wr => q.slot (o := 3) Gk.out rfl
                    have x0 : ∀ q : Wd wr, q.w.cell? ⟨b, o + k * 5, none⟩ = some (.string x.n) := fun q => (q.cell (hb)).trans (c0)
                    have x1 : ∀ q : Wd wr, q.w.cell? ⟨b, o + k * 5 + 1, none⟩ = some (.int .i64 x.z) := fun q => (q.cell (hb)).trans (c1)
                    have x2 : ∀ q : Wd wr, q.w.cell? ⟨b, o + k * 5 + 2, none⟩ = some (.string x.k) := fun q => (q.cell (hb)).trans (c2)
                    have x3 : ∀ q : Wd wr, q.w.cell? ⟨b, o + k * 5 + 3, none⟩ = some (.bool x.x) := fun q => (q.cell (hb)).trans (c3)
                    have x4 : ∀ q : Wd wr, q.w.cell? ⟨b, o + k * 5 + 4, none⟩ = some (.string x.v) := fun q => (q.cell (hb)).trans (c4)
                    have yw : ∀ q : Wd wr, q.w.cell? ⟨b, o + (k - 1) * 5, none⟩ = some (.string y.n) := fun q => (q.cell (hb)).trans (y0)
                    have hne0 := Wd.ne wr
                    have HC0 := hidK (fun q : Wd wr => (sclaim_any x.n x.z x.k x.x x.v q.w HZx0.out HZx2.out HZx4.out).mono (fun _ _ h => BoolB.yes h HOK.out))
                    go_wp2_with fail
                    refine wp_region_wide (by kernel_rfl) (by kernel_rfl) ?_
                    repeat (go_big_quiet_step (first | (go_at_call 27; exact Calls.wide (HC0.out _)) | fail))
                    refine wpQuiet_nil ?_
                    rintro _ ⟨q, rfl⟩
                    have HB1 := upB HW q.b
                    have Ck := upK Gk q.b
                    clear hne0 HW HB HC0 k3 x0 x1 x2 x3 x4 yw Gk Bk c0 c1 c2 c3 c4 pk y0
                    have HB := HB1
                    clear HB1
                    have Bk := Ck
                    clear Ck
                    clear hk0' ek
                    go_wp2_with fail
                    refine ⟨⟨k + 1, by omega, by go_num, fun j z hj hz => ?_, fun j z y hj hz hy => ?_, HB.out, Bk.out⟩, by simp [intOf]; omega⟩
                    · by_cases e : j = k
                      · subst e
                        rw [HXx.out] at hz
                        obtain rfl := Option.some.inj hz
                        exact HOK.out
                      · exact HQ.out j z (by omega) hz
                    · by_cases e : j + 1 = k
                      · have hj : j = k - 1 := by omega
                        subst hj
                        rw [Nat.sub_add_cancel hk0, HXx.out] at hz
                        obtain rfl := Option.some.inj hz
                        rw [HXy.out] at hy
                        obtain rfl := Option.some.inj hy
                        exact hless
                      · exact HO.out j z y (by omega) hz hy
                · obtain rfl : l4 = k := by omega
                  have HR4 : Hid (RowOk xdOk Xd.n c.xs 8) := ⟨by omega, fun j z hz => HQ.out j z (by have := (List.getElem?_eq_some_iff.1 hz).1; omega) hz, fun j z u hz hu => HO.out j z u (by have := (List.getElem?_eq_some_iff.1 hz).1; omega) hz hu⟩
                  clear HQ HO
                  skip
                  have kc : wr.cell? ⟨w.heap.size, 4, none⟩ = some (.slice a5 l5 y5) := cellK Bk.out 4
                  go_wp2
                  go_loopw [7] (fun i wr => ∃ k : Nat, k ≤ l5 ∧ i = .int .i64 k ∧ Hid (∀ (j : Nat) z, j < k → c.ps[j]? = some z → pdOk z) ∧ Hid (∀ (j : Nat) z u, j + 1 < k → c.ps[j + 1]? = some z → c.ps[j]? = some u → Op.bytesLess u.n.toList z.n.toList = true) ∧ Hid (Below w.heap.size w wr) ∧ Hid (wr.heap[w.heap.size]? = some (.cells #[.slice a1 l1 y1, .slice a2 l2 y2, .slice a3 l3 y3, .slice a4 l4 y4, .slice a5 l5 y5, .int .i64 c.now] 39 (0, 0)))) (fun i _ => l5 - (intOf i).toNat)
                  case atStart => exact ⟨0, by omega, rfl, fun _ _ h => absurd h (by omega), fun _ _ _ h => absurd h (by omega), HB.out, Bk.out⟩
                  case round =>
                    obtain ⟨k, hk, rfl, HQ, HO, HB, Bk⟩ := hrel
                    have pk : wr.cell? ⟨w.heap.size, 4, none⟩ = some (.slice a5 l5 y5) := cellK Bk.out 4
                    by_cases hlt : k < l5
                    · obtain ⟨b, o, x, rfl, hb, hx, hat⟩ := pd_at (HR.out.p.below HB.out) hlt
                      obtain ⟨va, vl, vc, hvr, z0, z2, z4, c0, c1, c2, c3, c4, c5⟩ := pd_cells hat
                      have HXx := hidK hx
                      have HTx := hidK hvr
                      have HZx0 := hidK z0
                      have HZx2 := hidK z2
                      have HZx4 := hidK z4
                      clear hat hx z0 z2 z4 hvr
                      by_cases hok : pdOk x
                      rotate_left
                      · have HOK := hidK hok
                        clear hok
                        have Gk : Hid (wr.heap[w.heap.size]? = some (.cells #[.slice a1 l1 y1, .slice a2 l2 y2, .slice a3 l3 y3, .slice a4 l4 y4, .slice (some ⟨b, o, none⟩) l5 y5, .int .i64 c.now] 39 (0, 0))) := Bk.out
                        have HW : Hid (Below w.heap.size w wr) := HB.out
                        have k4 := fun q : Wd wr => q.slot (o := 4) Gk.out rfl
                        have x0 : ∀ q : Wd wr, q.w.cell? ⟨b, o + k * 6, none⟩ = some (.string x.n) := fun q => (q.cell (hb)).trans (c0)
                        have x1 : ∀ q : Wd wr, q.w.cell? ⟨b, o + k * 6 + 1, none⟩ = some (.int .i64 x.c) := fun q => (q.cell (hb)).trans (c1)
                        have x2 : ∀ q : Wd wr, q.w.cell? ⟨b, o + k * 6 + 2, none⟩ = some (.string x.z) := fun q => (q.cell (hb)).trans (c2)
                        have x3 : ∀ q : Wd wr, q.w.cell? ⟨b, o + k * 6 + 3, none⟩ = some (.slice va vl vc) := fun q => (q.cell (hb)).trans (c3)
                        have x4 : ∀ q : Wd wr, q.w.cell? ⟨b, o + k * 6 + 4, none⟩ = some (.string x.d) := fun q => (q.cell (hb)).trans (c4)
                        have x5 : ∀ q : Wd wr, q.w.cell? ⟨b, o + k * 6 + 5, none⟩ = some (.int .i64 x.p) := fun q => (q.cell (hb)).trans (c5)
                        have hne0 := Wd.ne wr
                        have HC0 := hidK (fun q : Wd wr => (spod_any x.n x.c x.z va vl vc x.zs x.d x.p q.w HZx0.out HZx2.out HZx4.out (HTx.out.below q.b)).mono (fun _ _ h => BoolB.no h HOK.out))
                        go_wp2_with fail
                        refine wp_region_wide (by kernel_rfl) (by kernel_rfl) ?_
                        repeat (go_big_quiet_step (first | (go_at_call 125; exact Calls.wide (HC0.out _)) | fail))
                        refine wpQuiet_nil ?_
                        rintro _ ⟨q, rfl⟩
                        have HB1 := upB HW q.b
                        have Ck := upK Gk q.b
                        clear hne0 HW HB HC0 k4 x0 x1 x2 x3 x4 x5 Gk Bk c0 c1 c2 c3 c4 c5 pk
                        have HB := HB1
                        clear HB1
                        have Bk := Ck
                        clear Ck
                        go_wp2
                        go_ret
                        exact BoolB.f (fun h => HOK.out (h.2.2.2.2.2.1 k x HXx.out)) HB.out
                      have HOK := hidK hok
                      clear hok
                      by_cases hk0 : 0 < k
                      rotate_left
                      · have hd : decide ((0 : Int) < k) = false := by simp; omega
                        have Gk : Hid (wr.heap[w.heap.size]? = some (.cells #[.slice a1 l1 y1, .slice a2 l2 y2, .slice a3 l3 y3, .slice a4 l4 y4, .slice (some ⟨b, o, none⟩) l5 y5, .int .i64 c.now] 39 (0, 0))) := Bk.out
                        have HW : Hid (Below w.heap.size w wr) := HB.out
                        have k4 := fun q : Wd wr => q.slot (o := 4) Gk.out rfl
                        have x0 : ∀ q : Wd wr, q.w.cell? ⟨b, o + k * 6, none⟩ = some (.string x.n) := fun q => (q.cell (hb)).trans (c0)
                        have x1 : ∀ q : Wd wr, q.w.cell? ⟨b, o + k * 6 + 1, none⟩ = some (.int .i64 x.c) := fun q => (q.cell (hb)).trans (c1)
                        have x2 : ∀ q : Wd wr, q.w.cell? ⟨b, o + k * 6 + 2, none⟩ = some (.string x.z) := fun q => (q.cell (hb)).trans (c2)
                        have x3 : ∀ q : Wd wr, q.w.cell? ⟨b, o + k * 6 + 3, none⟩ = some (.slice va vl vc) := fun q => (q.cell (hb)).trans (c3)
                        have x4 : ∀ q : Wd wr, q.w.cell? ⟨b, o + k * 6 + 4, none⟩ = some (.string x.d) := fun q => (q.cell (hb)).trans (c4)
                        have x5 : ∀ q : Wd wr, q.w.cell? ⟨b, o + k * 6 + 5, none⟩ = some (.int .i64 x.p) := fun q => (q.cell (hb)).trans (c5)
                        have hne0 := Wd.ne wr
                        have HC0 := hidK (fun q : Wd wr => (spod_any x.n x.c x.z va vl vc x.zs x.d x.p q.w HZx0.out HZx2.out HZx4.out (HTx.out.below q.b)).mono (fun _ _ h => BoolB.yes h HOK.out))
                        go_wp2_with fail
                        refine wp_region_wide (by kernel_rfl) (by kernel_rfl) ?_
                        repeat (go_big_quiet_step (first | (go_at_call 125; exact Calls.wide (HC0.out _)) | fail))
                        refine wpQuiet_nil ?_
                        rintro _ ⟨q, rfl⟩
                        have HB1 := upB HW q.b
                        have Ck := upK Gk q.b
                        clear hne0 HW HB HC0 k4 x0 x1 x2 x3 x4 x5 Gk Bk c0 c1 c2 c3 c4 c5 pk
                        have HB := HB1
                        clear HB1
                        have Bk := Ck
                        clear Ck
                        clear hd
                        go_wp2_with fail
                        refine ⟨⟨k + 1, by omega, by go_num, fun j z hj hz => ?_, fun j z y hj hz hy => ?_, HB.out, Bk.out⟩, by simp [intOf]; omega⟩
                        · by_cases e : j = k
                          · subst e
                            rw [HXx.out] at hz
                            obtain rfl := Option.some.inj hz
                            exact HOK.out
                          · exact HQ.out j z (by omega) hz
                        · by_cases e : j + 1 = k
                          · exact absurd hk0 (by omega)
                          · exact HO.out j z y (by omega) hz hy
                      have hk0' : (0 : Int) < k := by omega
                      have ek : ((k : Int) - 1).toNat = k - 1 := by omega
                      obtain ⟨b', o', y, e', hb', hy, haty⟩ := pd_at (HR.out.p.below HB.out) (show k - 1 < l5 by omega)
                      cases e'
                      have y0 : wr.cell? ⟨b, o + (k - 1) * 6, none⟩ = some (.string y.n) := by
                        obtain ⟨q, h1, h2⟩ := haty 0 _ rfl
                        obtain ⟨rfl, -⟩ := h2
                        exact h1
                      have HXy := hidK hy
                      clear hy haty
                      cases hless : Op.bytesLess y.n.toList x.n.toList
                      · have Gk : Hid (wr.heap[w.heap.size]? = some (.cells #[.slice a1 l1 y1, .slice a2 l2 y2, .slice a3 l3 y3, .slice a4 l4 y4, .slice (some ⟨b, o, none⟩) l5 y5, .int .i64 c.now] 39 (0, 0))) := Bk.out
                        have HW : Hid (Below w.heap.size w wr) := HB.out
                        have k4 := fun q : Wd wr => q.slot (o := 4) Gk.out rfl
                        have x0 : ∀ q : Wd wr, q.w.cell? ⟨b, o + k * 6, none⟩ = some (.string x.n) := fun q => (q.cell (hb)).trans (c0)
                        have x1 : ∀ q : Wd wr, q.w.cell? ⟨b, o + k * 6 + 1, none⟩ = some (.int .i64 x.c) := fun q => (q.cell (hb)).trans (c1)
                        have x2 : ∀ q : Wd wr, q.w.cell? ⟨b, o + k * 6 + 2, none⟩ = some (.string x.z) := fun q => (q.cell (hb)).trans (c2)
                        have x3 : ∀ q : Wd wr, q.w.cell? ⟨b, o + k * 6 + 3, none⟩ = some (.slice va vl vc) := fun q => (q.cell (hb)).trans (c3)
                        have x4 : ∀ q : Wd wr, q.w.cell? ⟨b, o + k * 6 + 4, none⟩ = some (.string x.d) := fun q => (q.cell (hb)).trans (c4)
                        have x5 : ∀ q : Wd wr, q.w.cell? ⟨b, o + k * 6 + 5, none⟩ = some (.int .i64 x.p) := fun q => (q.cell (hb)).trans (c5)
                        have yw : ∀ q : Wd wr, q.w.cell? ⟨b, o + (k - 1) * 6, none⟩ = some (.string y.n) := fun q => (q.cell (hb)).trans (y0)
                        have hne0 := Wd.ne wr
                        have HC0 := hidK (fun q : Wd wr => (spod_any x.n x.c x.z va vl vc x.zs x.d x.p q.w HZx0.out HZx2.out HZx4.out (HTx.out.below q.b)).mono (fun _ _ h => BoolB.yes h HOK.out))
                        go_wp2_with fail
                        refine wp_region_wide (by kernel_rfl) (by kernel_rfl) ?_
                        repeat (go_big_quiet_step (first | (go_at_call 125; exact Calls.wide (HC0.out _)) | fail))
                        refine wpQuiet_nil ?_
                        rintro _ ⟨q, rfl⟩
                        have HB1 := upB HW q.b
                        have Ck := upK Gk q.b
                        clear hne0 HW HB HC0 k4 x0 x1 x2 x3 x4 x5 yw Gk Bk c0 c1 c2 c3 c4 c5 pk y0
                        have HB := HB1
                        clear HB1
                        have Bk := Ck
                        clear Ck
                        go_wp2
                        go_ret
                        refine BoolB.f (fun h => ?_) HB.out
                        have h3 := h.2.2.2.2.2.2 (k - 1) x y (by rw [Nat.sub_add_cancel hk0]; exact HXx.out) HXy.out
                        rw [hless] at h3
                        cases h3
                      · have Gk : Hid (wr.heap[w.heap.size]? = some (.cells #[.slice a1 l1 y1, .slice a2 l2 y2, .slice a3 l3 y3, .slice a4 l4 y4, .slice (some ⟨b, o, none⟩) l5 y5, .int .i64 c.now] 39 (0, 0))) := Bk.out
                        have HW : Hid (Below w.heap.size w wr) := HB.out
                        have k4 := fun q : Wd wr => q.slot (o := 4) Gk.out rfl
                        have x0 : ∀ q : Wd wr, q.w.cell? ⟨b, o + k * 6, none⟩ = some (.string x.n) := fun q => (q.cell (hb)).trans (c0)
                        have x1 : ∀ q : Wd wr, q.w.cell? ⟨b, o + k * 6 + 1, none⟩ = some (.int .i64 x.c) := fun q => (q.cell (hb)).trans (c1)
                        have x2 : ∀ q : Wd wr, q.w.cell? ⟨b, o + k * 6 + 2, none⟩ = some (.string x.z) := fun q => (q.cell (hb)).trans (c2)
                        have x3 : ∀ q : Wd wr, q.w.cell? ⟨b, o + k * 6 + 3, none⟩ = some (.slice va vl vc) := fun q => (q.cell (hb)).trans (c3)
                        have x4 : ∀ q : Wd wr, q.w.cell? ⟨b, o + k * 6 + 4, none⟩ = some (.string x.d) := fun q => (q.cell (hb)).trans (c4)
                        have x5 : ∀ q : Wd wr, q.w.cell? ⟨b, o + k * 6 + 5, none⟩ = some (.int .i64 x.p) := fun q => (q.cell (hb)).trans (c5)
                        have yw : ∀ q : Wd wr, q.w.cell? ⟨b, o + (k - 1) * 6, none⟩ = some (.string y.n) := fun q => (q.cell (hb)).trans (y0)
                        have hne0 := Wd.ne wr
                        have HC0 := hidK (fun q : Wd wr => (spod_any x.n x.c x.z va vl vc x.zs x.d x.p q.w HZx0.out HZx2.out HZx4.out (HTx.out.below q.b)).mono (fun _ _ h => BoolB.yes h HOK.out))
                        go_wp2_with fail
                        refine wp_region_wide (by kernel_rfl) (by kernel_rfl) ?_
                        repeat (go_big_quiet_step (first | (go_at_call 125; exact Calls.wide (HC0.out _)) | fail))
                        refine wpQuiet_nil ?_
                        rintro _ ⟨q, rfl⟩
                        have HB1 := upB HW q.b
                        have Ck := upK Gk q.b
                        clear hne0 HW HB HC0 k4 x0 x1 x2 x3 x4 x5 yw Gk Bk c0 c1 c2 c3 c4 c5 pk y0
                        have HB := HB1
                        clear HB1
                        have Bk := Ck
                        clear Ck
                        clear hk0' ek
                        go_wp2_with fail
                        refine ⟨⟨k + 1, by omega, by go_num, fun j z hj hz => ?_, fun j z y hj hz hy => ?_, HB.out, Bk.out⟩, by simp [intOf]; omega⟩
                        · by_cases e : j = k
                          · subst e
                            rw [HXx.out] at hz
                            obtain rfl := Option.some.inj hz
                            exact HOK.out
                          · exact HQ.out j z (by omega) hz
                        · by_cases e : j + 1 = k
                          · have hj : j = k - 1 := by omega
                            subst hj
                            rw [Nat.sub_add_cancel hk0, HXx.out] at hz
                            obtain rfl := Option.some.inj hz
                            rw [HXy.out] at hy
                            obtain rfl := Option.some.inj hy
                            exact hless
                          · exact HO.out j z y (by omega) hz hy
                    · obtain rfl : l5 = k := by omega
                      have HR5 : Hid (RowOk pdOk Pd.n c.ps 8) := ⟨by omega, fun j z hz => HQ.out j z (by have := (List.getElem?_eq_some_iff.1 hz).1; omega) hz, fun j z u hz hu => HO.out j z u (by have := (List.getElem?_eq_some_iff.1 hz).1; omega) hz hu⟩
                      clear HQ HO
                      go_wp2
                      go_ret
                      exact BoolB.t ⟨HR1.out, HR2.out, HR3.out, HR4.out, HR5.out⟩ HB.out

def KHas (c : Cl) (t : ByteArray) : Prop := ∃ (i : Nat) (k : Kd), c.ks[i]? = some k ∧ k.n = t
def SV (c : Cl) (v : Vd) : Prop := KHas c v.k ∧ (v.m = ⟨#[]⟩ ∨ ∃ (i : Nat) (x : Xd), c.xs[i]? = some x ∧ x.n = v.m ∧ x.v = v.n)
def SX (c : Cl) (x : Xd) : Prop := KHas c x.k ∧ (x.v = ⟨#[]⟩ ∨ ∃ (j : Nat) (v : Vd), c.vs[j]? = some v ∧ v.n = x.v ∧ v.m = x.n ∧ x.z ≤ v.c ∧ v.k = x.k ∧ v.x = x.x)
def BoundS (c : Cl) : Prop := (∀ (j : Nat) z, c.vs[j]? = some z → SV c z) ∧ (∀ (j : Nat) z, c.xs[j]? = some z → SX c z)

set_option maxRecDepth 100000 in
set_option maxHeartbeats 12800000 in
theorem sbound_any (d : Ad) (c : Cl) (w : World) (hr : ClRow w d c.raw) (hks : RisBy Kd.n c.ks) (hxs : RisBy Xd.n c.xs) (hvs : RisBy Vd.n c.vs) :
    Calls Tryz.prog 73 #[.agg #[.slice d.a1 d.l1 d.c1, .slice d.a2 d.l2 d.c2, .slice d.a3 d.l3 d.c3, .slice d.a4 d.l4 d.c4, .slice d.a5 d.l5 d.c5, .int .i64 c.now]] w (BoolB (BoundS c) w) := by
  obtain ⟨a1, l1, y1, a2, l2, y2, a3, l3, y3, a4, l4, y4, a5, l5, y5⟩ := d
  dsimp only
  have HR := hidK hr
  have hl1 : c.ns.length = l1 := by simpa using (show (c.ns.map ndF).length = l1 from hr.n.1)
  have hm1 : l1 ≤ 9223372036854775807 := Nat.le_trans hr.n.2.1 hr.n.2.2.1
  have hl2 : c.ks.length = l2 := by simpa using (show (c.ks.map kdF).length = l2 from hr.k.1)
  have hm2 : l2 ≤ 9223372036854775807 := Nat.le_trans hr.k.2.1 hr.k.2.2.1
  have hl3 : c.vs.length = l3 := by simpa using (show (c.vs.map vdF).length = l3 from hr.v.1)
  have hm3 : l3 ≤ 9223372036854775807 := Nat.le_trans hr.v.2.1 hr.v.2.2.1
  have hl4 : c.xs.length = l4 := by simpa using (show (c.xs.map xdF).length = l4 from hr.x.1)
  have hm4 : l4 ≤ 9223372036854775807 := Nat.le_trans hr.x.2.1 hr.x.2.2.1
  have hl5 : c.ps.length = l5 := by simpa using (show (c.ps.map pdF).length = l5 from hr.p.1)
  have hm5 : l5 ≤ 9223372036854775807 := Nat.le_trans hr.p.2.1 hr.p.2.2.1
  clear hr
  have HKS := hidK hks
  have HXS := hidK hxs
  have HVS := hidK hvs
  clear hks hxs hvs
  go_enter Tryz.func73, Tryz.ntmps73
  go_wp2
  go_loopw [3] (fun i wr => ∃ k : Nat, k ≤ l3 ∧ i = .int .i64 k ∧ Hid (∀ (j : Nat) z, j < k → c.vs[j]? = some z → SV c z) ∧ Hid (Below w.heap.size w wr) ∧ Hid (wr.heap[w.heap.size]? = some (.cells #[.slice a1 l1 y1, .slice a2 l2 y2, .slice a3 l3 y3, .slice a4 l4 y4, .slice a5 l5 y5, .int .i64 c.now] 39 (0, 0)))) (fun i _ => l3 - (intOf i).toNat)
  case atStart => exact ⟨0, by omega, rfl, fun _ _ h => absurd h (by omega), below1 _ _, Array.getElem?_push_size⟩
  case round =>
    obtain ⟨k, hk, rfl, HQ, HB, Bk⟩ := hrel
    have pk : wr.cell? ⟨w.heap.size, 2, none⟩ = some (.slice a3 l3 y3) := cellK Bk.out 2
    by_cases hlt : k < l3
    · obtain ⟨b, o, v, rfl, hb, hx, hat⟩ := vd_at (HR.out.v.below HB.out) hlt
      obtain ⟨va, vl, vc, hvr, z0, z2, z3, z5, c0, c1, c2, c3, c4, c5, c6, c7⟩ := vd_cells hat
      have HXv := hidK hx
      have HTv := hidK hvr
      have HZv0 := hidK z0
      have HZv2 := hidK z2
      have HZv3 := hidK z3
      have HZv5 := hidK z5
      clear hat hx z0 z2 z3 z5 hvr
      obtain ⟨k0, k1, k2, k3, k4, k5⟩ := cs6 Bk.out
      have ltk_0 := lt_of_some Bk.out
      go_wp2_with fail
      refine (sxxd_any ⟨a1, l1, y1, a2, l2, y2, (some ⟨b, o, none⟩), l3, y3, a4, l4, y4, a5, l5, y5⟩ c.now c.xs v.m _ (HR.out.x.below (HB.out.trans ((below1 _ _).mono HB.out.size)))).mono ?_
      rintro e w1 ⟨hb2, hf⟩
      clear k0 k1 k2 k3 k4 k5 ltk_0
      obtain ⟨HA0, hbx⟩ := slots1 hb2
      replace Bk := upK Bk hbx
      have Br := hidK HA0
      replace HB := upB HB hbx
      clear hb2 hbx HA0
      clear pk hb c0 c1 c2 c3 c4 c5 c6 c7
      by_cases hkh : KHas c v.k
      rotate_left
      · have HKH := hidK hkh
        clear hkh
        obtain ⟨r, hre⟩ : ∃ r : Int, e = .returned (.int .i64 r) := by rcases hf with ⟨j, y, _, _, h⟩ | ⟨_, h⟩ <;> exact ⟨_, h⟩
        subst hre
        clear hf
        have Gk : Hid (w1.heap[w.heap.size]? = some (.cells #[.slice a1 l1 y1, .slice a2 l2 y2, .slice (some ⟨b, o, none⟩) l3 y3, .slice a4 l4 y4, .slice a5 l5 y5, .int .i64 c.now] 39 (0, 0))) := Bk.out
        have Gr : Hid (w1.heap[wr.heap.size]? = some (.cells #[.string v.n, .int .i64 v.c, .string v.z, .string v.k, .bool v.x, .string v.m, .bool v.y, .slice va vl vc] 53 (0, 0))) := Br.out
        have HW : Hid (Below w.heap.size w w1) := HB.out
        have k0 := fun q : Wd w1 => q.slot (o := 0) Gk.out rfl
        have k1 := fun q : Wd w1 => q.slot (o := 1) Gk.out rfl
        have k2 := fun q : Wd w1 => q.slot (o := 2) Gk.out rfl
        have k3 := fun q : Wd w1 => q.slot (o := 3) Gk.out rfl
        have k4 := fun q : Wd w1 => q.slot (o := 4) Gk.out rfl
        have k5 := fun q : Wd w1 => q.slot (o := 5) Gk.out rfl
        have r0 := fun q : Wd w1 => q.slot (o := 0) Gr.out rfl
        have r1 := fun q : Wd w1 => q.slot (o := 1) Gr.out rfl
        have r2 := fun q : Wd w1 => q.slot (o := 2) Gr.out rfl
        have r3 := fun q : Wd w1 => q.slot (o := 3) Gr.out rfl
        have r4 := fun q : Wd w1 => q.slot (o := 4) Gr.out rfl
        have r5 := fun q : Wd w1 => q.slot (o := 5) Gr.out rfl
        have r6 := fun q : Wd w1 => q.slot (o := 6) Gr.out rfl
        have r7 := fun q : Wd w1 => q.slot (o := 7) Gr.out rfl
        have hne0 := Wd.ne w1
        have HC0 := hidK (fun q : Wd w1 => sxkd_miss ⟨a1, l1, y1, a2, l2, y2, (some ⟨b, o, none⟩), l3, y3, a4, l4, y4, a5, l5, y5⟩ c.now c.ks v.k q.w (HR.out.k.below (HW.out.trans (q.b.mono HW.out.size))) (fun j y h1 h2 => HKH.out ⟨j, y, h1, h2⟩))
        go_wp2_with fail
        refine wp_region_wide (by kernel_rfl) (by kernel_rfl) ?_
        repeat (go_big_quiet_step (first | (go_at_call 31; exact Calls.wide (HC0.out _)) | fail))
        refine wpQuiet_nil ?_
        rintro _ ⟨q1, rfl⟩
        have HB2 := upB HW q1.b
        have Ck := upK Gk q1.b
        have Cr := upK Gr q1.b
        clear hne0 HW HB HC0 k0 k1 k2 k3 k4 k5 r0 r1 r2 r3 r4 r5 r6 r7 Gk Gr Bk Br
        have HB := HB2
        clear HB2
        have Bk := Ck
        clear Ck
        have Br := Cr
        clear Cr
        go_wp2
        go_ret
        exact BoolB.f (fun h => HKH.out (h.1 k v HXv.out).1) HB.out
      obtain ⟨i2, kd2, g1, g2⟩ := hkh
      have HG1 := hidK g1
      have HG2 := hidK g2
      have hi20 : ¬ ((i2 : Int) < 0) := by omega
      have hi21 : decide ((i2 : Int) < 0) = false := by simp
      clear g1 g2
      by_cases he : v.m = ⟨#[]⟩
      · have hq := isE_y he
        have HEm := hidK he
        clear he
        obtain ⟨r, hre⟩ : ∃ r : Int, e = .returned (.int .i64 r) := by rcases hf with ⟨j, y, _, _, h⟩ | ⟨_, h⟩ <;> exact ⟨_, h⟩
        subst hre
        clear hf
        have Gk : Hid (w1.heap[w.heap.size]? = some (.cells #[.slice a1 l1 y1, .slice a2 l2 y2, .slice (some ⟨b, o, none⟩) l3 y3, .slice a4 l4 y4, .slice a5 l5 y5, .int .i64 c.now] 39 (0, 0))) := Bk.out
        have Gr : Hid (w1.heap[wr.heap.size]? = some (.cells #[.string v.n, .int .i64 v.c, .string v.z, .string v.k, .bool v.x, .string v.m, .bool v.y, .slice va vl vc] 53 (0, 0))) := Br.out
        have HW : Hid (Below w.heap.size w w1) := HB.out
        have k0 := fun q : Wd w1 => q.slot (o := 0) Gk.out rfl
        have k1 := fun q : Wd w1 => q.slot (o := 1) Gk.out rfl
        have k2 := fun q : Wd w1 => q.slot (o := 2) Gk.out rfl
        have k3 := fun q : Wd w1 => q.slot (o := 3) Gk.out rfl
        have k4 := fun q : Wd w1 => q.slot (o := 4) Gk.out rfl
        have k5 := fun q : Wd w1 => q.slot (o := 5) Gk.out rfl
        have r0 := fun q : Wd w1 => q.slot (o := 0) Gr.out rfl
        have r1 := fun q : Wd w1 => q.slot (o := 1) Gr.out rfl
        have r2 := fun q : Wd w1 => q.slot (o := 2) Gr.out rfl
        have r3 := fun q : Wd w1 => q.slot (o := 3) Gr.out rfl
        have r4 := fun q : Wd w1 => q.slot (o := 4) Gr.out rfl
        have r5 := fun q : Wd w1 => q.slot (o := 5) Gr.out rfl
        have r6 := fun q : Wd w1 => q.slot (o := 6) Gr.out rfl
        have r7 := fun q : Wd w1 => q.slot (o := 7) Gr.out rfl
        have hne0 := Wd.ne w1
        have HC0 := hidK (fun q : Wd w1 => sxkd_hit ⟨a1, l1, y1, a2, l2, y2, (some ⟨b, o, none⟩), l3, y3, a4, l4, y4, a5, l5, y5⟩ c.now c.ks v.k q.w (HR.out.k.below (HW.out.trans (q.b.mono HW.out.size))) HKS.out HG1.out HG2.out)
        go_wp2_with fail
        refine wp_region_wide (by kernel_rfl) (by kernel_rfl) ?_
        repeat (go_big_quiet_step (first | (go_at_call 31; exact Calls.wide (HC0.out _)) | fail))
        refine wpQuiet_nil ?_
        rintro _ ⟨q1, rfl⟩
        have HB2 := upB HW q1.b
        have Ck := upK Gk q1.b
        have Cr := upK Gr q1.b
        clear hne0 HW HB HC0 k0 k1 k2 k3 k4 k5 r0 r1 r2 r3 r4 r5 r6 r7 Gk Gr Bk Br
        have HB := HB2
        clear HB2
        have Bk := Ck
        clear Ck
        have Br := Cr
        clear Cr
        go_wp2_with fail
        refine ⟨⟨k + 1, by omega, by go_num, fun j z hj hz => ?_, HB.out, Bk.out⟩, by simp [intOf]; omega⟩
        by_cases e : j = k
        · subst e
          rw [HXv.out] at hz
          obtain rfl := Option.some.inj hz
          exact ⟨⟨i2, kd2, HG1.out, HG2.out⟩, .inl HEm.out⟩
        · exact HQ.out j z (by omega) hz
      have hq := isE_no he
      have HEm := hidK he
      clear he
      rcases hf with ⟨j4, y, h1, h2, rfl⟩ | ⟨hh, rfl⟩
      rotate_left
      · have HH := hidK hh
        clear hh
        have Gk : Hid (w1.heap[w.heap.size]? = some (.cells #[.slice a1 l1 y1, .slice a2 l2 y2, .slice (some ⟨b, o, none⟩) l3 y3, .slice a4 l4 y4, .slice a5 l5 y5, .int .i64 c.now] 39 (0, 0))) := Bk.out
        have Gr : Hid (w1.heap[wr.heap.size]? = some (.cells #[.string v.n, .int .i64 v.c, .string v.z, .string v.k, .bool v.x, .string v.m, .bool v.y, .slice va vl vc] 53 (0, 0))) := Br.out
        have HW : Hid (Below w.heap.size w w1) := HB.out
        have k0 := fun q : Wd w1 => q.slot (o := 0) Gk.out rfl
        have k1 := fun q : Wd w1 => q.slot (o := 1) Gk.out rfl
        have k2 := fun q : Wd w1 => q.slot (o := 2) Gk.out rfl
        have k3 := fun q : Wd w1 => q.slot (o := 3) Gk.out rfl
        have k4 := fun q : Wd w1 => q.slot (o := 4) Gk.out rfl
        have k5 := fun q : Wd w1 => q.slot (o := 5) Gk.out rfl
        have r0 := fun q : Wd w1 => q.slot (o := 0) Gr.out rfl
        have r1 := fun q : Wd w1 => q.slot (o := 1) Gr.out rfl
        have r2 := fun q : Wd w1 => q.slot (o := 2) Gr.out rfl
        have r3 := fun q : Wd w1 => q.slot (o := 3) Gr.out rfl
        have r4 := fun q : Wd w1 => q.slot (o := 4) Gr.out rfl
        have r5 := fun q : Wd w1 => q.slot (o := 5) Gr.out rfl
        have r6 := fun q : Wd w1 => q.slot (o := 6) Gr.out rfl
        have r7 := fun q : Wd w1 => q.slot (o := 7) Gr.out rfl
        have hne0 := Wd.ne w1
        have HC0 := hidK (fun q : Wd w1 => sxkd_hit ⟨a1, l1, y1, a2, l2, y2, (some ⟨b, o, none⟩), l3, y3, a4, l4, y4, a5, l5, y5⟩ c.now c.ks v.k q.w (HR.out.k.below (HW.out.trans (q.b.mono HW.out.size))) HKS.out HG1.out HG2.out)
        go_wp2_with fail
        refine wp_region_wide (by kernel_rfl) (by kernel_rfl) ?_
        repeat (go_big_quiet_step (first | (go_at_call 31; exact Calls.wide (HC0.out _)) | fail))
        refine wpQuiet_nil ?_
        rintro _ ⟨q1, rfl⟩
        have HB2 := upB HW q1.b
        have Ck := upK Gk q1.b
        have Cr := upK Gr q1.b
        clear hne0 HW HB HC0 k0 k1 k2 k3 k4 k5 r0 r1 r2 r3 r4 r5 r6 r7 Gk Gr Bk Br
        have HB := HB2
        clear HB2
        have Bk := Ck
        clear Ck
        have Br := Cr
        clear Cr
        go_wp2
        go_ret
        refine BoolB.f (fun h => ?_) HB.out
        rcases (h.1 k v HXv.out).2 with h2 | ⟨i, y, h2, h3, _⟩
        · exact HEm.out h2
        · exact HH.out i y h2 h3
      have hl4' : j4 < l4 := by have h3 := (List.getElem?_eq_some_iff.1 h1).1; omega
      obtain ⟨b4, o4, y', rfl, hb4, hy', hat⟩ := xd_at HR.out.x hl4'
      rw [h1] at hy'
      obtain rfl := Option.some.inj hy'
      obtain ⟨z0, z2, z4, c0, c1, c2, c3, c4⟩ := xd_cells hat
      have HJ := hidK h1
      have HN := hidK h2
      have hcv := (cell_below HB.out hb4).trans c4
      have hbv : b4 < w1.heap.size := Nat.lt_of_lt_of_le hb4 HB.out.size
      have hj0 : ¬ ((j4 : Int) < 0) := by omega
      have hj1 : decide ((j4 : Int) < 0) = false := by simp
      clear hy' hat z0 z2 z4 c0 c1 c2 c3 c4 h1 h2
      by_cases hvn : y.v = v.n
      · have hq2 := tl_yes hvn
        have HVN := hidK hvn
        clear hvn
        have Gk : Hid (w1.heap[w.heap.size]? = some (.cells #[.slice a1 l1 y1, .slice a2 l2 y2, .slice (some ⟨b, o, none⟩) l3 y3, .slice (some ⟨b4, o4, none⟩) l4 y4, .slice a5 l5 y5, .int .i64 c.now] 39 (0, 0))) := Bk.out
        have Gr : Hid (w1.heap[wr.heap.size]? = some (.cells #[.string v.n, .int .i64 v.c, .string v.z, .string v.k, .bool v.x, .string v.m, .bool v.y, .slice va vl vc] 53 (0, 0))) := Br.out
        have HW : Hid (Below w.heap.size w w1) := HB.out
        have k0 := fun q : Wd w1 => q.slot (o := 0) Gk.out rfl
        have k1 := fun q : Wd w1 => q.slot (o := 1) Gk.out rfl
        have k2 := fun q : Wd w1 => q.slot (o := 2) Gk.out rfl
        have k3 := fun q : Wd w1 => q.slot (o := 3) Gk.out rfl
        have k4 := fun q : Wd w1 => q.slot (o := 4) Gk.out rfl
        have k5 := fun q : Wd w1 => q.slot (o := 5) Gk.out rfl
        have r0 := fun q : Wd w1 => q.slot (o := 0) Gr.out rfl
        have r1 := fun q : Wd w1 => q.slot (o := 1) Gr.out rfl
        have r2 := fun q : Wd w1 => q.slot (o := 2) Gr.out rfl
        have r3 := fun q : Wd w1 => q.slot (o := 3) Gr.out rfl
        have r4 := fun q : Wd w1 => q.slot (o := 4) Gr.out rfl
        have r5 := fun q : Wd w1 => q.slot (o := 5) Gr.out rfl
        have r6 := fun q : Wd w1 => q.slot (o := 6) Gr.out rfl
        have r7 := fun q : Wd w1 => q.slot (o := 7) Gr.out rfl
        have yw : ∀ q : Wd w1, q.w.cell? ⟨b4, o4 + j4 * 5 + 4, none⟩ = some (.string y.v) := fun q => (q.cell (hbv)).trans (hcv)
        have hne0 := Wd.ne w1
        have HC0 := hidK (fun q : Wd w1 => sxkd_hit ⟨a1, l1, y1, a2, l2, y2, (some ⟨b, o, none⟩), l3, y3, (some ⟨b4, o4, none⟩), l4, y4, a5, l5, y5⟩ c.now c.ks v.k q.w (HR.out.k.below (HW.out.trans (q.b.mono HW.out.size))) HKS.out HG1.out HG2.out)
        go_wp2_with fail
        refine wp_region_wide (by kernel_rfl) (by kernel_rfl) ?_
        repeat (go_big_quiet_step (first | (go_at_call 31; exact Calls.wide (HC0.out _)) | fail))
        refine wpQuiet_nil ?_
        rintro _ ⟨q1, rfl⟩
        have HB2 := upB HW q1.b
        have Ck := upK Gk q1.b
        have Cr := upK Gr q1.b
        clear hne0 HW HB HC0 k0 k1 k2 k3 k4 k5 r0 r1 r2 r3 r4 r5 r6 r7 yw Gk Gr Bk Br hcv hbv
        have HB := HB2
        clear HB2
        have Bk := Ck
        clear Ck
        have Br := Cr
        clear Cr
        go_wp2_with fail
        refine ⟨⟨k + 1, by omega, by go_num, fun j z hj hz => ?_, HB.out, Bk.out⟩, by simp [intOf]; omega⟩
        by_cases e : j = k
        · subst e
          rw [HXv.out] at hz
          obtain rfl := Option.some.inj hz
          exact ⟨⟨i2, kd2, HG1.out, HG2.out⟩, .inr ⟨j4, y, HJ.out, HN.out, HVN.out⟩⟩
        · exact HQ.out j z (by omega) hz
      · have hq2 := tl_no hvn
        have HVN := hidK hvn
        clear hvn
        have Gk : Hid (w1.heap[w.heap.size]? = some (.cells #[.slice a1 l1 y1, .slice a2 l2 y2, .slice (some ⟨b, o, none⟩) l3 y3, .slice (some ⟨b4, o4, none⟩) l4 y4, .slice a5 l5 y5, .int .i64 c.now] 39 (0, 0))) := Bk.out
        have Gr : Hid (w1.heap[wr.heap.size]? = some (.cells #[.string v.n, .int .i64 v.c, .string v.z, .string v.k, .bool v.x, .string v.m, .bool v.y, .slice va vl vc] 53 (0, 0))) := Br.out
        have HW : Hid (Below w.heap.size w w1) := HB.out
        have k0 := fun q : Wd w1 => q.slot (o := 0) Gk.out rfl
        have k1 := fun q : Wd w1 => q.slot (o := 1) Gk.out rfl
        have k2 := fun q : Wd w1 => q.slot (o := 2) Gk.out rfl
        have k3 := fun q : Wd w1 => q.slot (o := 3) Gk.out rfl
        have k4 := fun q : Wd w1 => q.slot (o := 4) Gk.out rfl
        have k5 := fun q : Wd w1 => q.slot (o := 5) Gk.out rfl
        have r0 := fun q : Wd w1 => q.slot (o := 0) Gr.out rfl
        have r1 := fun q : Wd w1 => q.slot (o := 1) Gr.out rfl
        have r2 := fun q : Wd w1 => q.slot (o := 2) Gr.out rfl
        have r3 := fun q : Wd w1 => q.slot (o := 3) Gr.out rfl
        have r4 := fun q : Wd w1 => q.slot (o := 4) Gr.out rfl
        have r5 := fun q : Wd w1 => q.slot (o := 5) Gr.out rfl
        have r6 := fun q : Wd w1 => q.slot (o := 6) Gr.out rfl
        have r7 := fun q : Wd w1 => q.slot (o := 7) Gr.out rfl
        have yw : ∀ q : Wd w1, q.w.cell? ⟨b4, o4 + j4 * 5 + 4, none⟩ = some (.string y.v) := fun q => (q.cell (hbv)).trans (hcv)
        have hne0 := Wd.ne w1
        have HC0 := hidK (fun q : Wd w1 => sxkd_hit ⟨a1, l1, y1, a2, l2, y2, (some ⟨b, o, none⟩), l3, y3, (some ⟨b4, o4, none⟩), l4, y4, a5, l5, y5⟩ c.now c.ks v.k q.w (HR.out.k.below (HW.out.trans (q.b.mono HW.out.size))) HKS.out HG1.out HG2.out)
        go_wp2_with fail
        refine wp_region_wide (by kernel_rfl) (by kernel_rfl) ?_
        repeat (go_big_quiet_step (first | (go_at_call 31; exact Calls.wide (HC0.out _)) | fail))
        refine wpQuiet_nil ?_
        rintro _ ⟨q1, rfl⟩
        have HB2 := upB HW q1.b
        have Ck := upK Gk q1.b
        have Cr := upK Gr q1.b
        clear hne0 HW HB HC0 k0 k1 k2 k3 k4 k5 r0 r1 r2 r3 r4 r5 r6 r7 yw Gk Gr Bk Br hcv hbv
        have HB := HB2
        clear HB2
        have Bk := Ck
        clear Ck
        have Br := Cr
        clear Cr
        go_wp2
        go_ret
        refine BoolB.f (fun h => ?_) HB.out
        rcases (h.1 k v HXv.out).2 with h2 | ⟨i, y2, h2, h3, h4⟩
        · exact HEm.out h2
        · obtain ⟨_, rfl⟩ := HXS.out.inj h2 HJ.out (h3.trans HN.out.symm)
          exact HVN.out h4
    · obtain rfl : l3 = k := by omega
      have HQ1 : Hid (∀ (j : Nat) z, c.vs[j]? = some z → SV c z) := fun j z hz => HQ.out j z (by have := (List.getElem?_eq_some_iff.1 hz).1; omega) hz
      clear HQ
      have kc : wr.cell? ⟨w.heap.size, 3, none⟩ = some (.slice a4 l4 y4) := cellK Bk.out 3
      go_wp2
      go_loopw [6] (fun i wr => ∃ k : Nat, k ≤ l4 ∧ i = .int .i64 k ∧ Hid (∀ (j : Nat) z, j < k → c.xs[j]? = some z → SX c z) ∧ Hid (Below w.heap.size w wr) ∧ Hid (wr.heap[w.heap.size]? = some (.cells #[.slice a1 l1 y1, .slice a2 l2 y2, .slice a3 l3 y3, .slice a4 l4 y4, .slice a5 l5 y5, .int .i64 c.now] 39 (0, 0)))) (fun i _ => l4 - (intOf i).toNat)
      case atStart => exact ⟨0, by omega, rfl, fun _ _ h => absurd h (by omega), HB.out, Bk.out⟩
      case round =>
        obtain ⟨k, hk, rfl, HQ, HB, Bk⟩ := hrel
        have pk : wr.cell? ⟨w.heap.size, 3, none⟩ = some (.slice a4 l4 y4) := cellK Bk.out 3
        by_cases hlt : k < l4
        · obtain ⟨b, o, x, rfl, hb, hx, hat⟩ := xd_at (HR.out.x.below HB.out) hlt
          obtain ⟨z0, z2, z4, c0, c1, c2, c3, c4⟩ := xd_cells hat
          have HXx := hidK hx
          have HZx0 := hidK z0
          have HZx2 := hidK z2
          have HZx4 := hidK z4
          clear hat hx z0 z2 z4
          obtain ⟨k0, k1, k2, k3, k4, k5⟩ := cs6 Bk.out
          have ltk_0 := lt_of_some Bk.out
          go_wp2_with fail
          refine (sxvd_any ⟨a1, l1, y1, a2, l2, y2, a3, l3, y3, (some ⟨b, o, none⟩), l4, y4, a5, l5, y5⟩ c.now c.vs x.v _ (HR.out.v.below (HB.out.trans ((below1 _ _).mono HB.out.size)))).mono ?_
          rintro e w1 ⟨hb2, hf⟩
          clear k0 k1 k2 k3 k4 k5 ltk_0
          obtain ⟨HA0, hbx⟩ := slots1 hb2
          replace Bk := upK Bk hbx
          have Br := hidK HA0
          replace HB := upB HB hbx
          clear hb2 hbx HA0
          clear pk hb c0 c1 c2 c3 c4
          by_cases hkh : KHas c x.k
          rotate_left
          · have HKH := hidK hkh
            clear hkh
            obtain ⟨r, hre⟩ : ∃ r : Int, e = .returned (.int .i64 r) := by rcases hf with ⟨j, y, _, _, h⟩ | ⟨_, h⟩ <;> exact ⟨_, h⟩
            subst hre
            clear hf
            obtain ⟨k0, k1, k2, k3, k4, k5⟩ := cs6 Bk.out
            have ltk_1 := lt_of_some Bk.out
            obtain ⟨r0, r1, r2, r3, r4⟩ := cs5 Br.out
            have ltr_1 := lt_of_some Br.out
            go_wp2_with fail
            refine (sxkd_miss ⟨a1, l1, y1, a2, l2, y2, a3, l3, y3, (some ⟨b, o, none⟩), l4, y4, a5, l5, y5⟩ c.now c.ks x.k _ (HR.out.k.below HB.out) (fun j y h1 h2 => HKH.out ⟨j, y, h1, h2⟩)).mono ?_
            rintro e w2 ⟨rfl, hb3⟩
            clear k0 k1 k2 k3 k4 k5 ltk_1 r0 r1 r2 r3 r4 ltr_1
            replace Bk := upK Bk hb3
            replace Br := upK Br hb3
            replace HB := upB HB hb3
            clear hb3
            go_wp2
            go_ret
            exact BoolB.f (fun h => HKH.out (h.2 k x HXx.out).1) HB.out
          obtain ⟨i2, kd2, g1, g2⟩ := hkh
          have HG1 := hidK g1
          have HG2 := hidK g2
          have hi20 : ¬ ((i2 : Int) < 0) := by omega
          have hi21 : decide ((i2 : Int) < 0) = false := by simp
          clear g1 g2
          by_cases he : x.v = ⟨#[]⟩
          · have hq := isE_y he
            have HEm := hidK he
            clear he
            obtain ⟨r, hre⟩ : ∃ r : Int, e = .returned (.int .i64 r) := by rcases hf with ⟨j, y, _, _, h⟩ | ⟨_, h⟩ <;> exact ⟨_, h⟩
            subst hre
            clear hf
            obtain ⟨k0, k1, k2, k3, k4, k5⟩ := cs6 Bk.out
            have ltk_1 := lt_of_some Bk.out
            obtain ⟨r0, r1, r2, r3, r4⟩ := cs5 Br.out
            have ltr_1 := lt_of_some Br.out
            go_wp2_with fail
            refine (sxkd_hit ⟨a1, l1, y1, a2, l2, y2, a3, l3, y3, (some ⟨b, o, none⟩), l4, y4, a5, l5, y5⟩ c.now c.ks x.k _ (HR.out.k.below HB.out) HKS.out HG1.out HG2.out).mono ?_
            rintro e w2 ⟨rfl, hb3⟩
            clear k0 k1 k2 k3 k4 k5 ltk_1 r0 r1 r2 r3 r4 ltr_1
            replace Bk := upK Bk hb3
            replace Br := upK Br hb3
            replace HB := upB HB hb3
            clear hb3
            obtain ⟨k0, k1, k2, k3, k4, k5⟩ := cs6 Bk.out
            have ltk_2 := lt_of_some Bk.out
            obtain ⟨r0, r1, r2, r3, r4⟩ := cs5 Br.out
            have ltr_2 := lt_of_some Br.out
            go_wp2_with fail
            refine ⟨⟨k + 1, by omega, by go_num, fun j z hj hz => ?_, HB.out, Bk.out⟩, by simp [intOf]; omega⟩
            by_cases e : j = k
            · subst e
              rw [HXx.out] at hz
              obtain rfl := Option.some.inj hz
              exact ⟨⟨i2, kd2, HG1.out, HG2.out⟩, .inl HEm.out⟩
            · exact HQ.out j z (by omega) hz
          have hq := isE_no he
          have HEm := hidK he
          clear he
          rcases hf with ⟨j3, y, h1, h2, rfl⟩ | ⟨hh, rfl⟩
          rotate_left
          · have HH := hidK hh
            clear hh
            obtain ⟨k0, k1, k2, k3, k4, k5⟩ := cs6 Bk.out
            have ltk_1 := lt_of_some Bk.out
            obtain ⟨r0, r1, r2, r3, r4⟩ := cs5 Br.out
            have ltr_1 := lt_of_some Br.out
            go_wp2_with fail
            refine (sxkd_hit ⟨a1, l1, y1, a2, l2, y2, a3, l3, y3, (some ⟨b, o, none⟩), l4, y4, a5, l5, y5⟩ c.now c.ks x.k _ (HR.out.k.below HB.out) HKS.out HG1.out HG2.out).mono ?_
            rintro e w2 ⟨rfl, hb3⟩
            clear k0 k1 k2 k3 k4 k5 ltk_1 r0 r1 r2 r3 r4 ltr_1
            replace Bk := upK Bk hb3
            replace Br := upK Br hb3
            replace HB := upB HB hb3
            clear hb3
            have pr : w2.cell? ⟨wr.heap.size, 4, none⟩ = some (.string x.v) := cellK Br.out 4
            have Gk : Hid (w2.heap[w.heap.size]? = some (.cells #[.slice a1 l1 y1, .slice a2 l2 y2, .slice a3 l3 y3, .slice (some ⟨b, o, none⟩) l4 y4, .slice a5 l5 y5, .int .i64 c.now] 39 (0, 0))) := Bk.out
            have Gr : Hid (w2.heap[wr.heap.size]? = some (.cells #[.string x.n, .int .i64 x.z, .string x.k, .bool x.x, .string x.v] 44 (0, 0))) := Br.out
            have HW : Hid (Below w.heap.size w w2) := HB.out
            have k2 := fun q : Wd w2 => q.slot (o := 2) Gk.out rfl
            have r0 := fun q : Wd w2 => q.slot (o := 0) Gr.out rfl
            have r1 := fun q : Wd w2 => q.slot (o := 1) Gr.out rfl
            have r2 := fun q : Wd w2 => q.slot (o := 2) Gr.out rfl
            have r3 := fun q : Wd w2 => q.slot (o := 3) Gr.out rfl
            have r4 := fun q : Wd w2 => q.slot (o := 4) Gr.out rfl
            have hne0 := Wd.ne w2
            go_wp2_with fail
            refine wp_region_wide (by kernel_rfl) (by kernel_rfl) ?_
            repeat (go_big_quiet_step (first | fail))
            refine wpQuiet_nil ?_
            rintro _ ⟨q1, rfl⟩
            have HB3 := upB HW q1.b
            have Ck := upK Gk q1.b
            have Cr := upK Gr q1.b
            clear hne0 HW HB k2 r0 r1 r2 r3 r4 Gk Gr Bk Br pr
            have HB := HB3
            clear HB3
            have Bk := Ck
            clear Ck
            have Br := Cr
            clear Cr
            go_wp2
            go_ret
            refine BoolB.f (fun h => ?_) HB.out
            rcases (h.2 k x HXx.out).2 with h2 | ⟨i, y, h2, h3, _⟩
            · exact HEm.out h2
            · exact HH.out i y h2 h3
          have hl3' : j3 < l3 := by have h3 := (List.getElem?_eq_some_iff.1 h1).1; omega
          obtain ⟨b3, o3, y', rfl, hb3, hy', hat⟩ := vd_at HR.out.v hl3'
          rw [h1] at hy'
          obtain rfl := Option.some.inj hy'
          obtain ⟨va, vl, vc, hvr, z0, z2, z3, z5, c0, c1, c2, c3, c4, c5, c6, c7⟩ := vd_cells hat
          have HJ := hidK h1
          have HN := hidK h2
          have hj0 : ¬ ((j3 : Int) < 0) := by omega
          have hj1 : decide ((j3 : Int) < 0) = false := by simp
          have HC1 := hidK c1
          have HC3 := hidK c3
          have HC4 := hidK c4
          have HC5 := hidK c5
          have HB3 := hidK hb3
          clear hy' hat hvr z0 z2 z3 z5 c0 c1 c2 c3 c4 c5 c6 c7 h1 h2 hb3
          obtain ⟨k0, k1, k2, k3, k4, k5⟩ := cs6 Bk.out
          have ltk_1 := lt_of_some Bk.out
          obtain ⟨r0, r1, r2, r3, r4⟩ := cs5 Br.out
          have ltr_1 := lt_of_some Br.out
          go_wp2_with fail
          refine (sxkd_hit ⟨a1, l1, y1, a2, l2, y2, (some ⟨b3, o3, none⟩), l3, y3, (some ⟨b, o, none⟩), l4, y4, a5, l5, y5⟩ c.now c.ks x.k _ (HR.out.k.below HB.out) HKS.out HG1.out HG2.out).mono ?_
          rintro e w2 ⟨rfl, hb3⟩
          clear k0 k1 k2 k3 k4 k5 ltk_1 r0 r1 r2 r3 r4 ltr_1
          replace Bk := upK Bk hb3
          replace Br := upK Br hb3
          replace HB := upB HB hb3
          clear hb3
          have pr : w2.cell? ⟨wr.heap.size, 4, none⟩ = some (.string x.v) := cellK Br.out 4
          have hbv : b3 < w2.heap.size := Nat.lt_of_lt_of_le HB3.out HB.out.size
          have v1 := (cell_below HB.out HB3.out).trans HC1.out
          have v3 := (cell_below HB.out HB3.out).trans HC3.out
          have v4 := (cell_below HB.out HB3.out).trans HC4.out
          have v5 := (cell_below HB.out HB3.out).trans HC5.out
          clear HC1 HC3 HC4 HC5 HB3
          by_cases hno : y.m = x.n
          rotate_left
          · have HNo := hidK hno
            clear hno
            have n1 := tl_no HNo.out
            have Gk : Hid (w2.heap[w.heap.size]? = some (.cells #[.slice a1 l1 y1, .slice a2 l2 y2, .slice (some ⟨b3, o3, none⟩) l3 y3, .slice (some ⟨b, o, none⟩) l4 y4, .slice a5 l5 y5, .int .i64 c.now] 39 (0, 0))) := Bk.out
            have Gr : Hid (w2.heap[wr.heap.size]? = some (.cells #[.string x.n, .int .i64 x.z, .string x.k, .bool x.x, .string x.v] 44 (0, 0))) := Br.out
            have HW : Hid (Below w.heap.size w w2) := HB.out
            have k2 := fun q : Wd w2 => q.slot (o := 2) Gk.out rfl
            have r0 := fun q : Wd w2 => q.slot (o := 0) Gr.out rfl
            have r1 := fun q : Wd w2 => q.slot (o := 1) Gr.out rfl
            have r2 := fun q : Wd w2 => q.slot (o := 2) Gr.out rfl
            have r3 := fun q : Wd w2 => q.slot (o := 3) Gr.out rfl
            have r4 := fun q : Wd w2 => q.slot (o := 4) Gr.out rfl
            have v1w : ∀ q : Wd w2, q.w.cell? ⟨b3, o3 + j3 * 8 + 1, none⟩ = some (.int .i64 y.c) := fun q => (q.cell (hbv)).trans (v1)
            have v3w : ∀ q : Wd w2, q.w.cell? ⟨b3, o3 + j3 * 8 + 3, none⟩ = some (.string y.k) := fun q => (q.cell (hbv)).trans (v3)
            have v4w : ∀ q : Wd w2, q.w.cell? ⟨b3, o3 + j3 * 8 + 4, none⟩ = some (.bool y.x) := fun q => (q.cell (hbv)).trans (v4)
            have v5w : ∀ q : Wd w2, q.w.cell? ⟨b3, o3 + j3 * 8 + 5, none⟩ = some (.string y.m) := fun q => (q.cell (hbv)).trans (v5)
            have hne0 := Wd.ne w2
            go_wp2_with fail
            refine wp_region_wide (by kernel_rfl) (by kernel_rfl) ?_
            repeat (go_big_quiet_step (first | fail))
            refine wpQuiet_nil ?_
            rintro _ ⟨q1, rfl⟩
            have HB3 := upB HW q1.b
            have Ck := upK Gk q1.b
            have Cr := upK Gr q1.b
            clear hne0 HW HB k2 r0 r1 r2 r3 r4 v1w v3w v4w v5w Gk Gr Bk Br pr v1 v3 v4 v5 hbv
            have HB := HB3
            clear HB3
            have Bk := Ck
            clear Ck
            have Br := Cr
            clear Cr
            go_wp2
            go_ret
            refine BoolB.f (fun h => ?_) HB.out
            rcases (h.2 k x HXx.out).2 with h2 | ⟨i, y2, h2, h3, h4⟩
            · exact HEm.out h2
            · obtain ⟨_, rfl⟩ := HVS.out.inj h2 HJ.out (h3.trans HN.out.symm)
              exact HNo.out h4.1
          have HY1 := hidK hno
          have q1 := tl_yes hno
          clear hno
          by_cases hno : x.z ≤ y.c
          rotate_left
          · have HNo := hidK hno
            clear hno
            have n1 : y.c < x.z := by have := HNo.out; omega
            have Gk : Hid (w2.heap[w.heap.size]? = some (.cells #[.slice a1 l1 y1, .slice a2 l2 y2, .slice (some ⟨b3, o3, none⟩) l3 y3, .slice (some ⟨b, o, none⟩) l4 y4, .slice a5 l5 y5, .int .i64 c.now] 39 (0, 0))) := Bk.out
            have Gr : Hid (w2.heap[wr.heap.size]? = some (.cells #[.string x.n, .int .i64 x.z, .string x.k, .bool x.x, .string x.v] 44 (0, 0))) := Br.out
            have HW : Hid (Below w.heap.size w w2) := HB.out
            have k2 := fun q : Wd w2 => q.slot (o := 2) Gk.out rfl
            have r0 := fun q : Wd w2 => q.slot (o := 0) Gr.out rfl
            have r1 := fun q : Wd w2 => q.slot (o := 1) Gr.out rfl
            have r2 := fun q : Wd w2 => q.slot (o := 2) Gr.out rfl
            have r3 := fun q : Wd w2 => q.slot (o := 3) Gr.out rfl
            have r4 := fun q : Wd w2 => q.slot (o := 4) Gr.out rfl
            have v1w : ∀ q : Wd w2, q.w.cell? ⟨b3, o3 + j3 * 8 + 1, none⟩ = some (.int .i64 y.c) := fun q => (q.cell (hbv)).trans (v1)
            have v3w : ∀ q : Wd w2, q.w.cell? ⟨b3, o3 + j3 * 8 + 3, none⟩ = some (.string y.k) := fun q => (q.cell (hbv)).trans (v3)
            have v4w : ∀ q : Wd w2, q.w.cell? ⟨b3, o3 + j3 * 8 + 4, none⟩ = some (.bool y.x) := fun q => (q.cell (hbv)).trans (v4)
            have v5w : ∀ q : Wd w2, q.w.cell? ⟨b3, o3 + j3 * 8 + 5, none⟩ = some (.string y.m) := fun q => (q.cell (hbv)).trans (v5)
            have hne0 := Wd.ne w2
            go_wp2_with fail
            refine wp_region_wide (by kernel_rfl) (by kernel_rfl) ?_
            repeat (go_big_quiet_step (first | fail))
            refine wpQuiet_nil ?_
            rintro _ ⟨q1, rfl⟩
            have HB3 := upB HW q1.b
            have Ck := upK Gk q1.b
            have Cr := upK Gr q1.b
            clear hne0 HW HB k2 r0 r1 r2 r3 r4 v1w v3w v4w v5w Gk Gr Bk Br pr v1 v3 v4 v5 hbv
            have HB := HB3
            clear HB3
            have Bk := Ck
            clear Ck
            have Br := Cr
            clear Cr
            go_wp2
            go_ret
            refine BoolB.f (fun h => ?_) HB.out
            rcases (h.2 k x HXx.out).2 with h2 | ⟨i, y2, h2, h3, h4⟩
            · exact HEm.out h2
            · obtain ⟨_, rfl⟩ := HVS.out.inj h2 HJ.out (h3.trans HN.out.symm)
              have h5 := h4.2.1; have h6 := HNo.out; omega
          have HY2 := hidK hno
          have q2 : decide (y.c < x.z) = false := by simp; omega
          clear hno
          by_cases hno : y.k = x.k
          rotate_left
          · have HNo := hidK hno
            clear hno
            have n1 := tl_no HNo.out
            have Gk : Hid (w2.heap[w.heap.size]? = some (.cells #[.slice a1 l1 y1, .slice a2 l2 y2, .slice (some ⟨b3, o3, none⟩) l3 y3, .slice (some ⟨b, o, none⟩) l4 y4, .slice a5 l5 y5, .int .i64 c.now] 39 (0, 0))) := Bk.out
            have Gr : Hid (w2.heap[wr.heap.size]? = some (.cells #[.string x.n, .int .i64 x.z, .string x.k, .bool x.x, .string x.v] 44 (0, 0))) := Br.out
            have HW : Hid (Below w.heap.size w w2) := HB.out
            have k2 := fun q : Wd w2 => q.slot (o := 2) Gk.out rfl
            have r0 := fun q : Wd w2 => q.slot (o := 0) Gr.out rfl
            have r1 := fun q : Wd w2 => q.slot (o := 1) Gr.out rfl
            have r2 := fun q : Wd w2 => q.slot (o := 2) Gr.out rfl
            have r3 := fun q : Wd w2 => q.slot (o := 3) Gr.out rfl
            have r4 := fun q : Wd w2 => q.slot (o := 4) Gr.out rfl
            have v1w : ∀ q : Wd w2, q.w.cell? ⟨b3, o3 + j3 * 8 + 1, none⟩ = some (.int .i64 y.c) := fun q => (q.cell (hbv)).trans (v1)
            have v3w : ∀ q : Wd w2, q.w.cell? ⟨b3, o3 + j3 * 8 + 3, none⟩ = some (.string y.k) := fun q => (q.cell (hbv)).trans (v3)
            have v4w : ∀ q : Wd w2, q.w.cell? ⟨b3, o3 + j3 * 8 + 4, none⟩ = some (.bool y.x) := fun q => (q.cell (hbv)).trans (v4)
            have v5w : ∀ q : Wd w2, q.w.cell? ⟨b3, o3 + j3 * 8 + 5, none⟩ = some (.string y.m) := fun q => (q.cell (hbv)).trans (v5)
            have hne0 := Wd.ne w2
            go_wp2_with fail
            refine wp_region_wide (by kernel_rfl) (by kernel_rfl) ?_
            repeat (go_big_quiet_step (first | fail))
            refine wpQuiet_nil ?_
            rintro _ ⟨q1, rfl⟩
            have HB3 := upB HW q1.b
            have Ck := upK Gk q1.b
            have Cr := upK Gr q1.b
            clear hne0 HW HB k2 r0 r1 r2 r3 r4 v1w v3w v4w v5w Gk Gr Bk Br pr v1 v3 v4 v5 hbv
            have HB := HB3
            clear HB3
            have Bk := Ck
            clear Ck
            have Br := Cr
            clear Cr
            go_wp2
            go_ret
            refine BoolB.f (fun h => ?_) HB.out
            rcases (h.2 k x HXx.out).2 with h2 | ⟨i, y2, h2, h3, h4⟩
            · exact HEm.out h2
            · obtain ⟨_, rfl⟩ := HVS.out.inj h2 HJ.out (h3.trans HN.out.symm)
              exact HNo.out h4.2.2.1
          have HY3 := hidK hno
          have q3 := tl_yes hno
          clear hno
          by_cases hno : y.x = x.x
          rotate_left
          · have HNo := hidK hno
            clear hno
            have n1 : (y.x == x.x) = false := by simpa using HNo.out
            have Gk : Hid (w2.heap[w.heap.size]? = some (.cells #[.slice a1 l1 y1, .slice a2 l2 y2, .slice (some ⟨b3, o3, none⟩) l3 y3, .slice (some ⟨b, o, none⟩) l4 y4, .slice a5 l5 y5, .int .i64 c.now] 39 (0, 0))) := Bk.out
            have Gr : Hid (w2.heap[wr.heap.size]? = some (.cells #[.string x.n, .int .i64 x.z, .string x.k, .bool x.x, .string x.v] 44 (0, 0))) := Br.out
            have HW : Hid (Below w.heap.size w w2) := HB.out
            have k2 := fun q : Wd w2 => q.slot (o := 2) Gk.out rfl
            have r0 := fun q : Wd w2 => q.slot (o := 0) Gr.out rfl
            have r1 := fun q : Wd w2 => q.slot (o := 1) Gr.out rfl
            have r2 := fun q : Wd w2 => q.slot (o := 2) Gr.out rfl
            have r3 := fun q : Wd w2 => q.slot (o := 3) Gr.out rfl
            have r4 := fun q : Wd w2 => q.slot (o := 4) Gr.out rfl
            have v1w : ∀ q : Wd w2, q.w.cell? ⟨b3, o3 + j3 * 8 + 1, none⟩ = some (.int .i64 y.c) := fun q => (q.cell (hbv)).trans (v1)
            have v3w : ∀ q : Wd w2, q.w.cell? ⟨b3, o3 + j3 * 8 + 3, none⟩ = some (.string y.k) := fun q => (q.cell (hbv)).trans (v3)
            have v4w : ∀ q : Wd w2, q.w.cell? ⟨b3, o3 + j3 * 8 + 4, none⟩ = some (.bool y.x) := fun q => (q.cell (hbv)).trans (v4)
            have v5w : ∀ q : Wd w2, q.w.cell? ⟨b3, o3 + j3 * 8 + 5, none⟩ = some (.string y.m) := fun q => (q.cell (hbv)).trans (v5)
            have hne0 := Wd.ne w2
            go_wp2_with fail
            refine wp_region_wide (by kernel_rfl) (by kernel_rfl) ?_
            repeat (go_big_quiet_step (first | fail))
            refine wpQuiet_nil ?_
            rintro _ ⟨q1, rfl⟩
            have HB3 := upB HW q1.b
            have Ck := upK Gk q1.b
            have Cr := upK Gr q1.b
            clear hne0 HW HB k2 r0 r1 r2 r3 r4 v1w v3w v4w v5w Gk Gr Bk Br pr v1 v3 v4 v5 hbv
            have HB := HB3
            clear HB3
            have Bk := Ck
            clear Ck
            have Br := Cr
            clear Cr
            go_wp2
            go_ret
            refine BoolB.f (fun h => ?_) HB.out
            rcases (h.2 k x HXx.out).2 with h2 | ⟨i, y2, h2, h3, h4⟩
            · exact HEm.out h2
            · obtain ⟨_, rfl⟩ := HVS.out.inj h2 HJ.out (h3.trans HN.out.symm)
              exact HNo.out h4.2.2.2
          have HY4 := hidK hno
          have q4 : (y.x == x.x) = true := by simpa using hno
          clear hno
          have Gk : Hid (w2.heap[w.heap.size]? = some (.cells #[.slice a1 l1 y1, .slice a2 l2 y2, .slice (some ⟨b3, o3, none⟩) l3 y3, .slice (some ⟨b, o, none⟩) l4 y4, .slice a5 l5 y5, .int .i64 c.now] 39 (0, 0))) := Bk.out
          have Gr : Hid (w2.heap[wr.heap.size]? = some (.cells #[.string x.n, .int .i64 x.z, .string x.k, .bool x.x, .string x.v] 44 (0, 0))) := Br.out
          have HW : Hid (Below w.heap.size w w2) := HB.out
          have k2 := fun q : Wd w2 => q.slot (o := 2) Gk.out rfl
          have r0 := fun q : Wd w2 => q.slot (o := 0) Gr.out rfl
          have r1 := fun q : Wd w2 => q.slot (o := 1) Gr.out rfl
          have r2 := fun q : Wd w2 => q.slot (o := 2) Gr.out rfl
          have r3 := fun q : Wd w2 => q.slot (o := 3) Gr.out rfl
          have r4 := fun q : Wd w2 => q.slot (o := 4) Gr.out rfl
          have v1w : ∀ q : Wd w2, q.w.cell? ⟨b3, o3 + j3 * 8 + 1, none⟩ = some (.int .i64 y.c) := fun q => (q.cell (hbv)).trans (v1)
          have v3w : ∀ q : Wd w2, q.w.cell? ⟨b3, o3 + j3 * 8 + 3, none⟩ = some (.string y.k) := fun q => (q.cell (hbv)).trans (v3)
          have v4w : ∀ q : Wd w2, q.w.cell? ⟨b3, o3 + j3 * 8 + 4, none⟩ = some (.bool y.x) := fun q => (q.cell (hbv)).trans (v4)
          have v5w : ∀ q : Wd w2, q.w.cell? ⟨b3, o3 + j3 * 8 + 5, none⟩ = some (.string y.m) := fun q => (q.cell (hbv)).trans (v5)
          have hne0 := Wd.ne w2
          go_wp2_with fail
          refine wp_region_wide (by kernel_rfl) (by kernel_rfl) ?_
          repeat (go_big_quiet_step (first | fail))
          refine wpQuiet_nil ?_
          rintro _ ⟨qz, rfl⟩
          have HB3 := upB HW qz.b
          have Ck := upK Gk qz.b
          have Cr := upK Gr qz.b
          clear hne0 HW HB k2 r0 r1 r2 r3 r4 v1w v3w v4w v5w Gk Gr Bk Br pr v1 v3 v4 v5 hbv
          have HB := HB3
          clear HB3
          have Bk := Ck
          clear Ck
          have Br := Cr
          clear Cr
          clear q1 q2 q3 q4
          go_wp2_with fail
          refine ⟨⟨k + 1, by omega, by go_num, fun j z hj hz => ?_, HB.out, Bk.out⟩, by simp [intOf]; omega⟩
          by_cases e : j = k
          · subst e
            rw [HXx.out] at hz
            obtain rfl := Option.some.inj hz
            exact ⟨⟨i2, kd2, HG1.out, HG2.out⟩, .inr ⟨j3, y, HJ.out, HN.out, HY1.out, HY2.out, HY3.out, HY4.out⟩⟩
          · exact HQ.out j z (by omega) hz
        · obtain rfl : l4 = k := by omega
          have HQ2 : Hid (∀ (j : Nat) z, c.xs[j]? = some z → SX c z) := fun j z hz => HQ.out j z (by have := (List.getElem?_eq_some_iff.1 hz).1; omega) hz
          clear HQ
          go_wp2
          go_ret
          exact BoolB.t ⟨HQ1.out, HQ2.out⟩ HB.out

def PSa (c : Cl) (p : Pd) : Prop := p.d = ⟨#[]⟩ ∨ ∃ (i : Nat) (n : Nd), c.ns[i]? = some n ∧ n.n = p.d ∧ (p.z = ⟨#[]⟩ ∨ n.z = p.z)
def PSb1 (c : Cl) (p : Pd) (t : ByteArray) : Prop := (∃ (i : Nat) (x : Xd), c.xs[i]? = some x ∧ x.n = t) ∧ (p.d = ⟨#[]⟩ ∨ ∃ (v : Vd) (i : Nat) (n : Nd), IsBd c t v ∧ c.ns[i]? = some n ∧ n.n = p.d ∧ v.z = n.z)
def PSb (c : Cl) (p : Pd) : Prop := ∀ (j : Nat) t, p.zs[j]? = some t → PSb1 c p t
def PSc (c : Cl) (k : Nat) (p : Pd) : Prop := ∀ (j : Nat) q, j < k → c.ps[j]? = some q → PairS c q p
def PS (c : Cl) (k : Nat) (p : Pd) : Prop := PSa c p ∧ PSb c p ∧ PSc c k p
def PlacedS (c : Cl) : Prop := (∀ (k : Nat) p, c.ps[k]? = some p → PS c k p) ∧ ∀ (j : Nat) n, c.ns[j]? = some n → cpuOf n.n c.ps ≤ n.c

set_option maxRecDepth 100000 in
set_option maxHeartbeats 12800000 in
theorem splaced_any (d : Ad) (c : Cl) (w : World) (hr : ClRow w d c.raw) (hn : RisBy Nd.n c.ns) (hx : RisBy Xd.n c.xs) (hv : RisBy Vd.n c.vs) (hne : ∀ (j : Nat) v, c.vs[j]? = some v → ¬ v.n = ⟨#[]⟩) (hps8 : c.ps.length ≤ 8) (hpc : ∀ (j : Nat) p, c.ps[j]? = some p → 0 ≤ p.c ∧ p.c ≤ 1000000) :
    Calls Tryz.prog 74 #[.agg #[.slice d.a1 d.l1 d.c1, .slice d.a2 d.l2 d.c2, .slice d.a3 d.l3 d.c3, .slice d.a4 d.l4 d.c4, .slice d.a5 d.l5 d.c5, .int .i64 c.now]] w (BoolB (PlacedS c) w) := by
  obtain ⟨a1, l1, y1, a2, l2, y2, a3, l3, y3, a4, l4, y4, a5, l5, y5⟩ := d
  dsimp only
  have HR := hidK hr
  have hl1 : c.ns.length = l1 := by simpa using (show (c.ns.map ndF).length = l1 from hr.n.1)
  have hm1 : l1 ≤ 9223372036854775807 := Nat.le_trans hr.n.2.1 hr.n.2.2.1
  have hl2 : c.ks.length = l2 := by simpa using (show (c.ks.map kdF).length = l2 from hr.k.1)
  have hm2 : l2 ≤ 9223372036854775807 := Nat.le_trans hr.k.2.1 hr.k.2.2.1
  have hl3 : c.vs.length = l3 := by simpa using (show (c.vs.map vdF).length = l3 from hr.v.1)
  have hm3 : l3 ≤ 9223372036854775807 := Nat.le_trans hr.v.2.1 hr.v.2.2.1
  have hl4 : c.xs.length = l4 := by simpa using (show (c.xs.map xdF).length = l4 from hr.x.1)
  have hm4 : l4 ≤ 9223372036854775807 := Nat.le_trans hr.x.2.1 hr.x.2.2.1
  have hl5 : c.ps.length = l5 := by simpa using (show (c.ps.map pdF).length = l5 from hr.p.1)
  have hm5 : l5 ≤ 9223372036854775807 := Nat.le_trans hr.p.2.1 hr.p.2.2.1
  clear hr
  have HNR := hidK hn
  have HX := hidK hx
  have HV := hidK hv
  have HNE := hidK hne
  have HL5 := hidK hps8
  have HPC := hidK hpc
  clear hn hx hv hne hps8 hpc
  go_enter Tryz.func74, Tryz.ntmps74
  go_wp2
  go_loopw [3] (fun i wr => ∃ k : Nat, k ≤ l5 ∧ i = .int .i64 k ∧ Hid (∀ (j : Nat) z, j < k → c.ps[j]? = some z → PS c j z) ∧ Hid (Below w.heap.size w wr) ∧ Hid (wr.heap[w.heap.size]? = some (.cells #[.slice a1 l1 y1, .slice a2 l2 y2, .slice a3 l3 y3, .slice a4 l4 y4, .slice a5 l5 y5, .int .i64 c.now] 39 (0, 0)))) (fun i _ => l5 - (intOf i).toNat)
  case atStart => exact ⟨0, by omega, rfl, fun _ _ h => absurd h (by omega), below1 _ _, Array.getElem?_push_size⟩
  case round =>
    obtain ⟨k, hk, rfl, HQ, HB, Bk⟩ := hrel
    have pk : wr.cell? ⟨w.heap.size, 4, none⟩ = some (.slice a5 l5 y5) := cellK Bk.out 4
    by_cases hlt : k < l5
    · obtain ⟨b, o, p, rfl, hb, hx, hat⟩ := pd_at (HR.out.p.below HB.out) hlt
      obtain ⟨va, vl, vc, hvr, z0, z2, z4, c0, c1, c2, c3, c4, c5⟩ := pd_cells hat
      have HXp := hidK hx
      have HTp := hidK hvr
      have HZp0 := hidK z0
      have HZp2 := hidK z2
      have HZp4 := hidK z4
      clear hat hx z0 z2 z4 hvr
      have hvl : p.zs.length = vl := HTp.out.1
      have hvc : vl ≤ 9223372036854775807 := Nat.le_trans HTp.out.2.1 HTp.out.2.2.1
      have HVL := hidK hvl
      clear hvl
      obtain ⟨k0, k1, k2, k3, k4, k5⟩ := cs6 Bk.out
      have ltk_0 := lt_of_some Bk.out
      go_wp2_with fail
      refine (sxnd_any ⟨a1, l1, y1, a2, l2, y2, a3, l3, y3, a4, l4, y4, (some ⟨b, o, none⟩), l5, y5⟩ c.now c.ns p.d _ (HR.out.n.below (HB.out.trans ((below1 _ _).mono HB.out.size)))).mono ?_
      rintro e w1 ⟨hb2, hf⟩
      clear k0 k1 k2 k3 k4 k5 ltk_0
      obtain ⟨HA0, hbx⟩ := slots1 hb2
      replace Bk := upK Bk hbx
      have Br := hidK HA0
      replace HTp := hidK (HTp.out.below hbx)
      replace HB := upB HB hbx
      clear hb2 hbx HA0
      clear pk hb c0 c1 c2 c3 c4 c5
      by_cases he : p.d = ⟨#[]⟩
      · have hq := isE_y he
        have HEm := hidK he
        clear he
        obtain ⟨r5, hre⟩ : ∃ r : Int, e = .returned (.int .i64 r) := by rcases hf with ⟨j, y, _, _, h⟩ | ⟨_, h⟩ <;> exact ⟨_, h⟩
        subst hre
        clear hf
        have Gk : Hid (w1.heap[w.heap.size]? = some (.cells #[.slice a1 l1 y1, .slice a2 l2 y2, .slice a3 l3 y3, .slice a4 l4 y4, .slice (some ⟨b, o, none⟩) l5 y5, .int .i64 c.now] 39 (0, 0))) := Bk.out
        have Gr : Hid (w1.heap[wr.heap.size]? = some (.cells #[.string p.n, .int .i64 p.c, .string p.z, .slice va vl vc, .string p.d, .int .i64 p.p] 118 (0, 0))) := Br.out
        have HW : Hid (Below w.heap.size w w1) := HB.out
        have k0 := fun q : Wd w1 => q.slot (o := 0) Gk.out rfl
        have r0 := fun q : Wd w1 => q.slot (o := 0) Gr.out rfl
        have r1 := fun q : Wd w1 => q.slot (o := 1) Gr.out rfl
        have r2 := fun q : Wd w1 => q.slot (o := 2) Gr.out rfl
        have r3 := fun q : Wd w1 => q.slot (o := 3) Gr.out rfl
        have r4 := fun q : Wd w1 => q.slot (o := 4) Gr.out rfl
        have r5 := fun q : Wd w1 => q.slot (o := 5) Gr.out rfl
        have hne0 := Wd.ne w1
        go_wp2_with fail
        refine wp_region_wide (by kernel_rfl) (by kernel_rfl) ?_
        repeat (go_big_quiet_step (first | fail))
        refine wpQuiet_nil ?_
        rintro _ ⟨q0, rfl⟩
        have HB2 := upB HW q0.b
        have Ck := upK Gk q0.b
        have Cr := upK Gr q0.b
        have CHTp := hidK ((HTp.out).below q0.b)
        clear hne0 HW HB k0 r0 r1 r2 r3 r4 r5 Gk Gr Bk Br HTp
        have HB := HB2
        clear HB2
        have HTp := CHTp
        clear CHTp
        have Bk := Ck
        clear Ck
        have Br := Cr
        clear Cr
        have HPa : Hid (PSa c p) := .inl HEm.out
        obtain ⟨gb, hgb⟩ : ∃ gb, gb = wr.heap.size := ⟨_, rfl⟩
        rw [← hgb] at Br
        have pr3 : q0.w.cell? ⟨gb, 3, none⟩ = some (.slice va vl vc) := cellK Br.out 3
        rw [hgb] at pr3
        go_wp2
        rw [← hgb]
        clear pr3 hgb
        have KV := Bk
        have GV := Br
        have BV := HB
        have TV := HTp
        clear Bk Br HB HTp
        obtain ⟨W, hW⟩ : ∃ W, W = q0.w := ⟨_, rfl⟩
        rw [← hW] at KV GV BV TV ⊢
        clear hW
        go_loopw [6] (fun i wr => ∃ kq : Nat, kq ≤ vl ∧ i = .int .i64 kq ∧ Hid (∀ (j : Nat) t, j < kq → p.zs[j]? = some t → PSb1 c p t) ∧ Hid (Below W.heap.size W wr)) (fun i _ => vl - (intOf i).toNat)
        case atStart => exact ⟨0, by omega, rfl, fun _ _ h => absurd h (by omega), Below.refl _ _⟩
        case round =>
          obtain ⟨kq, hkq, rfl, HQ2, HBW⟩ := hrel
          have HB := hidK (BV.out.trans (HBW.out.mono BV.out.size))
          have Bk := upK KV HBW.out
          have Br := upK GV HBW.out
          have pr3 : wr.cell? ⟨gb, 3, none⟩ = some (.slice va vl vc) := cellK Br.out 3
          by_cases hlt2 : kq < vl
          · obtain ⟨b2, o2, t, rfl, hb, hxt, hc, hsz⟩ := (TV.out.below HBW.out).at hlt2
            have HXt := hidK hxt
            clear hxt hsz
            have hcase : (∃ v, IsBd c t v) ∨ (∀ v, ¬ IsBd c t v) := by
              by_cases h : ∃ v, IsBd c t v
              · exact .inl h
              · exact .inr (fun v hv => h ⟨v, hv⟩)
            rcases hcase with ⟨v, hbd⟩ | hbd
            · obtain ⟨j3, hj3⟩ := hbd.at
              have hl3' : j3 < l3 := by have h1 := (List.getElem?_eq_some_iff.1 hj3).1; omega
              obtain ⟨b3, o3, v', rfl, hb3, hv', hat⟩ := vd_at HR.out.v hl3'
              rw [hj3] at hv'
              obtain rfl := Option.some.inj hv'
              obtain ⟨xa, xl, xc, hvr, z0, z2, z3, z5, d0, d1, d2, d3, d4, d5, d6, d7⟩ := vd_cells hat
              have HJ := hidK hj3
              have HD := hidK hbd
              have HC2 := hidK d2
              have HB3 := hidK hb3
              have hj31 : decide ((j3 : Int) < 0) = false := by simp
              clear hv' hat hvr z0 z2 z3 z5 d0 d1 d2 d3 d4 d5 d6 d7 hj3 hbd hb3
              have Gk : Hid (wr.heap[w.heap.size]? = some (.cells #[.slice a1 l1 y1, .slice a2 l2 y2, .slice (some ⟨b3, o3, none⟩) l3 y3, .slice a4 l4 y4, .slice (some ⟨b, o, none⟩) l5 y5, .int .i64 c.now] 39 (0, 0))) := Bk.out
              have Gr : Hid (wr.heap[gb]? = some (.cells #[.string p.n, .int .i64 p.c, .string p.z, .slice (some ⟨b2, o2, none⟩) vl vc, .string p.d, .int .i64 p.p] 118 (0, 0))) := Br.out
              have HW : Hid (Below w.heap.size w wr) := HB.out
              have k0 := fun q : Wd wr => q.slot (o := 0) Gk.out rfl
              have k1 := fun q : Wd wr => q.slot (o := 1) Gk.out rfl
              have k2 := fun q : Wd wr => q.slot (o := 2) Gk.out rfl
              have k3 := fun q : Wd wr => q.slot (o := 3) Gk.out rfl
              have k4 := fun q : Wd wr => q.slot (o := 4) Gk.out rfl
              have k5 := fun q : Wd wr => q.slot (o := 5) Gk.out rfl
              have r3 := fun q : Wd wr => q.slot (o := 3) Gr.out rfl
              have tw : ∀ q : Wd wr, q.w.cell? ⟨b2, o2 + kq, none⟩ = some (.string t) := fun q => (q.cell (hb)).trans (hc)
              have hne0 := Wd.ne wr
              have HC0 := hidK (fun q : Wd wr => sbind_hit ⟨a1, l1, y1, a2, l2, y2, (some ⟨b3, o3, none⟩), l3, y3, a4, l4, y4, (some ⟨b, o, none⟩), l5, y5⟩ c t q.w (HR.out.below (HW.out.trans (q.b.mono HW.out.size))) HX.out HV.out HNE.out HJ.out HD.out)
              go_wp2_with fail
              refine wp_region_wide (by kernel_rfl) (by kernel_rfl) ?_
              repeat (go_big_quiet_step (first | (go_at_call 58; exact Calls.wide (HC0.out _)) | fail))
              refine wpQuiet_nil ?_
              rintro _ ⟨q1, rfl⟩
              have HB1 := upB HW q1.b
              have Ck := upK Gk q1.b
              have Cr := upK Gr q1.b
              clear hne0 HW HB HC0 k0 k1 k2 k3 k4 k5 r3 tw Gk Gr Bk Br pr3
              have HB := HB1
              clear HB1
              have Bk := Ck
              clear Ck
              have Br := Cr
              clear Cr
              have hc1 := (q1.cell hb).trans hc
              have hb1 : b2 < q1.w.heap.size := Nat.lt_of_lt_of_le hb q1.b.size
              have HBW1 := upB HBW q1.b
              clear hc hb HBW
              by_cases hg : ∃ (i : Nat) (x : Xd), c.xs[i]? = some x ∧ x.n = t
              rotate_left
              · have HG := hidK hg
                clear hg
                have Gk : Hid (q1.w.heap[w.heap.size]? = some (.cells #[.slice a1 l1 y1, .slice a2 l2 y2, .slice (some ⟨b3, o3, none⟩) l3 y3, .slice a4 l4 y4, .slice (some ⟨b, o, none⟩) l5 y5, .int .i64 c.now] 39 (0, 0))) := Bk.out
                have Gr : Hid (q1.w.heap[gb]? = some (.cells #[.string p.n, .int .i64 p.c, .string p.z, .slice (some ⟨b2, o2, none⟩) vl vc, .string p.d, .int .i64 p.p] 118 (0, 0))) := Br.out
                have HW : Hid (Below w.heap.size w q1.w) := HB.out
                have k0 := fun q : Wd q1.w => q.slot (o := 0) Gk.out rfl
                have k1 := fun q : Wd q1.w => q.slot (o := 1) Gk.out rfl
                have k2 := fun q : Wd q1.w => q.slot (o := 2) Gk.out rfl
                have k3 := fun q : Wd q1.w => q.slot (o := 3) Gk.out rfl
                have k4 := fun q : Wd q1.w => q.slot (o := 4) Gk.out rfl
                have k5 := fun q : Wd q1.w => q.slot (o := 5) Gk.out rfl
                have r0 := fun q : Wd q1.w => q.slot (o := 0) Gr.out rfl
                have r1 := fun q : Wd q1.w => q.slot (o := 1) Gr.out rfl
                have r2 := fun q : Wd q1.w => q.slot (o := 2) Gr.out rfl
                have r3 := fun q : Wd q1.w => q.slot (o := 3) Gr.out rfl
                have r4 := fun q : Wd q1.w => q.slot (o := 4) Gr.out rfl
                have r5 := fun q : Wd q1.w => q.slot (o := 5) Gr.out rfl
                have tw : ∀ q : Wd q1.w, q.w.cell? ⟨b2, o2 + kq, none⟩ = some (.string t) := fun q => (q.cell (hb1)).trans (hc1)
                have hne0 := Wd.ne q1.w
                have HC0 := hidK (fun q : Wd q1.w => sxxd_miss ⟨a1, l1, y1, a2, l2, y2, (some ⟨b3, o3, none⟩), l3, y3, a4, l4, y4, (some ⟨b, o, none⟩), l5, y5⟩ c.now c.xs t q.w (HR.out.x.below (HW.out.trans (q.b.mono HW.out.size))) (fun i x h1 h2 => HG.out ⟨i, x, h1, h2⟩))
                go_wp2_with fail
                refine wp_region_wide (by kernel_rfl) (by kernel_rfl) ?_
                repeat (go_big_quiet_step (first | (go_at_call 30; exact Calls.wide (HC0.out _)) | fail))
                refine wpQuiet_nil ?_
                rintro _ ⟨q2, rfl⟩
                have HB2 := upB HW q2.b
                have Ck := upK Gk q2.b
                have Cr := upK Gr q2.b
                clear hne0 HW HB HC0 k0 k1 k2 k3 k4 k5 r0 r1 r2 r3 r4 r5 tw Gk Gr Bk Br hc1 hb1
                have HB := HB2
                clear HB2
                have Bk := Ck
                clear Ck
                have Br := Cr
                clear Cr
                go_wp2
                go_ret
                refine BoolB.f (fun h => ?_) HB.out
                have h9 := (h.1 k p HXp.out).2.1 kq t HXt.out
                exact HG.out h9.1
              obtain ⟨i4, x4, g1, g2⟩ := hg
              have HG1 := hidK g1
              have HG2 := hidK g2
              have hi41 : decide ((i4 : Int) < 0) = false := by simp
              clear g1 g2
              have Gk : Hid (q1.w.heap[w.heap.size]? = some (.cells #[.slice a1 l1 y1, .slice a2 l2 y2, .slice (some ⟨b3, o3, none⟩) l3 y3, .slice a4 l4 y4, .slice (some ⟨b, o, none⟩) l5 y5, .int .i64 c.now] 39 (0, 0))) := Bk.out
              have Gr : Hid (q1.w.heap[gb]? = some (.cells #[.string p.n, .int .i64 p.c, .string p.z, .slice (some ⟨b2, o2, none⟩) vl vc, .string p.d, .int .i64 p.p] 118 (0, 0))) := Br.out
              have HW : Hid (Below w.heap.size w q1.w) := HB.out
              have k0 := fun q : Wd q1.w => q.slot (o := 0) Gk.out rfl
              have k1 := fun q : Wd q1.w => q.slot (o := 1) Gk.out rfl
              have k2 := fun q : Wd q1.w => q.slot (o := 2) Gk.out rfl
              have k3 := fun q : Wd q1.w => q.slot (o := 3) Gk.out rfl
              have k4 := fun q : Wd q1.w => q.slot (o := 4) Gk.out rfl
              have k5 := fun q : Wd q1.w => q.slot (o := 5) Gk.out rfl
              have r0 := fun q : Wd q1.w => q.slot (o := 0) Gr.out rfl
              have r1 := fun q : Wd q1.w => q.slot (o := 1) Gr.out rfl
              have r2 := fun q : Wd q1.w => q.slot (o := 2) Gr.out rfl
              have r3 := fun q : Wd q1.w => q.slot (o := 3) Gr.out rfl
              have r4 := fun q : Wd q1.w => q.slot (o := 4) Gr.out rfl
              have r5 := fun q : Wd q1.w => q.slot (o := 5) Gr.out rfl
              have tw : ∀ q : Wd q1.w, q.w.cell? ⟨b2, o2 + kq, none⟩ = some (.string t) := fun q => (q.cell (hb1)).trans (hc1)
              have hne0 := Wd.ne q1.w
              have HC0 := hidK (fun q : Wd q1.w => sxxd_hit ⟨a1, l1, y1, a2, l2, y2, (some ⟨b3, o3, none⟩), l3, y3, a4, l4, y4, (some ⟨b, o, none⟩), l5, y5⟩ c.now c.xs t q.w (HR.out.x.below (HW.out.trans (q.b.mono HW.out.size))) HX.out HG1.out HG2.out)
              go_wp2_with fail
              refine wp_region_wide (by kernel_rfl) (by kernel_rfl) ?_
              repeat (go_big_quiet_step (first | (go_at_call 30; exact Calls.wide (HC0.out _)) | fail))
              refine wpQuiet_nil ?_
              rintro _ ⟨q2, rfl⟩
              have HB2 := upB HW q2.b
              have Ck := upK Gk q2.b
              have Cr := upK Gr q2.b
              clear hne0 HW HB HC0 k0 k1 k2 k3 k4 k5 r0 r1 r2 r3 r4 r5 tw Gk Gr Bk Br hc1 hb1
              have HB := HB2
              clear HB2
              have Bk := Ck
              clear Ck
              have Br := Cr
              clear Cr
              go_wp2_with fail
              refine ⟨⟨kq + 1, by omega, by go_num, fun j s hj hs => ?_, HBW1.out.trans (q2.b.mono HBW1.out.size)⟩, by simp [intOf]; omega⟩
              by_cases e : j = kq
              · subst e
                rw [HXt.out] at hs
                obtain rfl := Option.some.inj hs
                exact ⟨⟨i4, x4, HG1.out, HG2.out⟩, .inl HEm.out⟩
              · exact HQ2.out j s (by omega) hs
            · have HD := hidK hbd
              clear hbd
              have Gk : Hid (wr.heap[w.heap.size]? = some (.cells #[.slice a1 l1 y1, .slice a2 l2 y2, .slice a3 l3 y3, .slice a4 l4 y4, .slice (some ⟨b, o, none⟩) l5 y5, .int .i64 c.now] 39 (0, 0))) := Bk.out
              have Gr : Hid (wr.heap[gb]? = some (.cells #[.string p.n, .int .i64 p.c, .string p.z, .slice (some ⟨b2, o2, none⟩) vl vc, .string p.d, .int .i64 p.p] 118 (0, 0))) := Br.out
              have HW : Hid (Below w.heap.size w wr) := HB.out
              have k0 := fun q : Wd wr => q.slot (o := 0) Gk.out rfl
              have k1 := fun q : Wd wr => q.slot (o := 1) Gk.out rfl
              have k2 := fun q : Wd wr => q.slot (o := 2) Gk.out rfl
              have k3 := fun q : Wd wr => q.slot (o := 3) Gk.out rfl
              have k4 := fun q : Wd wr => q.slot (o := 4) Gk.out rfl
              have k5 := fun q : Wd wr => q.slot (o := 5) Gk.out rfl
              have r3 := fun q : Wd wr => q.slot (o := 3) Gr.out rfl
              have tw : ∀ q : Wd wr, q.w.cell? ⟨b2, o2 + kq, none⟩ = some (.string t) := fun q => (q.cell (hb)).trans (hc)
              have hne0 := Wd.ne wr
              have HC0 := hidK (fun q : Wd wr => sbind_miss ⟨a1, l1, y1, a2, l2, y2, a3, l3, y3, a4, l4, y4, (some ⟨b, o, none⟩), l5, y5⟩ c t q.w (HR.out.below (HW.out.trans (q.b.mono HW.out.size))) HX.out HV.out HNE.out HD.out)
              go_wp2_with fail
              refine wp_region_wide (by kernel_rfl) (by kernel_rfl) ?_
              repeat (go_big_quiet_step (first | (go_at_call 58; exact Calls.wide (HC0.out _)) | fail))
              refine wpQuiet_nil ?_
              rintro _ ⟨q1, rfl⟩
              have HB1 := upB HW q1.b
              have Ck := upK Gk q1.b
              have Cr := upK Gr q1.b
              clear hne0 HW HB HC0 k0 k1 k2 k3 k4 k5 r3 tw Gk Gr Bk Br pr3
              have HB := HB1
              clear HB1
              have Bk := Ck
              clear Ck
              have Br := Cr
              clear Cr
              have hc1 := (q1.cell hb).trans hc
              have hb1 : b2 < q1.w.heap.size := Nat.lt_of_lt_of_le hb q1.b.size
              have HBW1 := upB HBW q1.b
              clear hc hb HBW
              by_cases hg : ∃ (i : Nat) (x : Xd), c.xs[i]? = some x ∧ x.n = t
              rotate_left
              · have HG := hidK hg
                clear hg
                have Gk : Hid (q1.w.heap[w.heap.size]? = some (.cells #[.slice a1 l1 y1, .slice a2 l2 y2, .slice a3 l3 y3, .slice a4 l4 y4, .slice (some ⟨b, o, none⟩) l5 y5, .int .i64 c.now] 39 (0, 0))) := Bk.out
                have Gr : Hid (q1.w.heap[gb]? = some (.cells #[.string p.n, .int .i64 p.c, .string p.z, .slice (some ⟨b2, o2, none⟩) vl vc, .string p.d, .int .i64 p.p] 118 (0, 0))) := Br.out
                have HW : Hid (Below w.heap.size w q1.w) := HB.out
                have k0 := fun q : Wd q1.w => q.slot (o := 0) Gk.out rfl
                have k1 := fun q : Wd q1.w => q.slot (o := 1) Gk.out rfl
                have k2 := fun q : Wd q1.w => q.slot (o := 2) Gk.out rfl
                have k3 := fun q : Wd q1.w => q.slot (o := 3) Gk.out rfl
                have k4 := fun q : Wd q1.w => q.slot (o := 4) Gk.out rfl
                have k5 := fun q : Wd q1.w => q.slot (o := 5) Gk.out rfl
                have r0 := fun q : Wd q1.w => q.slot (o := 0) Gr.out rfl
                have r1 := fun q : Wd q1.w => q.slot (o := 1) Gr.out rfl
                have r2 := fun q : Wd q1.w => q.slot (o := 2) Gr.out rfl
                have r3 := fun q : Wd q1.w => q.slot (o := 3) Gr.out rfl
                have r4 := fun q : Wd q1.w => q.slot (o := 4) Gr.out rfl
                have r5 := fun q : Wd q1.w => q.slot (o := 5) Gr.out rfl
                have tw : ∀ q : Wd q1.w, q.w.cell? ⟨b2, o2 + kq, none⟩ = some (.string t) := fun q => (q.cell (hb1)).trans (hc1)
                have hne0 := Wd.ne q1.w
                have HC0 := hidK (fun q : Wd q1.w => sxxd_miss ⟨a1, l1, y1, a2, l2, y2, a3, l3, y3, a4, l4, y4, (some ⟨b, o, none⟩), l5, y5⟩ c.now c.xs t q.w (HR.out.x.below (HW.out.trans (q.b.mono HW.out.size))) (fun i x h1 h2 => HG.out ⟨i, x, h1, h2⟩))
                go_wp2_with fail
                refine wp_region_wide (by kernel_rfl) (by kernel_rfl) ?_
                repeat (go_big_quiet_step (first | (go_at_call 30; exact Calls.wide (HC0.out _)) | fail))
                refine wpQuiet_nil ?_
                rintro _ ⟨q2, rfl⟩
                have HB2 := upB HW q2.b
                have Ck := upK Gk q2.b
                have Cr := upK Gr q2.b
                clear hne0 HW HB HC0 k0 k1 k2 k3 k4 k5 r0 r1 r2 r3 r4 r5 tw Gk Gr Bk Br hc1 hb1
                have HB := HB2
                clear HB2
                have Bk := Ck
                clear Ck
                have Br := Cr
                clear Cr
                go_wp2
                go_ret
                refine BoolB.f (fun h => ?_) HB.out
                have h9 := (h.1 k p HXp.out).2.1 kq t HXt.out
                exact HG.out h9.1
              obtain ⟨i4, x4, g1, g2⟩ := hg
              have HG1 := hidK g1
              have HG2 := hidK g2
              have hi41 : decide ((i4 : Int) < 0) = false := by simp
              clear g1 g2
              have Gk : Hid (q1.w.heap[w.heap.size]? = some (.cells #[.slice a1 l1 y1, .slice a2 l2 y2, .slice a3 l3 y3, .slice a4 l4 y4, .slice (some ⟨b, o, none⟩) l5 y5, .int .i64 c.now] 39 (0, 0))) := Bk.out
              have Gr : Hid (q1.w.heap[gb]? = some (.cells #[.string p.n, .int .i64 p.c, .string p.z, .slice (some ⟨b2, o2, none⟩) vl vc, .string p.d, .int .i64 p.p] 118 (0, 0))) := Br.out
              have HW : Hid (Below w.heap.size w q1.w) := HB.out
              have k0 := fun q : Wd q1.w => q.slot (o := 0) Gk.out rfl
              have k1 := fun q : Wd q1.w => q.slot (o := 1) Gk.out rfl
              have k2 := fun q : Wd q1.w => q.slot (o := 2) Gk.out rfl
              have k3 := fun q : Wd q1.w => q.slot (o := 3) Gk.out rfl
              have k4 := fun q : Wd q1.w => q.slot (o := 4) Gk.out rfl
              have k5 := fun q : Wd q1.w => q.slot (o := 5) Gk.out rfl
              have r0 := fun q : Wd q1.w => q.slot (o := 0) Gr.out rfl
              have r1 := fun q : Wd q1.w => q.slot (o := 1) Gr.out rfl
              have r2 := fun q : Wd q1.w => q.slot (o := 2) Gr.out rfl
              have r3 := fun q : Wd q1.w => q.slot (o := 3) Gr.out rfl
              have r4 := fun q : Wd q1.w => q.slot (o := 4) Gr.out rfl
              have r5 := fun q : Wd q1.w => q.slot (o := 5) Gr.out rfl
              have tw : ∀ q : Wd q1.w, q.w.cell? ⟨b2, o2 + kq, none⟩ = some (.string t) := fun q => (q.cell (hb1)).trans (hc1)
              have hne0 := Wd.ne q1.w
              have HC0 := hidK (fun q : Wd q1.w => sxxd_hit ⟨a1, l1, y1, a2, l2, y2, a3, l3, y3, a4, l4, y4, (some ⟨b, o, none⟩), l5, y5⟩ c.now c.xs t q.w (HR.out.x.below (HW.out.trans (q.b.mono HW.out.size))) HX.out HG1.out HG2.out)
              go_wp2_with fail
              refine wp_region_wide (by kernel_rfl) (by kernel_rfl) ?_
              repeat (go_big_quiet_step (first | (go_at_call 30; exact Calls.wide (HC0.out _)) | fail))
              refine wpQuiet_nil ?_
              rintro _ ⟨q2, rfl⟩
              have HB2 := upB HW q2.b
              have Ck := upK Gk q2.b
              have Cr := upK Gr q2.b
              clear hne0 HW HB HC0 k0 k1 k2 k3 k4 k5 r0 r1 r2 r3 r4 r5 tw Gk Gr Bk Br hc1 hb1
              have HB := HB2
              clear HB2
              have Bk := Ck
              clear Ck
              have Br := Cr
              clear Cr
              go_wp2_with fail
              refine ⟨⟨kq + 1, by omega, by go_num, fun j s hj hs => ?_, HBW1.out.trans (q2.b.mono HBW1.out.size)⟩, by simp [intOf]; omega⟩
              by_cases e : j = kq
              · subst e
                rw [HXt.out] at hs
                obtain rfl := Option.some.inj hs
                exact ⟨⟨i4, x4, HG1.out, HG2.out⟩, .inl HEm.out⟩
              · exact HQ2.out j s (by omega) hs
          · obtain rfl : vl = kq := by omega
            have HQb : Hid (PSb c p) := fun j t ht => HQ2.out j t (by have h1 := (List.getElem?_eq_some_iff.1 ht).1; have h2 := HVL.out; omega) ht
            clear HQ2
            have TV2 := hidK (TV.out.below HBW.out)
            have KV2 := Bk
            have GV2 := Br
            have BV2 := HB
            clear KV GV BV TV Bk Br HB HBW
            obtain ⟨W2, hW⟩ : ∃ W2, W2 = wr := ⟨_, rfl⟩
            rw [← hW] at KV2 GV2 BV2 TV2
            go_wp2
            clear pr3
            rw [← hW]
            clear hW
            go_loopw [8] (fun i wr => ∃ kz : Nat, kz ≤ k ∧ i = .int .i64 kz ∧ Hid (∀ (j : Nat) q, j < kz → c.ps[j]? = some q → PairS c q p) ∧ Hid (Below W2.heap.size W2 wr)) (fun i _ => k - (intOf i).toNat)
            case atStart => exact ⟨0, by omega, rfl, fun _ _ h => absurd h (by omega), Below.refl _ _⟩
            case round =>
              obtain ⟨kz, hkz, rfl, HQ3, HBW⟩ := hrel
              have HB := hidK (BV2.out.trans (HBW.out.mono BV2.out.size))
              have Bk := upK KV2 HBW.out
              have Br := upK GV2 HBW.out
              have HTp := hidK (TV2.out.below HBW.out)
              by_cases hlt3 : kz < k
              · obtain ⟨b', o', pq, e', hb', hqq, hatq⟩ := pd_at (HR.out.p.below HB.out) (show kz < l5 by omega)
                cases e'
                obtain ⟨qa, ql, qc, hqr, z0, z2, z4, d0, d1, d2, d3, d4, d5⟩ := pd_cells hatq
                have HXq := hidK hqq
                have HTq := hidK hqr
                clear hatq hqq hqr z0 z2 z4
                by_cases hpr : PairS c pq p
                · have HPr := hidK hpr
                  clear hpr
                  have Gk : Hid (wr.heap[w.heap.size]? = some (.cells #[.slice a1 l1 y1, .slice a2 l2 y2, .slice a3 l3 y3, .slice a4 l4 y4, .slice (some ⟨b, o, none⟩) l5 y5, .int .i64 c.now] 39 (0, 0))) := Bk.out
                  have Gr : Hid (wr.heap[gb]? = some (.cells #[.string p.n, .int .i64 p.c, .string p.z, .slice va vl vc, .string p.d, .int .i64 p.p] 118 (0, 0))) := Br.out
                  have HW : Hid (Below w.heap.size w wr) := HB.out
                  have k0 := fun q : Wd wr => q.slot (o := 0) Gk.out rfl
                  have k1 := fun q : Wd wr => q.slot (o := 1) Gk.out rfl
                  have k2 := fun q : Wd wr => q.slot (o := 2) Gk.out rfl
                  have k3 := fun q : Wd wr => q.slot (o := 3) Gk.out rfl
                  have k4 := fun q : Wd wr => q.slot (o := 4) Gk.out rfl
                  have k5 := fun q : Wd wr => q.slot (o := 5) Gk.out rfl
                  have r0 := fun q : Wd wr => q.slot (o := 0) Gr.out rfl
                  have r1 := fun q : Wd wr => q.slot (o := 1) Gr.out rfl
                  have r2 := fun q : Wd wr => q.slot (o := 2) Gr.out rfl
                  have r3 := fun q : Wd wr => q.slot (o := 3) Gr.out rfl
                  have r4 := fun q : Wd wr => q.slot (o := 4) Gr.out rfl
                  have r5 := fun q : Wd wr => q.slot (o := 5) Gr.out rfl
                  have q0 : ∀ q : Wd wr, q.w.cell? ⟨b, o + kz * 6, none⟩ = some (.string pq.n) := fun q => (q.cell (hb')).trans (d0)
                  have q1 : ∀ q : Wd wr, q.w.cell? ⟨b, o + kz * 6 + 1, none⟩ = some (.int .i64 pq.c) := fun q => (q.cell (hb')).trans (d1)
                  have q2 : ∀ q : Wd wr, q.w.cell? ⟨b, o + kz * 6 + 2, none⟩ = some (.string pq.z) := fun q => (q.cell (hb')).trans (d2)
                  have q3 : ∀ q : Wd wr, q.w.cell? ⟨b, o + kz * 6 + 3, none⟩ = some (.slice qa ql qc) := fun q => (q.cell (hb')).trans (d3)
                  have q4 : ∀ q : Wd wr, q.w.cell? ⟨b, o + kz * 6 + 4, none⟩ = some (.string pq.d) := fun q => (q.cell (hb')).trans (d4)
                  have q5 : ∀ q : Wd wr, q.w.cell? ⟨b, o + kz * 6 + 5, none⟩ = some (.int .i64 pq.p) := fun q => (q.cell (hb')).trans (d5)
                  have hne0 := Wd.ne wr
                  have HC0 := hidK (fun qw : Wd wr => (spair_any ⟨a1, l1, y1, a2, l2, y2, a3, l3, y3, a4, l4, y4, (some ⟨b, o, none⟩), l5, y5⟩ c pq p qa ql qc va vl vc qw.w (HR.out.below (HW.out.trans (qw.b.mono HW.out.size))) HX.out HV.out HNE.out (HTq.out.below qw.b) (HTp.out.below qw.b)).mono (fun _ _ h => BoolB.yes h HPr.out))
                  go_wp2_with fail
                  refine wp_region_wide (by kernel_rfl) (by kernel_rfl) ?_
                  repeat (go_big_quiet_step (first | (go_at_call 127; exact Calls.wide (HC0.out _)) | fail))
                  refine wpQuiet_nil ?_
                  rintro _ ⟨q9, rfl⟩
                  have HB1 := upB HW q9.b
                  have Ck := upK Gk q9.b
                  have Cr := upK Gr q9.b
                  clear hne0 HW HB HC0 k0 k1 k2 k3 k4 k5 r0 r1 r2 r3 r4 r5 q0 q1 q2 q3 q4 q5 Gk Gr Bk Br d0 d1 d2 d3 d4 d5
                  have HB := HB1
                  clear HB1
                  have Bk := Ck
                  clear Ck
                  have Br := Cr
                  clear Cr
                  go_wp2_with fail
                  refine ⟨⟨kz + 1, by omega, by go_num, fun j s hj hs => ?_, HBW.out.trans (q9.b.mono HBW.out.size)⟩, by simp [intOf]; omega⟩
                  by_cases e : j = kz
                  · subst e
                    rw [HXq.out] at hs
                    obtain rfl := Option.some.inj hs
                    exact HPr.out
                  · exact HQ3.out j s (by omega) hs
                · have HPr := hidK hpr
                  clear hpr
                  have Gk : Hid (wr.heap[w.heap.size]? = some (.cells #[.slice a1 l1 y1, .slice a2 l2 y2, .slice a3 l3 y3, .slice a4 l4 y4, .slice (some ⟨b, o, none⟩) l5 y5, .int .i64 c.now] 39 (0, 0))) := Bk.out
                  have Gr : Hid (wr.heap[gb]? = some (.cells #[.string p.n, .int .i64 p.c, .string p.z, .slice va vl vc, .string p.d, .int .i64 p.p] 118 (0, 0))) := Br.out
                  have HW : Hid (Below w.heap.size w wr) := HB.out
                  have k0 := fun q : Wd wr => q.slot (o := 0) Gk.out rfl
                  have k1 := fun q : Wd wr => q.slot (o := 1) Gk.out rfl
                  have k2 := fun q : Wd wr => q.slot (o := 2) Gk.out rfl
                  have k3 := fun q : Wd wr => q.slot (o := 3) Gk.out rfl
                  have k4 := fun q : Wd wr => q.slot (o := 4) Gk.out rfl
                  have k5 := fun q : Wd wr => q.slot (o := 5) Gk.out rfl
                  have r0 := fun q : Wd wr => q.slot (o := 0) Gr.out rfl
                  have r1 := fun q : Wd wr => q.slot (o := 1) Gr.out rfl
                  have r2 := fun q : Wd wr => q.slot (o := 2) Gr.out rfl
                  have r3 := fun q : Wd wr => q.slot (o := 3) Gr.out rfl
                  have r4 := fun q : Wd wr => q.slot (o := 4) Gr.out rfl
                  have r5 := fun q : Wd wr => q.slot (o := 5) Gr.out rfl
                  have q0 : ∀ q : Wd wr, q.w.cell? ⟨b, o + kz * 6, none⟩ = some (.string pq.n) := fun q => (q.cell (hb')).trans (d0)
                  have q1 : ∀ q : Wd wr, q.w.cell? ⟨b, o + kz * 6 + 1, none⟩ = some (.int .i64 pq.c) := fun q => (q.cell (hb')).trans (d1)
                  have q2 : ∀ q : Wd wr, q.w.cell? ⟨b, o + kz * 6 + 2, none⟩ = some (.string pq.z) := fun q => (q.cell (hb')).trans (d2)
                  have q3 : ∀ q : Wd wr, q.w.cell? ⟨b, o + kz * 6 + 3, none⟩ = some (.slice qa ql qc) := fun q => (q.cell (hb')).trans (d3)
                  have q4 : ∀ q : Wd wr, q.w.cell? ⟨b, o + kz * 6 + 4, none⟩ = some (.string pq.d) := fun q => (q.cell (hb')).trans (d4)
                  have q5 : ∀ q : Wd wr, q.w.cell? ⟨b, o + kz * 6 + 5, none⟩ = some (.int .i64 pq.p) := fun q => (q.cell (hb')).trans (d5)
                  have hne0 := Wd.ne wr
                  have HC0 := hidK (fun qw : Wd wr => (spair_any ⟨a1, l1, y1, a2, l2, y2, a3, l3, y3, a4, l4, y4, (some ⟨b, o, none⟩), l5, y5⟩ c pq p qa ql qc va vl vc qw.w (HR.out.below (HW.out.trans (qw.b.mono HW.out.size))) HX.out HV.out HNE.out (HTq.out.below qw.b) (HTp.out.below qw.b)).mono (fun _ _ h => BoolB.no h HPr.out))
                  go_wp2_with fail
                  refine wp_region_wide (by kernel_rfl) (by kernel_rfl) ?_
                  repeat (go_big_quiet_step (first | (go_at_call 127; exact Calls.wide (HC0.out _)) | fail))
                  refine wpQuiet_nil ?_
                  rintro _ ⟨q9, rfl⟩
                  have HB1 := upB HW q9.b
                  have Ck := upK Gk q9.b
                  have Cr := upK Gr q9.b
                  clear hne0 HW HB HC0 k0 k1 k2 k3 k4 k5 r0 r1 r2 r3 r4 r5 q0 q1 q2 q3 q4 q5 Gk Gr Bk Br d0 d1 d2 d3 d4 d5
                  have HB := HB1
                  clear HB1
                  have Bk := Ck
                  clear Ck
                  have Br := Cr
                  clear Cr
                  go_wp2
                  go_ret
                  exact BoolB.f (fun h => HPr.out ((h.1 k p HXp.out).2.2 kz pq hlt3 HXq.out)) HB.out
              · obtain rfl : k = kz := by omega
                go_wp2_with fail
                refine ⟨⟨k + 1, by omega, by go_num, fun j z hj hz => ?_, HB.out, Bk.out⟩, by simp [intOf]; omega⟩
                by_cases e : j = k
                · subst e
                  rw [HXp.out] at hz
                  obtain rfl := Option.some.inj hz
                  exact ⟨HPa.out, HQb.out, fun j2 q2 hj2 hq2 => HQ3.out j2 q2 hj2 hq2⟩
                · exact HQ.out j z (by omega) hz
      have hq := isE_no he
      have HEm := hidK he
      clear he
      rcases hf with ⟨j1, n, h1, h2, rfl⟩ | ⟨hh, rfl⟩
      rotate_left
      · have HH := hidK hh
        clear hh
        have Gk : Hid (w1.heap[w.heap.size]? = some (.cells #[.slice a1 l1 y1, .slice a2 l2 y2, .slice a3 l3 y3, .slice a4 l4 y4, .slice (some ⟨b, o, none⟩) l5 y5, .int .i64 c.now] 39 (0, 0))) := Bk.out
        have Gr : Hid (w1.heap[wr.heap.size]? = some (.cells #[.string p.n, .int .i64 p.c, .string p.z, .slice va vl vc, .string p.d, .int .i64 p.p] 118 (0, 0))) := Br.out
        have HW : Hid (Below w.heap.size w w1) := HB.out
        have k0 := fun q : Wd w1 => q.slot (o := 0) Gk.out rfl
        have r0 := fun q : Wd w1 => q.slot (o := 0) Gr.out rfl
        have r1 := fun q : Wd w1 => q.slot (o := 1) Gr.out rfl
        have r2 := fun q : Wd w1 => q.slot (o := 2) Gr.out rfl
        have r3 := fun q : Wd w1 => q.slot (o := 3) Gr.out rfl
        have r4 := fun q : Wd w1 => q.slot (o := 4) Gr.out rfl
        have r5 := fun q : Wd w1 => q.slot (o := 5) Gr.out rfl
        have hne0 := Wd.ne w1
        go_wp2_with fail
        refine wp_region_wide (by kernel_rfl) (by kernel_rfl) ?_
        repeat (go_big_quiet_step (first | fail))
        refine wpQuiet_nil ?_
        rintro _ ⟨q0, rfl⟩
        have HB2 := upB HW q0.b
        have Ck := upK Gk q0.b
        have Cr := upK Gr q0.b
        have CHTp := hidK ((HTp.out).below q0.b)
        clear hne0 HW HB k0 r0 r1 r2 r3 r4 r5 Gk Gr Bk Br HTp
        have HB := HB2
        clear HB2
        have HTp := CHTp
        clear CHTp
        have Bk := Ck
        clear Ck
        have Br := Cr
        clear Cr
        go_wp2
        go_ret
        refine BoolB.f (fun h => ?_) HB.out
        rcases (h.1 k p HXp.out).1 with h2 | ⟨i, n, h2, h3, _⟩
        · exact HEm.out h2
        · exact HH.out i n h2 h3
      have hl1' : j1 < l1 := by have h3 := (List.getElem?_eq_some_iff.1 h1).1; omega
      obtain ⟨b1, o1, n', rfl, hb1n, hn', hat⟩ := nd_at HR.out.n hl1'
      rw [h1] at hn'
      obtain rfl := Option.some.inj hn'
      obtain ⟨na, nl, nc, hnr, z0, z1, d0, d1, d2, d3, d4, d5, d6⟩ := nd_cells hat
      have HJn := hidK h1
      have HNn := hidK h2
      have HCn := hidK d1
      have HBn := hidK hb1n
      have hj11 : decide ((j1 : Int) < 0) = false := by simp
      have hbn : b1 < w1.heap.size := Nat.lt_of_lt_of_le hb1n HB.out.size
      have n1 := (cell_below HB.out hb1n).trans d1
      clear hn' hat hnr z0 z1 d0 d1 d2 d3 d4 d5 d6 h1 h2 hb1n
      by_cases hz0 : p.z = ⟨#[]⟩
      · have hq2 := isE_y hz0
        have HPa : Hid (PSa c p) := .inr ⟨j1, n, HJn.out, HNn.out, .inl hz0⟩
        clear hz0
        have Gk : Hid (w1.heap[w.heap.size]? = some (.cells #[.slice (some ⟨b1, o1, none⟩) l1 y1, .slice a2 l2 y2, .slice a3 l3 y3, .slice a4 l4 y4, .slice (some ⟨b, o, none⟩) l5 y5, .int .i64 c.now] 39 (0, 0))) := Bk.out
        have Gr : Hid (w1.heap[wr.heap.size]? = some (.cells #[.string p.n, .int .i64 p.c, .string p.z, .slice va vl vc, .string p.d, .int .i64 p.p] 118 (0, 0))) := Br.out
        have HW : Hid (Below w.heap.size w w1) := HB.out
        have k0 := fun q : Wd w1 => q.slot (o := 0) Gk.out rfl
        have r0 := fun q : Wd w1 => q.slot (o := 0) Gr.out rfl
        have r1 := fun q : Wd w1 => q.slot (o := 1) Gr.out rfl
        have r2 := fun q : Wd w1 => q.slot (o := 2) Gr.out rfl
        have r3 := fun q : Wd w1 => q.slot (o := 3) Gr.out rfl
        have r4 := fun q : Wd w1 => q.slot (o := 4) Gr.out rfl
        have r5 := fun q : Wd w1 => q.slot (o := 5) Gr.out rfl
        have nw : ∀ q : Wd w1, q.w.cell? ⟨b1, o1 + j1 * 7 + 1, none⟩ = some (.string n.z) := fun q => (q.cell (hbn)).trans (n1)
        have hne0 := Wd.ne w1
        go_wp2_with fail
        refine wp_region_wide (by kernel_rfl) (by kernel_rfl) ?_
        repeat (go_big_quiet_step (first | fail))
        refine wpQuiet_nil ?_
        rintro _ ⟨q0, rfl⟩
        have HB2 := upB HW q0.b
        have Ck := upK Gk q0.b
        have Cr := upK Gr q0.b
        have CHTp := hidK ((HTp.out).below q0.b)
        clear hne0 HW HB k0 r0 r1 r2 r3 r4 r5 nw Gk Gr Bk Br HTp hbn n1
        have HB := HB2
        clear HB2
        have HTp := CHTp
        clear CHTp
        have Bk := Ck
        clear Ck
        have Br := Cr
        clear Cr
        clear hq2
        obtain ⟨gb, hgb⟩ : ∃ gb, gb = wr.heap.size := ⟨_, rfl⟩
        rw [← hgb] at Br
        have pr3 : q0.w.cell? ⟨gb, 3, none⟩ = some (.slice va vl vc) := cellK Br.out 3
        rw [hgb] at pr3
        go_wp2
        rw [← hgb]
        clear pr3 hgb
        have KV := Bk
        have GV := Br
        have BV := HB
        have TV := HTp
        clear Bk Br HB HTp
        obtain ⟨W, hW⟩ : ∃ W, W = q0.w := ⟨_, rfl⟩
        rw [← hW] at KV GV BV TV ⊢
        clear hW
        go_loopw [6] (fun i wr => ∃ kq : Nat, kq ≤ vl ∧ i = .int .i64 kq ∧ Hid (∀ (j : Nat) t, j < kq → p.zs[j]? = some t → PSb1 c p t) ∧ Hid (Below W.heap.size W wr)) (fun i _ => vl - (intOf i).toNat)
        case atStart => exact ⟨0, by omega, rfl, fun _ _ h => absurd h (by omega), Below.refl _ _⟩
        case round =>
          obtain ⟨kq, hkq, rfl, HQ2, HBW⟩ := hrel
          have HB := hidK (BV.out.trans (HBW.out.mono BV.out.size))
          have Bk := upK KV HBW.out
          have Br := upK GV HBW.out
          have pr3 : wr.cell? ⟨gb, 3, none⟩ = some (.slice va vl vc) := cellK Br.out 3
          by_cases hlt2 : kq < vl
          · obtain ⟨b2, o2, t, rfl, hb, hxt, hc, hsz⟩ := (TV.out.below HBW.out).at hlt2
            have HXt := hidK hxt
            clear hxt hsz
            have hcase : (∃ v, IsBd c t v) ∨ (∀ v, ¬ IsBd c t v) := by
              by_cases h : ∃ v, IsBd c t v
              · exact .inl h
              · exact .inr (fun v hv => h ⟨v, hv⟩)
            rcases hcase with ⟨v, hbd⟩ | hbd
            · obtain ⟨j3, hj3⟩ := hbd.at
              have hl3' : j3 < l3 := by have h1 := (List.getElem?_eq_some_iff.1 hj3).1; omega
              obtain ⟨b3, o3, v', rfl, hb3, hv', hat⟩ := vd_at HR.out.v hl3'
              rw [hj3] at hv'
              obtain rfl := Option.some.inj hv'
              obtain ⟨xa, xl, xc, hvr, z0, z2, z3, z5, d0, d1, d2, d3, d4, d5, d6, d7⟩ := vd_cells hat
              have HJ := hidK hj3
              have HD := hidK hbd
              have HC2 := hidK d2
              have HB3 := hidK hb3
              have hj31 : decide ((j3 : Int) < 0) = false := by simp
              clear hv' hat hvr z0 z2 z3 z5 d0 d1 d2 d3 d4 d5 d6 d7 hj3 hbd hb3
              have Gk : Hid (wr.heap[w.heap.size]? = some (.cells #[.slice (some ⟨b1, o1, none⟩) l1 y1, .slice a2 l2 y2, .slice (some ⟨b3, o3, none⟩) l3 y3, .slice a4 l4 y4, .slice (some ⟨b, o, none⟩) l5 y5, .int .i64 c.now] 39 (0, 0))) := Bk.out
              have Gr : Hid (wr.heap[gb]? = some (.cells #[.string p.n, .int .i64 p.c, .string p.z, .slice (some ⟨b2, o2, none⟩) vl vc, .string p.d, .int .i64 p.p] 118 (0, 0))) := Br.out
              have HW : Hid (Below w.heap.size w wr) := HB.out
              have k0 := fun q : Wd wr => q.slot (o := 0) Gk.out rfl
              have k1 := fun q : Wd wr => q.slot (o := 1) Gk.out rfl
              have k2 := fun q : Wd wr => q.slot (o := 2) Gk.out rfl
              have k3 := fun q : Wd wr => q.slot (o := 3) Gk.out rfl
              have k4 := fun q : Wd wr => q.slot (o := 4) Gk.out rfl
              have k5 := fun q : Wd wr => q.slot (o := 5) Gk.out rfl
              have r3 := fun q : Wd wr => q.slot (o := 3) Gr.out rfl
              have tw : ∀ q : Wd wr, q.w.cell? ⟨b2, o2 + kq, none⟩ = some (.string t) := fun q => (q.cell (hb)).trans (hc)
              have hne0 := Wd.ne wr
              have HC0 := hidK (fun q : Wd wr => sbind_hit ⟨(some ⟨b1, o1, none⟩), l1, y1, a2, l2, y2, (some ⟨b3, o3, none⟩), l3, y3, a4, l4, y4, (some ⟨b, o, none⟩), l5, y5⟩ c t q.w (HR.out.below (HW.out.trans (q.b.mono HW.out.size))) HX.out HV.out HNE.out HJ.out HD.out)
              go_wp2_with fail
              refine wp_region_wide (by kernel_rfl) (by kernel_rfl) ?_
              repeat (go_big_quiet_step (first | (go_at_call 58; exact Calls.wide (HC0.out _)) | fail))
              refine wpQuiet_nil ?_
              rintro _ ⟨q1, rfl⟩
              have HB1 := upB HW q1.b
              have Ck := upK Gk q1.b
              have Cr := upK Gr q1.b
              clear hne0 HW HB HC0 k0 k1 k2 k3 k4 k5 r3 tw Gk Gr Bk Br pr3
              have HB := HB1
              clear HB1
              have Bk := Ck
              clear Ck
              have Br := Cr
              clear Cr
              have hc1 := (q1.cell hb).trans hc
              have hb1 : b2 < q1.w.heap.size := Nat.lt_of_lt_of_le hb q1.b.size
              have HBW1 := upB HBW q1.b
              clear hc hb HBW
              by_cases hg : ∃ (i : Nat) (x : Xd), c.xs[i]? = some x ∧ x.n = t
              rotate_left
              · have HG := hidK hg
                clear hg
                have Gk : Hid (q1.w.heap[w.heap.size]? = some (.cells #[.slice (some ⟨b1, o1, none⟩) l1 y1, .slice a2 l2 y2, .slice (some ⟨b3, o3, none⟩) l3 y3, .slice a4 l4 y4, .slice (some ⟨b, o, none⟩) l5 y5, .int .i64 c.now] 39 (0, 0))) := Bk.out
                have Gr : Hid (q1.w.heap[gb]? = some (.cells #[.string p.n, .int .i64 p.c, .string p.z, .slice (some ⟨b2, o2, none⟩) vl vc, .string p.d, .int .i64 p.p] 118 (0, 0))) := Br.out
                have HW : Hid (Below w.heap.size w q1.w) := HB.out
                have k0 := fun q : Wd q1.w => q.slot (o := 0) Gk.out rfl
                have k1 := fun q : Wd q1.w => q.slot (o := 1) Gk.out rfl
                have k2 := fun q : Wd q1.w => q.slot (o := 2) Gk.out rfl
                have k3 := fun q : Wd q1.w => q.slot (o := 3) Gk.out rfl
                have k4 := fun q : Wd q1.w => q.slot (o := 4) Gk.out rfl
                have k5 := fun q : Wd q1.w => q.slot (o := 5) Gk.out rfl
                have r0 := fun q : Wd q1.w => q.slot (o := 0) Gr.out rfl
                have r1 := fun q : Wd q1.w => q.slot (o := 1) Gr.out rfl
                have r2 := fun q : Wd q1.w => q.slot (o := 2) Gr.out rfl
                have r3 := fun q : Wd q1.w => q.slot (o := 3) Gr.out rfl
                have r4 := fun q : Wd q1.w => q.slot (o := 4) Gr.out rfl
                have r5 := fun q : Wd q1.w => q.slot (o := 5) Gr.out rfl
                have tw : ∀ q : Wd q1.w, q.w.cell? ⟨b2, o2 + kq, none⟩ = some (.string t) := fun q => (q.cell (hb1)).trans (hc1)
                have hne0 := Wd.ne q1.w
                have HC0 := hidK (fun q : Wd q1.w => sxxd_miss ⟨(some ⟨b1, o1, none⟩), l1, y1, a2, l2, y2, (some ⟨b3, o3, none⟩), l3, y3, a4, l4, y4, (some ⟨b, o, none⟩), l5, y5⟩ c.now c.xs t q.w (HR.out.x.below (HW.out.trans (q.b.mono HW.out.size))) (fun i x h1 h2 => HG.out ⟨i, x, h1, h2⟩))
                go_wp2_with fail
                refine wp_region_wide (by kernel_rfl) (by kernel_rfl) ?_
                repeat (go_big_quiet_step (first | (go_at_call 30; exact Calls.wide (HC0.out _)) | fail))
                refine wpQuiet_nil ?_
                rintro _ ⟨q2, rfl⟩
                have HB2 := upB HW q2.b
                have Ck := upK Gk q2.b
                have Cr := upK Gr q2.b
                clear hne0 HW HB HC0 k0 k1 k2 k3 k4 k5 r0 r1 r2 r3 r4 r5 tw Gk Gr Bk Br hc1 hb1
                have HB := HB2
                clear HB2
                have Bk := Ck
                clear Ck
                have Br := Cr
                clear Cr
                go_wp2
                go_ret
                refine BoolB.f (fun h => ?_) HB.out
                have h9 := (h.1 k p HXp.out).2.1 kq t HXt.out
                exact HG.out h9.1
              obtain ⟨i4, x4, g1, g2⟩ := hg
              have HG1 := hidK g1
              have HG2 := hidK g2
              have hi41 : decide ((i4 : Int) < 0) = false := by simp
              clear g1 g2
              have hbv : b3 < q1.w.heap.size := Nat.lt_of_lt_of_le HB3.out HB.out.size
              have v2 := (cell_below HB.out HB3.out).trans HC2.out
              have hbn : b1 < q1.w.heap.size := Nat.lt_of_lt_of_le HBn.out HB.out.size
              have n1 := (cell_below HB.out HBn.out).trans HCn.out
              by_cases hz : v.z = n.z
              · have hzq := tl_yes hz
                have HZ := hidK hz
                clear hz
                have Gk : Hid (q1.w.heap[w.heap.size]? = some (.cells #[.slice (some ⟨b1, o1, none⟩) l1 y1, .slice a2 l2 y2, .slice (some ⟨b3, o3, none⟩) l3 y3, .slice a4 l4 y4, .slice (some ⟨b, o, none⟩) l5 y5, .int .i64 c.now] 39 (0, 0))) := Bk.out
                have Gr : Hid (q1.w.heap[gb]? = some (.cells #[.string p.n, .int .i64 p.c, .string p.z, .slice (some ⟨b2, o2, none⟩) vl vc, .string p.d, .int .i64 p.p] 118 (0, 0))) := Br.out
                have HW : Hid (Below w.heap.size w q1.w) := HB.out
                have k0 := fun q : Wd q1.w => q.slot (o := 0) Gk.out rfl
                have k1 := fun q : Wd q1.w => q.slot (o := 1) Gk.out rfl
                have k2 := fun q : Wd q1.w => q.slot (o := 2) Gk.out rfl
                have k3 := fun q : Wd q1.w => q.slot (o := 3) Gk.out rfl
                have k4 := fun q : Wd q1.w => q.slot (o := 4) Gk.out rfl
                have k5 := fun q : Wd q1.w => q.slot (o := 5) Gk.out rfl
                have r0 := fun q : Wd q1.w => q.slot (o := 0) Gr.out rfl
                have r1 := fun q : Wd q1.w => q.slot (o := 1) Gr.out rfl
                have r2 := fun q : Wd q1.w => q.slot (o := 2) Gr.out rfl
                have r3 := fun q : Wd q1.w => q.slot (o := 3) Gr.out rfl
                have r4 := fun q : Wd q1.w => q.slot (o := 4) Gr.out rfl
                have r5 := fun q : Wd q1.w => q.slot (o := 5) Gr.out rfl
                have tw : ∀ q : Wd q1.w, q.w.cell? ⟨b2, o2 + kq, none⟩ = some (.string t) := fun q => (q.cell (hb1)).trans (hc1)
                have vw : ∀ q : Wd q1.w, q.w.cell? ⟨b3, o3 + j3 * 8 + 2, none⟩ = some (.string v.z) := fun q => (q.cell (hbv)).trans (v2)
                have nw : ∀ q : Wd q1.w, q.w.cell? ⟨b1, o1 + j1 * 7 + 1, none⟩ = some (.string n.z) := fun q => (q.cell (hbn)).trans (n1)
                have hne0 := Wd.ne q1.w
                have HC0 := hidK (fun q : Wd q1.w => sxxd_hit ⟨(some ⟨b1, o1, none⟩), l1, y1, a2, l2, y2, (some ⟨b3, o3, none⟩), l3, y3, a4, l4, y4, (some ⟨b, o, none⟩), l5, y5⟩ c.now c.xs t q.w (HR.out.x.below (HW.out.trans (q.b.mono HW.out.size))) HX.out HG1.out HG2.out)
                go_wp2_with fail
                refine wp_region_wide (by kernel_rfl) (by kernel_rfl) ?_
                repeat (go_big_quiet_step (first | (go_at_call 30; exact Calls.wide (HC0.out _)) | fail))
                refine wpQuiet_nil ?_
                rintro _ ⟨q2, rfl⟩
                have HB2 := upB HW q2.b
                have Ck := upK Gk q2.b
                have Cr := upK Gr q2.b
                clear hne0 HW HB HC0 k0 k1 k2 k3 k4 k5 r0 r1 r2 r3 r4 r5 tw vw nw Gk Gr Bk Br hc1 hb1 hbv v2 hbn n1
                have HB := HB2
                clear HB2
                have Bk := Ck
                clear Ck
                have Br := Cr
                clear Cr
                clear hzq
                go_wp2_with fail
                refine ⟨⟨kq + 1, by omega, by go_num, fun j s hj hs => ?_, HBW1.out.trans (q2.b.mono HBW1.out.size)⟩, by simp [intOf]; omega⟩
                by_cases e : j = kq
                · subst e
                  rw [HXt.out] at hs
                  obtain rfl := Option.some.inj hs
                  exact ⟨⟨i4, x4, HG1.out, HG2.out⟩, .inr ⟨v, j1, n, HD.out, HJn.out, HNn.out, HZ.out⟩⟩
                · exact HQ2.out j s (by omega) hs
              · have hzq := tl_no hz
                have HZ := hidK hz
                clear hz
                have Gk : Hid (q1.w.heap[w.heap.size]? = some (.cells #[.slice (some ⟨b1, o1, none⟩) l1 y1, .slice a2 l2 y2, .slice (some ⟨b3, o3, none⟩) l3 y3, .slice a4 l4 y4, .slice (some ⟨b, o, none⟩) l5 y5, .int .i64 c.now] 39 (0, 0))) := Bk.out
                have Gr : Hid (q1.w.heap[gb]? = some (.cells #[.string p.n, .int .i64 p.c, .string p.z, .slice (some ⟨b2, o2, none⟩) vl vc, .string p.d, .int .i64 p.p] 118 (0, 0))) := Br.out
                have HW : Hid (Below w.heap.size w q1.w) := HB.out
                have k0 := fun q : Wd q1.w => q.slot (o := 0) Gk.out rfl
                have k1 := fun q : Wd q1.w => q.slot (o := 1) Gk.out rfl
                have k2 := fun q : Wd q1.w => q.slot (o := 2) Gk.out rfl
                have k3 := fun q : Wd q1.w => q.slot (o := 3) Gk.out rfl
                have k4 := fun q : Wd q1.w => q.slot (o := 4) Gk.out rfl
                have k5 := fun q : Wd q1.w => q.slot (o := 5) Gk.out rfl
                have r0 := fun q : Wd q1.w => q.slot (o := 0) Gr.out rfl
                have r1 := fun q : Wd q1.w => q.slot (o := 1) Gr.out rfl
                have r2 := fun q : Wd q1.w => q.slot (o := 2) Gr.out rfl
                have r3 := fun q : Wd q1.w => q.slot (o := 3) Gr.out rfl
                have r4 := fun q : Wd q1.w => q.slot (o := 4) Gr.out rfl
                have r5 := fun q : Wd q1.w => q.slot (o := 5) Gr.out rfl
                have tw : ∀ q : Wd q1.w, q.w.cell? ⟨b2, o2 + kq, none⟩ = some (.string t) := fun q => (q.cell (hb1)).trans (hc1)
                have vw : ∀ q : Wd q1.w, q.w.cell? ⟨b3, o3 + j3 * 8 + 2, none⟩ = some (.string v.z) := fun q => (q.cell (hbv)).trans (v2)
                have nw : ∀ q : Wd q1.w, q.w.cell? ⟨b1, o1 + j1 * 7 + 1, none⟩ = some (.string n.z) := fun q => (q.cell (hbn)).trans (n1)
                have hne0 := Wd.ne q1.w
                have HC0 := hidK (fun q : Wd q1.w => sxxd_hit ⟨(some ⟨b1, o1, none⟩), l1, y1, a2, l2, y2, (some ⟨b3, o3, none⟩), l3, y3, a4, l4, y4, (some ⟨b, o, none⟩), l5, y5⟩ c.now c.xs t q.w (HR.out.x.below (HW.out.trans (q.b.mono HW.out.size))) HX.out HG1.out HG2.out)
                go_wp2_with fail
                refine wp_region_wide (by kernel_rfl) (by kernel_rfl) ?_
                repeat (go_big_quiet_step (first | (go_at_call 30; exact Calls.wide (HC0.out _)) | fail))
                refine wpQuiet_nil ?_
                rintro _ ⟨q2, rfl⟩
                have HB2 := upB HW q2.b
                have Ck := upK Gk q2.b
                have Cr := upK Gr q2.b
                clear hne0 HW HB HC0 k0 k1 k2 k3 k4 k5 r0 r1 r2 r3 r4 r5 tw vw nw Gk Gr Bk Br hc1 hb1 hbv v2 hbn n1
                have HB := HB2
                clear HB2
                have Bk := Ck
                clear Ck
                have Br := Cr
                clear Cr
                go_wp2
                go_ret
                refine BoolB.f (fun h => ?_) HB.out
                have h9 := (h.1 k p HXp.out).2.1 kq t HXt.out
                rcases h9.2 with h2 | ⟨v', i, n', h2, h3, h4, h5⟩
                · exact HEm.out h2
                · obtain rfl := IsBd.inj HX.out HV.out HD.out h2
                  obtain ⟨_, rfl⟩ := HNR.out.inj h3 HJn.out (h4.trans HNn.out.symm)
                  exact HZ.out h5
            · have HD := hidK hbd
              clear hbd
              have Gk : Hid (wr.heap[w.heap.size]? = some (.cells #[.slice (some ⟨b1, o1, none⟩) l1 y1, .slice a2 l2 y2, .slice a3 l3 y3, .slice a4 l4 y4, .slice (some ⟨b, o, none⟩) l5 y5, .int .i64 c.now] 39 (0, 0))) := Bk.out
              have Gr : Hid (wr.heap[gb]? = some (.cells #[.string p.n, .int .i64 p.c, .string p.z, .slice (some ⟨b2, o2, none⟩) vl vc, .string p.d, .int .i64 p.p] 118 (0, 0))) := Br.out
              have HW : Hid (Below w.heap.size w wr) := HB.out
              have k0 := fun q : Wd wr => q.slot (o := 0) Gk.out rfl
              have k1 := fun q : Wd wr => q.slot (o := 1) Gk.out rfl
              have k2 := fun q : Wd wr => q.slot (o := 2) Gk.out rfl
              have k3 := fun q : Wd wr => q.slot (o := 3) Gk.out rfl
              have k4 := fun q : Wd wr => q.slot (o := 4) Gk.out rfl
              have k5 := fun q : Wd wr => q.slot (o := 5) Gk.out rfl
              have r3 := fun q : Wd wr => q.slot (o := 3) Gr.out rfl
              have tw : ∀ q : Wd wr, q.w.cell? ⟨b2, o2 + kq, none⟩ = some (.string t) := fun q => (q.cell (hb)).trans (hc)
              have hne0 := Wd.ne wr
              have HC0 := hidK (fun q : Wd wr => sbind_miss ⟨(some ⟨b1, o1, none⟩), l1, y1, a2, l2, y2, a3, l3, y3, a4, l4, y4, (some ⟨b, o, none⟩), l5, y5⟩ c t q.w (HR.out.below (HW.out.trans (q.b.mono HW.out.size))) HX.out HV.out HNE.out HD.out)
              go_wp2_with fail
              refine wp_region_wide (by kernel_rfl) (by kernel_rfl) ?_
              repeat (go_big_quiet_step (first | (go_at_call 58; exact Calls.wide (HC0.out _)) | fail))
              refine wpQuiet_nil ?_
              rintro _ ⟨q1, rfl⟩
              have HB1 := upB HW q1.b
              have Ck := upK Gk q1.b
              have Cr := upK Gr q1.b
              clear hne0 HW HB HC0 k0 k1 k2 k3 k4 k5 r3 tw Gk Gr Bk Br pr3
              have HB := HB1
              clear HB1
              have Bk := Ck
              clear Ck
              have Br := Cr
              clear Cr
              have hc1 := (q1.cell hb).trans hc
              have hb1 : b2 < q1.w.heap.size := Nat.lt_of_lt_of_le hb q1.b.size
              have HBW1 := upB HBW q1.b
              clear hc hb HBW
              by_cases hg : ∃ (i : Nat) (x : Xd), c.xs[i]? = some x ∧ x.n = t
              rotate_left
              · have HG := hidK hg
                clear hg
                have Gk : Hid (q1.w.heap[w.heap.size]? = some (.cells #[.slice (some ⟨b1, o1, none⟩) l1 y1, .slice a2 l2 y2, .slice a3 l3 y3, .slice a4 l4 y4, .slice (some ⟨b, o, none⟩) l5 y5, .int .i64 c.now] 39 (0, 0))) := Bk.out
                have Gr : Hid (q1.w.heap[gb]? = some (.cells #[.string p.n, .int .i64 p.c, .string p.z, .slice (some ⟨b2, o2, none⟩) vl vc, .string p.d, .int .i64 p.p] 118 (0, 0))) := Br.out
                have HW : Hid (Below w.heap.size w q1.w) := HB.out
                have k0 := fun q : Wd q1.w => q.slot (o := 0) Gk.out rfl
                have k1 := fun q : Wd q1.w => q.slot (o := 1) Gk.out rfl
                have k2 := fun q : Wd q1.w => q.slot (o := 2) Gk.out rfl
                have k3 := fun q : Wd q1.w => q.slot (o := 3) Gk.out rfl
                have k4 := fun q : Wd q1.w => q.slot (o := 4) Gk.out rfl
                have k5 := fun q : Wd q1.w => q.slot (o := 5) Gk.out rfl
                have r0 := fun q : Wd q1.w => q.slot (o := 0) Gr.out rfl
                have r1 := fun q : Wd q1.w => q.slot (o := 1) Gr.out rfl
                have r2 := fun q : Wd q1.w => q.slot (o := 2) Gr.out rfl
                have r3 := fun q : Wd q1.w => q.slot (o := 3) Gr.out rfl
                have r4 := fun q : Wd q1.w => q.slot (o := 4) Gr.out rfl
                have r5 := fun q : Wd q1.w => q.slot (o := 5) Gr.out rfl
                have tw : ∀ q : Wd q1.w, q.w.cell? ⟨b2, o2 + kq, none⟩ = some (.string t) := fun q => (q.cell (hb1)).trans (hc1)
                have hne0 := Wd.ne q1.w
                have HC0 := hidK (fun q : Wd q1.w => sxxd_miss ⟨(some ⟨b1, o1, none⟩), l1, y1, a2, l2, y2, a3, l3, y3, a4, l4, y4, (some ⟨b, o, none⟩), l5, y5⟩ c.now c.xs t q.w (HR.out.x.below (HW.out.trans (q.b.mono HW.out.size))) (fun i x h1 h2 => HG.out ⟨i, x, h1, h2⟩))
                go_wp2_with fail
                refine wp_region_wide (by kernel_rfl) (by kernel_rfl) ?_
                repeat (go_big_quiet_step (first | (go_at_call 30; exact Calls.wide (HC0.out _)) | fail))
                refine wpQuiet_nil ?_
                rintro _ ⟨q2, rfl⟩
                have HB2 := upB HW q2.b
                have Ck := upK Gk q2.b
                have Cr := upK Gr q2.b
                clear hne0 HW HB HC0 k0 k1 k2 k3 k4 k5 r0 r1 r2 r3 r4 r5 tw Gk Gr Bk Br hc1 hb1
                have HB := HB2
                clear HB2
                have Bk := Ck
                clear Ck
                have Br := Cr
                clear Cr
                go_wp2
                go_ret
                refine BoolB.f (fun h => ?_) HB.out
                have h9 := (h.1 k p HXp.out).2.1 kq t HXt.out
                exact HG.out h9.1
              obtain ⟨i4, x4, g1, g2⟩ := hg
              have HG1 := hidK g1
              have HG2 := hidK g2
              have hi41 : decide ((i4 : Int) < 0) = false := by simp
              clear g1 g2
              have Gk : Hid (q1.w.heap[w.heap.size]? = some (.cells #[.slice (some ⟨b1, o1, none⟩) l1 y1, .slice a2 l2 y2, .slice a3 l3 y3, .slice a4 l4 y4, .slice (some ⟨b, o, none⟩) l5 y5, .int .i64 c.now] 39 (0, 0))) := Bk.out
              have Gr : Hid (q1.w.heap[gb]? = some (.cells #[.string p.n, .int .i64 p.c, .string p.z, .slice (some ⟨b2, o2, none⟩) vl vc, .string p.d, .int .i64 p.p] 118 (0, 0))) := Br.out
              have HW : Hid (Below w.heap.size w q1.w) := HB.out
              have k0 := fun q : Wd q1.w => q.slot (o := 0) Gk.out rfl
              have k1 := fun q : Wd q1.w => q.slot (o := 1) Gk.out rfl
              have k2 := fun q : Wd q1.w => q.slot (o := 2) Gk.out rfl
              have k3 := fun q : Wd q1.w => q.slot (o := 3) Gk.out rfl
              have k4 := fun q : Wd q1.w => q.slot (o := 4) Gk.out rfl
              have k5 := fun q : Wd q1.w => q.slot (o := 5) Gk.out rfl
              have r0 := fun q : Wd q1.w => q.slot (o := 0) Gr.out rfl
              have r1 := fun q : Wd q1.w => q.slot (o := 1) Gr.out rfl
              have r2 := fun q : Wd q1.w => q.slot (o := 2) Gr.out rfl
              have r3 := fun q : Wd q1.w => q.slot (o := 3) Gr.out rfl
              have r4 := fun q : Wd q1.w => q.slot (o := 4) Gr.out rfl
              have r5 := fun q : Wd q1.w => q.slot (o := 5) Gr.out rfl
              have tw : ∀ q : Wd q1.w, q.w.cell? ⟨b2, o2 + kq, none⟩ = some (.string t) := fun q => (q.cell (hb1)).trans (hc1)
              have hne0 := Wd.ne q1.w
              have HC0 := hidK (fun q : Wd q1.w => sxxd_hit ⟨(some ⟨b1, o1, none⟩), l1, y1, a2, l2, y2, a3, l3, y3, a4, l4, y4, (some ⟨b, o, none⟩), l5, y5⟩ c.now c.xs t q.w (HR.out.x.below (HW.out.trans (q.b.mono HW.out.size))) HX.out HG1.out HG2.out)
              go_wp2_with fail
              refine wp_region_wide (by kernel_rfl) (by kernel_rfl) ?_
              repeat (go_big_quiet_step (first | (go_at_call 30; exact Calls.wide (HC0.out _)) | fail))
              refine wpQuiet_nil ?_
              rintro _ ⟨q2, rfl⟩
              have HB2 := upB HW q2.b
              have Ck := upK Gk q2.b
              have Cr := upK Gr q2.b
              clear hne0 HW HB HC0 k0 k1 k2 k3 k4 k5 r0 r1 r2 r3 r4 r5 tw Gk Gr Bk Br hc1 hb1
              have HB := HB2
              clear HB2
              have Bk := Ck
              clear Ck
              have Br := Cr
              clear Cr
              go_wp2
              go_ret
              refine BoolB.f (fun h => ?_) HB.out
              have h9 := (h.1 k p HXp.out).2.1 kq t HXt.out
              rcases h9.2 with h2 | ⟨v', i, n', h2, _⟩
              · exact HEm.out h2
              · exact HD.out v' h2
          · obtain rfl : vl = kq := by omega
            have HQb : Hid (PSb c p) := fun j t ht => HQ2.out j t (by have h1 := (List.getElem?_eq_some_iff.1 ht).1; have h2 := HVL.out; omega) ht
            clear HQ2
            have TV2 := hidK (TV.out.below HBW.out)
            have KV2 := Bk
            have GV2 := Br
            have BV2 := HB
            clear KV GV BV TV Bk Br HB HBW
            obtain ⟨W2, hW⟩ : ∃ W2, W2 = wr := ⟨_, rfl⟩
            rw [← hW] at KV2 GV2 BV2 TV2
            go_wp2
            clear pr3
            rw [← hW]
            clear hW
            go_loopw [8] (fun i wr => ∃ kz : Nat, kz ≤ k ∧ i = .int .i64 kz ∧ Hid (∀ (j : Nat) q, j < kz → c.ps[j]? = some q → PairS c q p) ∧ Hid (Below W2.heap.size W2 wr)) (fun i _ => k - (intOf i).toNat)
            case atStart => exact ⟨0, by omega, rfl, fun _ _ h => absurd h (by omega), Below.refl _ _⟩
            case round =>
              obtain ⟨kz, hkz, rfl, HQ3, HBW⟩ := hrel
              have HB := hidK (BV2.out.trans (HBW.out.mono BV2.out.size))
              have Bk := upK KV2 HBW.out
              have Br := upK GV2 HBW.out
              have HTp := hidK (TV2.out.below HBW.out)
              by_cases hlt3 : kz < k
              · obtain ⟨b', o', pq, e', hb', hqq, hatq⟩ := pd_at (HR.out.p.below HB.out) (show kz < l5 by omega)
                cases e'
                obtain ⟨qa, ql, qc, hqr, z0, z2, z4, d0, d1, d2, d3, d4, d5⟩ := pd_cells hatq
                have HXq := hidK hqq
                have HTq := hidK hqr
                clear hatq hqq hqr z0 z2 z4
                by_cases hpr : PairS c pq p
                · have HPr := hidK hpr
                  clear hpr
                  have Gk : Hid (wr.heap[w.heap.size]? = some (.cells #[.slice (some ⟨b1, o1, none⟩) l1 y1, .slice a2 l2 y2, .slice a3 l3 y3, .slice a4 l4 y4, .slice (some ⟨b, o, none⟩) l5 y5, .int .i64 c.now] 39 (0, 0))) := Bk.out
                  have Gr : Hid (wr.heap[gb]? = some (.cells #[.string p.n, .int .i64 p.c, .string p.z, .slice va vl vc, .string p.d, .int .i64 p.p] 118 (0, 0))) := Br.out
                  have HW : Hid (Below w.heap.size w wr) := HB.out
                  have k0 := fun q : Wd wr => q.slot (o := 0) Gk.out rfl
                  have k1 := fun q : Wd wr => q.slot (o := 1) Gk.out rfl
                  have k2 := fun q : Wd wr => q.slot (o := 2) Gk.out rfl
                  have k3 := fun q : Wd wr => q.slot (o := 3) Gk.out rfl
                  have k4 := fun q : Wd wr => q.slot (o := 4) Gk.out rfl
                  have k5 := fun q : Wd wr => q.slot (o := 5) Gk.out rfl
                  have r0 := fun q : Wd wr => q.slot (o := 0) Gr.out rfl
                  have r1 := fun q : Wd wr => q.slot (o := 1) Gr.out rfl
                  have r2 := fun q : Wd wr => q.slot (o := 2) Gr.out rfl
                  have r3 := fun q : Wd wr => q.slot (o := 3) Gr.out rfl
                  have r4 := fun q : Wd wr => q.slot (o := 4) Gr.out rfl
                  have r5 := fun q : Wd wr => q.slot (o := 5) Gr.out rfl
                  have q0 : ∀ q : Wd wr, q.w.cell? ⟨b, o + kz * 6, none⟩ = some (.string pq.n) := fun q => (q.cell (hb')).trans (d0)
                  have q1 : ∀ q : Wd wr, q.w.cell? ⟨b, o + kz * 6 + 1, none⟩ = some (.int .i64 pq.c) := fun q => (q.cell (hb')).trans (d1)
                  have q2 : ∀ q : Wd wr, q.w.cell? ⟨b, o + kz * 6 + 2, none⟩ = some (.string pq.z) := fun q => (q.cell (hb')).trans (d2)
                  have q3 : ∀ q : Wd wr, q.w.cell? ⟨b, o + kz * 6 + 3, none⟩ = some (.slice qa ql qc) := fun q => (q.cell (hb')).trans (d3)
                  have q4 : ∀ q : Wd wr, q.w.cell? ⟨b, o + kz * 6 + 4, none⟩ = some (.string pq.d) := fun q => (q.cell (hb')).trans (d4)
                  have q5 : ∀ q : Wd wr, q.w.cell? ⟨b, o + kz * 6 + 5, none⟩ = some (.int .i64 pq.p) := fun q => (q.cell (hb')).trans (d5)
                  have hne0 := Wd.ne wr
                  have HC0 := hidK (fun qw : Wd wr => (spair_any ⟨(some ⟨b1, o1, none⟩), l1, y1, a2, l2, y2, a3, l3, y3, a4, l4, y4, (some ⟨b, o, none⟩), l5, y5⟩ c pq p qa ql qc va vl vc qw.w (HR.out.below (HW.out.trans (qw.b.mono HW.out.size))) HX.out HV.out HNE.out (HTq.out.below qw.b) (HTp.out.below qw.b)).mono (fun _ _ h => BoolB.yes h HPr.out))
                  go_wp2_with fail
                  refine wp_region_wide (by kernel_rfl) (by kernel_rfl) ?_
                  repeat (go_big_quiet_step (first | (go_at_call 127; exact Calls.wide (HC0.out _)) | fail))
                  refine wpQuiet_nil ?_
                  rintro _ ⟨q9, rfl⟩
                  have HB1 := upB HW q9.b
                  have Ck := upK Gk q9.b
                  have Cr := upK Gr q9.b
                  clear hne0 HW HB HC0 k0 k1 k2 k3 k4 k5 r0 r1 r2 r3 r4 r5 q0 q1 q2 q3 q4 q5 Gk Gr Bk Br d0 d1 d2 d3 d4 d5
                  have HB := HB1
                  clear HB1
                  have Bk := Ck
                  clear Ck
                  have Br := Cr
                  clear Cr
                  go_wp2_with fail
                  refine ⟨⟨kz + 1, by omega, by go_num, fun j s hj hs => ?_, HBW.out.trans (q9.b.mono HBW.out.size)⟩, by simp [intOf]; omega⟩
                  by_cases e : j = kz
                  · subst e
                    rw [HXq.out] at hs
                    obtain rfl := Option.some.inj hs
                    exact HPr.out
                  · exact HQ3.out j s (by omega) hs
                · have HPr := hidK hpr
                  clear hpr
                  have Gk : Hid (wr.heap[w.heap.size]? = some (.cells #[.slice (some ⟨b1, o1, none⟩) l1 y1, .slice a2 l2 y2, .slice a3 l3 y3, .slice a4 l4 y4, .slice (some ⟨b, o, none⟩) l5 y5, .int .i64 c.now] 39 (0, 0))) := Bk.out
                  have Gr : Hid (wr.heap[gb]? = some (.cells #[.string p.n, .int .i64 p.c, .string p.z, .slice va vl vc, .string p.d, .int .i64 p.p] 118 (0, 0))) := Br.out
                  have HW : Hid (Below w.heap.size w wr) := HB.out
                  have k0 := fun q : Wd wr => q.slot (o := 0) Gk.out rfl
                  have k1 := fun q : Wd wr => q.slot (o := 1) Gk.out rfl
                  have k2 := fun q : Wd wr => q.slot (o := 2) Gk.out rfl
                  have k3 := fun q : Wd wr => q.slot (o := 3) Gk.out rfl
                  have k4 := fun q : Wd wr => q.slot (o := 4) Gk.out rfl
                  have k5 := fun q : Wd wr => q.slot (o := 5) Gk.out rfl
                  have r0 := fun q : Wd wr => q.slot (o := 0) Gr.out rfl
                  have r1 := fun q : Wd wr => q.slot (o := 1) Gr.out rfl
                  have r2 := fun q : Wd wr => q.slot (o := 2) Gr.out rfl
                  have r3 := fun q : Wd wr => q.slot (o := 3) Gr.out rfl
                  have r4 := fun q : Wd wr => q.slot (o := 4) Gr.out rfl
                  have r5 := fun q : Wd wr => q.slot (o := 5) Gr.out rfl
                  have q0 : ∀ q : Wd wr, q.w.cell? ⟨b, o + kz * 6, none⟩ = some (.string pq.n) := fun q => (q.cell (hb')).trans (d0)
                  have q1 : ∀ q : Wd wr, q.w.cell? ⟨b, o + kz * 6 + 1, none⟩ = some (.int .i64 pq.c) := fun q => (q.cell (hb')).trans (d1)
                  have q2 : ∀ q : Wd wr, q.w.cell? ⟨b, o + kz * 6 + 2, none⟩ = some (.string pq.z) := fun q => (q.cell (hb')).trans (d2)
                  have q3 : ∀ q : Wd wr, q.w.cell? ⟨b, o + kz * 6 + 3, none⟩ = some (.slice qa ql qc) := fun q => (q.cell (hb')).trans (d3)
                  have q4 : ∀ q : Wd wr, q.w.cell? ⟨b, o + kz * 6 + 4, none⟩ = some (.string pq.d) := fun q => (q.cell (hb')).trans (d4)
                  have q5 : ∀ q : Wd wr, q.w.cell? ⟨b, o + kz * 6 + 5, none⟩ = some (.int .i64 pq.p) := fun q => (q.cell (hb')).trans (d5)
                  have hne0 := Wd.ne wr
                  have HC0 := hidK (fun qw : Wd wr => (spair_any ⟨(some ⟨b1, o1, none⟩), l1, y1, a2, l2, y2, a3, l3, y3, a4, l4, y4, (some ⟨b, o, none⟩), l5, y5⟩ c pq p qa ql qc va vl vc qw.w (HR.out.below (HW.out.trans (qw.b.mono HW.out.size))) HX.out HV.out HNE.out (HTq.out.below qw.b) (HTp.out.below qw.b)).mono (fun _ _ h => BoolB.no h HPr.out))
                  go_wp2_with fail
                  refine wp_region_wide (by kernel_rfl) (by kernel_rfl) ?_
                  repeat (go_big_quiet_step (first | (go_at_call 127; exact Calls.wide (HC0.out _)) | fail))
                  refine wpQuiet_nil ?_
                  rintro _ ⟨q9, rfl⟩
                  have HB1 := upB HW q9.b
                  have Ck := upK Gk q9.b
                  have Cr := upK Gr q9.b
                  clear hne0 HW HB HC0 k0 k1 k2 k3 k4 k5 r0 r1 r2 r3 r4 r5 q0 q1 q2 q3 q4 q5 Gk Gr Bk Br d0 d1 d2 d3 d4 d5
                  have HB := HB1
                  clear HB1
                  have Bk := Ck
                  clear Ck
                  have Br := Cr
                  clear Cr
                  go_wp2
                  go_ret
                  exact BoolB.f (fun h => HPr.out ((h.1 k p HXp.out).2.2 kz pq hlt3 HXq.out)) HB.out
              · obtain rfl : k = kz := by omega
                go_wp2_with fail
                refine ⟨⟨k + 1, by omega, by go_num, fun j z hj hz => ?_, HB.out, Bk.out⟩, by simp [intOf]; omega⟩
                by_cases e : j = k
                · subst e
                  rw [HXp.out] at hz
                  obtain rfl := Option.some.inj hz
                  exact ⟨HPa.out, HQb.out, fun j2 q2 hj2 hq2 => HQ3.out j2 q2 hj2 hq2⟩
                · exact HQ.out j z (by omega) hz
      have hq2 := isE_no hz0
      by_cases hz1 : n.z = p.z
      · have hq3 := tl_yes hz1
        have HPa : Hid (PSa c p) := .inr ⟨j1, n, HJn.out, HNn.out, .inr hz1⟩
        clear hz0 hz1
        have Gk : Hid (w1.heap[w.heap.size]? = some (.cells #[.slice (some ⟨b1, o1, none⟩) l1 y1, .slice a2 l2 y2, .slice a3 l3 y3, .slice a4 l4 y4, .slice (some ⟨b, o, none⟩) l5 y5, .int .i64 c.now] 39 (0, 0))) := Bk.out
        have Gr : Hid (w1.heap[wr.heap.size]? = some (.cells #[.string p.n, .int .i64 p.c, .string p.z, .slice va vl vc, .string p.d, .int .i64 p.p] 118 (0, 0))) := Br.out
        have HW : Hid (Below w.heap.size w w1) := HB.out
        have k0 := fun q : Wd w1 => q.slot (o := 0) Gk.out rfl
        have r0 := fun q : Wd w1 => q.slot (o := 0) Gr.out rfl
        have r1 := fun q : Wd w1 => q.slot (o := 1) Gr.out rfl
        have r2 := fun q : Wd w1 => q.slot (o := 2) Gr.out rfl
        have r3 := fun q : Wd w1 => q.slot (o := 3) Gr.out rfl
        have r4 := fun q : Wd w1 => q.slot (o := 4) Gr.out rfl
        have r5 := fun q : Wd w1 => q.slot (o := 5) Gr.out rfl
        have nw : ∀ q : Wd w1, q.w.cell? ⟨b1, o1 + j1 * 7 + 1, none⟩ = some (.string n.z) := fun q => (q.cell (hbn)).trans (n1)
        have hne0 := Wd.ne w1
        go_wp2_with fail
        refine wp_region_wide (by kernel_rfl) (by kernel_rfl) ?_
        repeat (go_big_quiet_step (first | fail))
        refine wpQuiet_nil ?_
        rintro _ ⟨q0, rfl⟩
        have HB2 := upB HW q0.b
        have Ck := upK Gk q0.b
        have Cr := upK Gr q0.b
        have CHTp := hidK ((HTp.out).below q0.b)
        clear hne0 HW HB k0 r0 r1 r2 r3 r4 r5 nw Gk Gr Bk Br HTp hbn n1
        have HB := HB2
        clear HB2
        have HTp := CHTp
        clear CHTp
        have Bk := Ck
        clear Ck
        have Br := Cr
        clear Cr
        clear hq2 hq3
        obtain ⟨gb, hgb⟩ : ∃ gb, gb = wr.heap.size := ⟨_, rfl⟩
        rw [← hgb] at Br
        have pr3 : q0.w.cell? ⟨gb, 3, none⟩ = some (.slice va vl vc) := cellK Br.out 3
        rw [hgb] at pr3
        go_wp2
        rw [← hgb]
        clear pr3 hgb
        have KV := Bk
        have GV := Br
        have BV := HB
        have TV := HTp
        clear Bk Br HB HTp
        obtain ⟨W, hW⟩ : ∃ W, W = q0.w := ⟨_, rfl⟩
        rw [← hW] at KV GV BV TV ⊢
        clear hW
        go_loopw [6] (fun i wr => ∃ kq : Nat, kq ≤ vl ∧ i = .int .i64 kq ∧ Hid (∀ (j : Nat) t, j < kq → p.zs[j]? = some t → PSb1 c p t) ∧ Hid (Below W.heap.size W wr)) (fun i _ => vl - (intOf i).toNat)
        case atStart => exact ⟨0, by omega, rfl, fun _ _ h => absurd h (by omega), Below.refl _ _⟩
        case round =>
          obtain ⟨kq, hkq, rfl, HQ2, HBW⟩ := hrel
          have HB := hidK (BV.out.trans (HBW.out.mono BV.out.size))
          have Bk := upK KV HBW.out
          have Br := upK GV HBW.out
          have pr3 : wr.cell? ⟨gb, 3, none⟩ = some (.slice va vl vc) := cellK Br.out 3
          by_cases hlt2 : kq < vl
          · obtain ⟨b2, o2, t, rfl, hb, hxt, hc, hsz⟩ := (TV.out.below HBW.out).at hlt2
            have HXt := hidK hxt
            clear hxt hsz
            have hcase : (∃ v, IsBd c t v) ∨ (∀ v, ¬ IsBd c t v) := by
              by_cases h : ∃ v, IsBd c t v
              · exact .inl h
              · exact .inr (fun v hv => h ⟨v, hv⟩)
            rcases hcase with ⟨v, hbd⟩ | hbd
            · obtain ⟨j3, hj3⟩ := hbd.at
              have hl3' : j3 < l3 := by have h1 := (List.getElem?_eq_some_iff.1 hj3).1; omega
              obtain ⟨b3, o3, v', rfl, hb3, hv', hat⟩ := vd_at HR.out.v hl3'
              rw [hj3] at hv'
              obtain rfl := Option.some.inj hv'
              obtain ⟨xa, xl, xc, hvr, z0, z2, z3, z5, d0, d1, d2, d3, d4, d5, d6, d7⟩ := vd_cells hat
              have HJ := hidK hj3
              have HD := hidK hbd
              have HC2 := hidK d2
              have HB3 := hidK hb3
              have hj31 : decide ((j3 : Int) < 0) = false := by simp
              clear hv' hat hvr z0 z2 z3 z5 d0 d1 d2 d3 d4 d5 d6 d7 hj3 hbd hb3
              have Gk : Hid (wr.heap[w.heap.size]? = some (.cells #[.slice (some ⟨b1, o1, none⟩) l1 y1, .slice a2 l2 y2, .slice (some ⟨b3, o3, none⟩) l3 y3, .slice a4 l4 y4, .slice (some ⟨b, o, none⟩) l5 y5, .int .i64 c.now] 39 (0, 0))) := Bk.out
              have Gr : Hid (wr.heap[gb]? = some (.cells #[.string p.n, .int .i64 p.c, .string p.z, .slice (some ⟨b2, o2, none⟩) vl vc, .string p.d, .int .i64 p.p] 118 (0, 0))) := Br.out
              have HW : Hid (Below w.heap.size w wr) := HB.out
              have k0 := fun q : Wd wr => q.slot (o := 0) Gk.out rfl
              have k1 := fun q : Wd wr => q.slot (o := 1) Gk.out rfl
              have k2 := fun q : Wd wr => q.slot (o := 2) Gk.out rfl
              have k3 := fun q : Wd wr => q.slot (o := 3) Gk.out rfl
              have k4 := fun q : Wd wr => q.slot (o := 4) Gk.out rfl
              have k5 := fun q : Wd wr => q.slot (o := 5) Gk.out rfl
              have r3 := fun q : Wd wr => q.slot (o := 3) Gr.out rfl
              have tw : ∀ q : Wd wr, q.w.cell? ⟨b2, o2 + kq, none⟩ = some (.string t) := fun q => (q.cell (hb)).trans (hc)
              have hne0 := Wd.ne wr
              have HC0 := hidK (fun q : Wd wr => sbind_hit ⟨(some ⟨b1, o1, none⟩), l1, y1, a2, l2, y2, (some ⟨b3, o3, none⟩), l3, y3, a4, l4, y4, (some ⟨b, o, none⟩), l5, y5⟩ c t q.w (HR.out.below (HW.out.trans (q.b.mono HW.out.size))) HX.out HV.out HNE.out HJ.out HD.out)
              go_wp2_with fail
              refine wp_region_wide (by kernel_rfl) (by kernel_rfl) ?_
              repeat (go_big_quiet_step (first | (go_at_call 58; exact Calls.wide (HC0.out _)) | fail))
              refine wpQuiet_nil ?_
              rintro _ ⟨q1, rfl⟩
              have HB1 := upB HW q1.b
              have Ck := upK Gk q1.b
              have Cr := upK Gr q1.b
              clear hne0 HW HB HC0 k0 k1 k2 k3 k4 k5 r3 tw Gk Gr Bk Br pr3
              have HB := HB1
              clear HB1
              have Bk := Ck
              clear Ck
              have Br := Cr
              clear Cr
              have hc1 := (q1.cell hb).trans hc
              have hb1 : b2 < q1.w.heap.size := Nat.lt_of_lt_of_le hb q1.b.size
              have HBW1 := upB HBW q1.b
              clear hc hb HBW
              by_cases hg : ∃ (i : Nat) (x : Xd), c.xs[i]? = some x ∧ x.n = t
              rotate_left
              · have HG := hidK hg
                clear hg
                have Gk : Hid (q1.w.heap[w.heap.size]? = some (.cells #[.slice (some ⟨b1, o1, none⟩) l1 y1, .slice a2 l2 y2, .slice (some ⟨b3, o3, none⟩) l3 y3, .slice a4 l4 y4, .slice (some ⟨b, o, none⟩) l5 y5, .int .i64 c.now] 39 (0, 0))) := Bk.out
                have Gr : Hid (q1.w.heap[gb]? = some (.cells #[.string p.n, .int .i64 p.c, .string p.z, .slice (some ⟨b2, o2, none⟩) vl vc, .string p.d, .int .i64 p.p] 118 (0, 0))) := Br.out
                have HW : Hid (Below w.heap.size w q1.w) := HB.out
                have k0 := fun q : Wd q1.w => q.slot (o := 0) Gk.out rfl
                have k1 := fun q : Wd q1.w => q.slot (o := 1) Gk.out rfl
                have k2 := fun q : Wd q1.w => q.slot (o := 2) Gk.out rfl
                have k3 := fun q : Wd q1.w => q.slot (o := 3) Gk.out rfl
                have k4 := fun q : Wd q1.w => q.slot (o := 4) Gk.out rfl
                have k5 := fun q : Wd q1.w => q.slot (o := 5) Gk.out rfl
                have r0 := fun q : Wd q1.w => q.slot (o := 0) Gr.out rfl
                have r1 := fun q : Wd q1.w => q.slot (o := 1) Gr.out rfl
                have r2 := fun q : Wd q1.w => q.slot (o := 2) Gr.out rfl
                have r3 := fun q : Wd q1.w => q.slot (o := 3) Gr.out rfl
                have r4 := fun q : Wd q1.w => q.slot (o := 4) Gr.out rfl
                have r5 := fun q : Wd q1.w => q.slot (o := 5) Gr.out rfl
                have tw : ∀ q : Wd q1.w, q.w.cell? ⟨b2, o2 + kq, none⟩ = some (.string t) := fun q => (q.cell (hb1)).trans (hc1)
                have hne0 := Wd.ne q1.w
                have HC0 := hidK (fun q : Wd q1.w => sxxd_miss ⟨(some ⟨b1, o1, none⟩), l1, y1, a2, l2, y2, (some ⟨b3, o3, none⟩), l3, y3, a4, l4, y4, (some ⟨b, o, none⟩), l5, y5⟩ c.now c.xs t q.w (HR.out.x.below (HW.out.trans (q.b.mono HW.out.size))) (fun i x h1 h2 => HG.out ⟨i, x, h1, h2⟩))
                go_wp2_with fail
                refine wp_region_wide (by kernel_rfl) (by kernel_rfl) ?_
                repeat (go_big_quiet_step (first | (go_at_call 30; exact Calls.wide (HC0.out _)) | fail))
                refine wpQuiet_nil ?_
                rintro _ ⟨q2, rfl⟩
                have HB2 := upB HW q2.b
                have Ck := upK Gk q2.b
                have Cr := upK Gr q2.b
                clear hne0 HW HB HC0 k0 k1 k2 k3 k4 k5 r0 r1 r2 r3 r4 r5 tw Gk Gr Bk Br hc1 hb1
                have HB := HB2
                clear HB2
                have Bk := Ck
                clear Ck
                have Br := Cr
                clear Cr
                go_wp2
                go_ret
                refine BoolB.f (fun h => ?_) HB.out
                have h9 := (h.1 k p HXp.out).2.1 kq t HXt.out
                exact HG.out h9.1
              obtain ⟨i4, x4, g1, g2⟩ := hg
              have HG1 := hidK g1
              have HG2 := hidK g2
              have hi41 : decide ((i4 : Int) < 0) = false := by simp
              clear g1 g2
              have hbv : b3 < q1.w.heap.size := Nat.lt_of_lt_of_le HB3.out HB.out.size
              have v2 := (cell_below HB.out HB3.out).trans HC2.out
              have hbn : b1 < q1.w.heap.size := Nat.lt_of_lt_of_le HBn.out HB.out.size
              have n1 := (cell_below HB.out HBn.out).trans HCn.out
              by_cases hz : v.z = n.z
              · have hzq := tl_yes hz
                have HZ := hidK hz
                clear hz
                have Gk : Hid (q1.w.heap[w.heap.size]? = some (.cells #[.slice (some ⟨b1, o1, none⟩) l1 y1, .slice a2 l2 y2, .slice (some ⟨b3, o3, none⟩) l3 y3, .slice a4 l4 y4, .slice (some ⟨b, o, none⟩) l5 y5, .int .i64 c.now] 39 (0, 0))) := Bk.out
                have Gr : Hid (q1.w.heap[gb]? = some (.cells #[.string p.n, .int .i64 p.c, .string p.z, .slice (some ⟨b2, o2, none⟩) vl vc, .string p.d, .int .i64 p.p] 118 (0, 0))) := Br.out
                have HW : Hid (Below w.heap.size w q1.w) := HB.out
                have k0 := fun q : Wd q1.w => q.slot (o := 0) Gk.out rfl
                have k1 := fun q : Wd q1.w => q.slot (o := 1) Gk.out rfl
                have k2 := fun q : Wd q1.w => q.slot (o := 2) Gk.out rfl
                have k3 := fun q : Wd q1.w => q.slot (o := 3) Gk.out rfl
                have k4 := fun q : Wd q1.w => q.slot (o := 4) Gk.out rfl
                have k5 := fun q : Wd q1.w => q.slot (o := 5) Gk.out rfl
                have r0 := fun q : Wd q1.w => q.slot (o := 0) Gr.out rfl
                have r1 := fun q : Wd q1.w => q.slot (o := 1) Gr.out rfl
                have r2 := fun q : Wd q1.w => q.slot (o := 2) Gr.out rfl
                have r3 := fun q : Wd q1.w => q.slot (o := 3) Gr.out rfl
                have r4 := fun q : Wd q1.w => q.slot (o := 4) Gr.out rfl
                have r5 := fun q : Wd q1.w => q.slot (o := 5) Gr.out rfl
                have tw : ∀ q : Wd q1.w, q.w.cell? ⟨b2, o2 + kq, none⟩ = some (.string t) := fun q => (q.cell (hb1)).trans (hc1)
                have vw : ∀ q : Wd q1.w, q.w.cell? ⟨b3, o3 + j3 * 8 + 2, none⟩ = some (.string v.z) := fun q => (q.cell (hbv)).trans (v2)
                have nw : ∀ q : Wd q1.w, q.w.cell? ⟨b1, o1 + j1 * 7 + 1, none⟩ = some (.string n.z) := fun q => (q.cell (hbn)).trans (n1)
                have hne0 := Wd.ne q1.w
                have HC0 := hidK (fun q : Wd q1.w => sxxd_hit ⟨(some ⟨b1, o1, none⟩), l1, y1, a2, l2, y2, (some ⟨b3, o3, none⟩), l3, y3, a4, l4, y4, (some ⟨b, o, none⟩), l5, y5⟩ c.now c.xs t q.w (HR.out.x.below (HW.out.trans (q.b.mono HW.out.size))) HX.out HG1.out HG2.out)
                go_wp2_with fail
                refine wp_region_wide (by kernel_rfl) (by kernel_rfl) ?_
                repeat (go_big_quiet_step (first | (go_at_call 30; exact Calls.wide (HC0.out _)) | fail))
                refine wpQuiet_nil ?_
                rintro _ ⟨q2, rfl⟩
                have HB2 := upB HW q2.b
                have Ck := upK Gk q2.b
                have Cr := upK Gr q2.b
                clear hne0 HW HB HC0 k0 k1 k2 k3 k4 k5 r0 r1 r2 r3 r4 r5 tw vw nw Gk Gr Bk Br hc1 hb1 hbv v2 hbn n1
                have HB := HB2
                clear HB2
                have Bk := Ck
                clear Ck
                have Br := Cr
                clear Cr
                clear hzq
                go_wp2_with fail
                refine ⟨⟨kq + 1, by omega, by go_num, fun j s hj hs => ?_, HBW1.out.trans (q2.b.mono HBW1.out.size)⟩, by simp [intOf]; omega⟩
                by_cases e : j = kq
                · subst e
                  rw [HXt.out] at hs
                  obtain rfl := Option.some.inj hs
                  exact ⟨⟨i4, x4, HG1.out, HG2.out⟩, .inr ⟨v, j1, n, HD.out, HJn.out, HNn.out, HZ.out⟩⟩
                · exact HQ2.out j s (by omega) hs
              · have hzq := tl_no hz
                have HZ := hidK hz
                clear hz
                have Gk : Hid (q1.w.heap[w.heap.size]? = some (.cells #[.slice (some ⟨b1, o1, none⟩) l1 y1, .slice a2 l2 y2, .slice (some ⟨b3, o3, none⟩) l3 y3, .slice a4 l4 y4, .slice (some ⟨b, o, none⟩) l5 y5, .int .i64 c.now] 39 (0, 0))) := Bk.out
                have Gr : Hid (q1.w.heap[gb]? = some (.cells #[.string p.n, .int .i64 p.c, .string p.z, .slice (some ⟨b2, o2, none⟩) vl vc, .string p.d, .int .i64 p.p] 118 (0, 0))) := Br.out
                have HW : Hid (Below w.heap.size w q1.w) := HB.out
                have k0 := fun q : Wd q1.w => q.slot (o := 0) Gk.out rfl
                have k1 := fun q : Wd q1.w => q.slot (o := 1) Gk.out rfl
                have k2 := fun q : Wd q1.w => q.slot (o := 2) Gk.out rfl
                have k3 := fun q : Wd q1.w => q.slot (o := 3) Gk.out rfl
                have k4 := fun q : Wd q1.w => q.slot (o := 4) Gk.out rfl
                have k5 := fun q : Wd q1.w => q.slot (o := 5) Gk.out rfl
                have r0 := fun q : Wd q1.w => q.slot (o := 0) Gr.out rfl
                have r1 := fun q : Wd q1.w => q.slot (o := 1) Gr.out rfl
                have r2 := fun q : Wd q1.w => q.slot (o := 2) Gr.out rfl
                have r3 := fun q : Wd q1.w => q.slot (o := 3) Gr.out rfl
                have r4 := fun q : Wd q1.w => q.slot (o := 4) Gr.out rfl
                have r5 := fun q : Wd q1.w => q.slot (o := 5) Gr.out rfl
                have tw : ∀ q : Wd q1.w, q.w.cell? ⟨b2, o2 + kq, none⟩ = some (.string t) := fun q => (q.cell (hb1)).trans (hc1)
                have vw : ∀ q : Wd q1.w, q.w.cell? ⟨b3, o3 + j3 * 8 + 2, none⟩ = some (.string v.z) := fun q => (q.cell (hbv)).trans (v2)
                have nw : ∀ q : Wd q1.w, q.w.cell? ⟨b1, o1 + j1 * 7 + 1, none⟩ = some (.string n.z) := fun q => (q.cell (hbn)).trans (n1)
                have hne0 := Wd.ne q1.w
                have HC0 := hidK (fun q : Wd q1.w => sxxd_hit ⟨(some ⟨b1, o1, none⟩), l1, y1, a2, l2, y2, (some ⟨b3, o3, none⟩), l3, y3, a4, l4, y4, (some ⟨b, o, none⟩), l5, y5⟩ c.now c.xs t q.w (HR.out.x.below (HW.out.trans (q.b.mono HW.out.size))) HX.out HG1.out HG2.out)
                go_wp2_with fail
                refine wp_region_wide (by kernel_rfl) (by kernel_rfl) ?_
                repeat (go_big_quiet_step (first | (go_at_call 30; exact Calls.wide (HC0.out _)) | fail))
                refine wpQuiet_nil ?_
                rintro _ ⟨q2, rfl⟩
                have HB2 := upB HW q2.b
                have Ck := upK Gk q2.b
                have Cr := upK Gr q2.b
                clear hne0 HW HB HC0 k0 k1 k2 k3 k4 k5 r0 r1 r2 r3 r4 r5 tw vw nw Gk Gr Bk Br hc1 hb1 hbv v2 hbn n1
                have HB := HB2
                clear HB2
                have Bk := Ck
                clear Ck
                have Br := Cr
                clear Cr
                go_wp2
                go_ret
                refine BoolB.f (fun h => ?_) HB.out
                have h9 := (h.1 k p HXp.out).2.1 kq t HXt.out
                rcases h9.2 with h2 | ⟨v', i, n', h2, h3, h4, h5⟩
                · exact HEm.out h2
                · obtain rfl := IsBd.inj HX.out HV.out HD.out h2
                  obtain ⟨_, rfl⟩ := HNR.out.inj h3 HJn.out (h4.trans HNn.out.symm)
                  exact HZ.out h5
            · have HD := hidK hbd
              clear hbd
              have Gk : Hid (wr.heap[w.heap.size]? = some (.cells #[.slice (some ⟨b1, o1, none⟩) l1 y1, .slice a2 l2 y2, .slice a3 l3 y3, .slice a4 l4 y4, .slice (some ⟨b, o, none⟩) l5 y5, .int .i64 c.now] 39 (0, 0))) := Bk.out
              have Gr : Hid (wr.heap[gb]? = some (.cells #[.string p.n, .int .i64 p.c, .string p.z, .slice (some ⟨b2, o2, none⟩) vl vc, .string p.d, .int .i64 p.p] 118 (0, 0))) := Br.out
              have HW : Hid (Below w.heap.size w wr) := HB.out
              have k0 := fun q : Wd wr => q.slot (o := 0) Gk.out rfl
              have k1 := fun q : Wd wr => q.slot (o := 1) Gk.out rfl
              have k2 := fun q : Wd wr => q.slot (o := 2) Gk.out rfl
              have k3 := fun q : Wd wr => q.slot (o := 3) Gk.out rfl
              have k4 := fun q : Wd wr => q.slot (o := 4) Gk.out rfl
              have k5 := fun q : Wd wr => q.slot (o := 5) Gk.out rfl
              have r3 := fun q : Wd wr => q.slot (o := 3) Gr.out rfl
              have tw : ∀ q : Wd wr, q.w.cell? ⟨b2, o2 + kq, none⟩ = some (.string t) := fun q => (q.cell (hb)).trans (hc)
              have hne0 := Wd.ne wr
              have HC0 := hidK (fun q : Wd wr => sbind_miss ⟨(some ⟨b1, o1, none⟩), l1, y1, a2, l2, y2, a3, l3, y3, a4, l4, y4, (some ⟨b, o, none⟩), l5, y5⟩ c t q.w (HR.out.below (HW.out.trans (q.b.mono HW.out.size))) HX.out HV.out HNE.out HD.out)
              go_wp2_with fail
              refine wp_region_wide (by kernel_rfl) (by kernel_rfl) ?_
              repeat (go_big_quiet_step (first | (go_at_call 58; exact Calls.wide (HC0.out _)) | fail))
              refine wpQuiet_nil ?_
              rintro _ ⟨q1, rfl⟩
              have HB1 := upB HW q1.b
              have Ck := upK Gk q1.b
              have Cr := upK Gr q1.b
              clear hne0 HW HB HC0 k0 k1 k2 k3 k4 k5 r3 tw Gk Gr Bk Br pr3
              have HB := HB1
              clear HB1
              have Bk := Ck
              clear Ck
              have Br := Cr
              clear Cr
              have hc1 := (q1.cell hb).trans hc
              have hb1 : b2 < q1.w.heap.size := Nat.lt_of_lt_of_le hb q1.b.size
              have HBW1 := upB HBW q1.b
              clear hc hb HBW
              by_cases hg : ∃ (i : Nat) (x : Xd), c.xs[i]? = some x ∧ x.n = t
              rotate_left
              · have HG := hidK hg
                clear hg
                have Gk : Hid (q1.w.heap[w.heap.size]? = some (.cells #[.slice (some ⟨b1, o1, none⟩) l1 y1, .slice a2 l2 y2, .slice a3 l3 y3, .slice a4 l4 y4, .slice (some ⟨b, o, none⟩) l5 y5, .int .i64 c.now] 39 (0, 0))) := Bk.out
                have Gr : Hid (q1.w.heap[gb]? = some (.cells #[.string p.n, .int .i64 p.c, .string p.z, .slice (some ⟨b2, o2, none⟩) vl vc, .string p.d, .int .i64 p.p] 118 (0, 0))) := Br.out
                have HW : Hid (Below w.heap.size w q1.w) := HB.out
                have k0 := fun q : Wd q1.w => q.slot (o := 0) Gk.out rfl
                have k1 := fun q : Wd q1.w => q.slot (o := 1) Gk.out rfl
                have k2 := fun q : Wd q1.w => q.slot (o := 2) Gk.out rfl
                have k3 := fun q : Wd q1.w => q.slot (o := 3) Gk.out rfl
                have k4 := fun q : Wd q1.w => q.slot (o := 4) Gk.out rfl
                have k5 := fun q : Wd q1.w => q.slot (o := 5) Gk.out rfl
                have r0 := fun q : Wd q1.w => q.slot (o := 0) Gr.out rfl
                have r1 := fun q : Wd q1.w => q.slot (o := 1) Gr.out rfl
                have r2 := fun q : Wd q1.w => q.slot (o := 2) Gr.out rfl
                have r3 := fun q : Wd q1.w => q.slot (o := 3) Gr.out rfl
                have r4 := fun q : Wd q1.w => q.slot (o := 4) Gr.out rfl
                have r5 := fun q : Wd q1.w => q.slot (o := 5) Gr.out rfl
                have tw : ∀ q : Wd q1.w, q.w.cell? ⟨b2, o2 + kq, none⟩ = some (.string t) := fun q => (q.cell (hb1)).trans (hc1)
                have hne0 := Wd.ne q1.w
                have HC0 := hidK (fun q : Wd q1.w => sxxd_miss ⟨(some ⟨b1, o1, none⟩), l1, y1, a2, l2, y2, a3, l3, y3, a4, l4, y4, (some ⟨b, o, none⟩), l5, y5⟩ c.now c.xs t q.w (HR.out.x.below (HW.out.trans (q.b.mono HW.out.size))) (fun i x h1 h2 => HG.out ⟨i, x, h1, h2⟩))
                go_wp2_with fail
                refine wp_region_wide (by kernel_rfl) (by kernel_rfl) ?_
                repeat (go_big_quiet_step (first | (go_at_call 30; exact Calls.wide (HC0.out _)) | fail))
                refine wpQuiet_nil ?_
                rintro _ ⟨q2, rfl⟩
                have HB2 := upB HW q2.b
                have Ck := upK Gk q2.b
                have Cr := upK Gr q2.b
                clear hne0 HW HB HC0 k0 k1 k2 k3 k4 k5 r0 r1 r2 r3 r4 r5 tw Gk Gr Bk Br hc1 hb1
                have HB := HB2
                clear HB2
                have Bk := Ck
                clear Ck
                have Br := Cr
                clear Cr
                go_wp2
                go_ret
                refine BoolB.f (fun h => ?_) HB.out
                have h9 := (h.1 k p HXp.out).2.1 kq t HXt.out
                exact HG.out h9.1
              obtain ⟨i4, x4, g1, g2⟩ := hg
              have HG1 := hidK g1
              have HG2 := hidK g2
              have hi41 : decide ((i4 : Int) < 0) = false := by simp
              clear g1 g2
              have Gk : Hid (q1.w.heap[w.heap.size]? = some (.cells #[.slice (some ⟨b1, o1, none⟩) l1 y1, .slice a2 l2 y2, .slice a3 l3 y3, .slice a4 l4 y4, .slice (some ⟨b, o, none⟩) l5 y5, .int .i64 c.now] 39 (0, 0))) := Bk.out
              have Gr : Hid (q1.w.heap[gb]? = some (.cells #[.string p.n, .int .i64 p.c, .string p.z, .slice (some ⟨b2, o2, none⟩) vl vc, .string p.d, .int .i64 p.p] 118 (0, 0))) := Br.out
              have HW : Hid (Below w.heap.size w q1.w) := HB.out
              have k0 := fun q : Wd q1.w => q.slot (o := 0) Gk.out rfl
              have k1 := fun q : Wd q1.w => q.slot (o := 1) Gk.out rfl
              have k2 := fun q : Wd q1.w => q.slot (o := 2) Gk.out rfl
              have k3 := fun q : Wd q1.w => q.slot (o := 3) Gk.out rfl
              have k4 := fun q : Wd q1.w => q.slot (o := 4) Gk.out rfl
              have k5 := fun q : Wd q1.w => q.slot (o := 5) Gk.out rfl
              have r0 := fun q : Wd q1.w => q.slot (o := 0) Gr.out rfl
              have r1 := fun q : Wd q1.w => q.slot (o := 1) Gr.out rfl
              have r2 := fun q : Wd q1.w => q.slot (o := 2) Gr.out rfl
              have r3 := fun q : Wd q1.w => q.slot (o := 3) Gr.out rfl
              have r4 := fun q : Wd q1.w => q.slot (o := 4) Gr.out rfl
              have r5 := fun q : Wd q1.w => q.slot (o := 5) Gr.out rfl
              have tw : ∀ q : Wd q1.w, q.w.cell? ⟨b2, o2 + kq, none⟩ = some (.string t) := fun q => (q.cell (hb1)).trans (hc1)
              have hne0 := Wd.ne q1.w
              have HC0 := hidK (fun q : Wd q1.w => sxxd_hit ⟨(some ⟨b1, o1, none⟩), l1, y1, a2, l2, y2, a3, l3, y3, a4, l4, y4, (some ⟨b, o, none⟩), l5, y5⟩ c.now c.xs t q.w (HR.out.x.below (HW.out.trans (q.b.mono HW.out.size))) HX.out HG1.out HG2.out)
              go_wp2_with fail
              refine wp_region_wide (by kernel_rfl) (by kernel_rfl) ?_
              repeat (go_big_quiet_step (first | (go_at_call 30; exact Calls.wide (HC0.out _)) | fail))
              refine wpQuiet_nil ?_
              rintro _ ⟨q2, rfl⟩
              have HB2 := upB HW q2.b
              have Ck := upK Gk q2.b
              have Cr := upK Gr q2.b
              clear hne0 HW HB HC0 k0 k1 k2 k3 k4 k5 r0 r1 r2 r3 r4 r5 tw Gk Gr Bk Br hc1 hb1
              have HB := HB2
              clear HB2
              have Bk := Ck
              clear Ck
              have Br := Cr
              clear Cr
              go_wp2
              go_ret
              refine BoolB.f (fun h => ?_) HB.out
              have h9 := (h.1 k p HXp.out).2.1 kq t HXt.out
              rcases h9.2 with h2 | ⟨v', i, n', h2, _⟩
              · exact HEm.out h2
              · exact HD.out v' h2
          · obtain rfl : vl = kq := by omega
            have HQb : Hid (PSb c p) := fun j t ht => HQ2.out j t (by have h1 := (List.getElem?_eq_some_iff.1 ht).1; have h2 := HVL.out; omega) ht
            clear HQ2
            have TV2 := hidK (TV.out.below HBW.out)
            have KV2 := Bk
            have GV2 := Br
            have BV2 := HB
            clear KV GV BV TV Bk Br HB HBW
            obtain ⟨W2, hW⟩ : ∃ W2, W2 = wr := ⟨_, rfl⟩
            rw [← hW] at KV2 GV2 BV2 TV2
            go_wp2
            clear pr3
            rw [← hW]
            clear hW
            go_loopw [8] (fun i wr => ∃ kz : Nat, kz ≤ k ∧ i = .int .i64 kz ∧ Hid (∀ (j : Nat) q, j < kz → c.ps[j]? = some q → PairS c q p) ∧ Hid (Below W2.heap.size W2 wr)) (fun i _ => k - (intOf i).toNat)
            case atStart => exact ⟨0, by omega, rfl, fun _ _ h => absurd h (by omega), Below.refl _ _⟩
            case round =>
              obtain ⟨kz, hkz, rfl, HQ3, HBW⟩ := hrel
              have HB := hidK (BV2.out.trans (HBW.out.mono BV2.out.size))
              have Bk := upK KV2 HBW.out
              have Br := upK GV2 HBW.out
              have HTp := hidK (TV2.out.below HBW.out)
              by_cases hlt3 : kz < k
              · obtain ⟨b', o', pq, e', hb', hqq, hatq⟩ := pd_at (HR.out.p.below HB.out) (show kz < l5 by omega)
                cases e'
                obtain ⟨qa, ql, qc, hqr, z0, z2, z4, d0, d1, d2, d3, d4, d5⟩ := pd_cells hatq
                have HXq := hidK hqq
                have HTq := hidK hqr
                clear hatq hqq hqr z0 z2 z4
                by_cases hpr : PairS c pq p
                · have HPr := hidK hpr
                  clear hpr
                  have Gk : Hid (wr.heap[w.heap.size]? = some (.cells #[.slice (some ⟨b1, o1, none⟩) l1 y1, .slice a2 l2 y2, .slice a3 l3 y3, .slice a4 l4 y4, .slice (some ⟨b, o, none⟩) l5 y5, .int .i64 c.now] 39 (0, 0))) := Bk.out
                  have Gr : Hid (wr.heap[gb]? = some (.cells #[.string p.n, .int .i64 p.c, .string p.z, .slice va vl vc, .string p.d, .int .i64 p.p] 118 (0, 0))) := Br.out
                  have HW : Hid (Below w.heap.size w wr) := HB.out
                  have k0 := fun q : Wd wr => q.slot (o := 0) Gk.out rfl
                  have k1 := fun q : Wd wr => q.slot (o := 1) Gk.out rfl
                  have k2 := fun q : Wd wr => q.slot (o := 2) Gk.out rfl
                  have k3 := fun q : Wd wr => q.slot (o := 3) Gk.out rfl
                  have k4 := fun q : Wd wr => q.slot (o := 4) Gk.out rfl
                  have k5 := fun q : Wd wr => q.slot (o := 5) Gk.out rfl
                  have r0 := fun q : Wd wr => q.slot (o := 0) Gr.out rfl
                  have r1 := fun q : Wd wr => q.slot (o := 1) Gr.out rfl
                  have r2 := fun q : Wd wr => q.slot (o := 2) Gr.out rfl
                  have r3 := fun q : Wd wr => q.slot (o := 3) Gr.out rfl
                  have r4 := fun q : Wd wr => q.slot (o := 4) Gr.out rfl
                  have r5 := fun q : Wd wr => q.slot (o := 5) Gr.out rfl
                  have q0 : ∀ q : Wd wr, q.w.cell? ⟨b, o + kz * 6, none⟩ = some (.string pq.n) := fun q => (q.cell (hb')).trans (d0)
                  have q1 : ∀ q : Wd wr, q.w.cell? ⟨b, o + kz * 6 + 1, none⟩ = some (.int .i64 pq.c) := fun q => (q.cell (hb')).trans (d1)
                  have q2 : ∀ q : Wd wr, q.w.cell? ⟨b, o + kz * 6 + 2, none⟩ = some (.string pq.z) := fun q => (q.cell (hb')).trans (d2)
                  have q3 : ∀ q : Wd wr, q.w.cell? ⟨b, o + kz * 6 + 3, none⟩ = some (.slice qa ql qc) := fun q => (q.cell (hb')).trans (d3)
                  have q4 : ∀ q : Wd wr, q.w.cell? ⟨b, o + kz * 6 + 4, none⟩ = some (.string pq.d) := fun q => (q.cell (hb')).trans (d4)
                  have q5 : ∀ q : Wd wr, q.w.cell? ⟨b, o + kz * 6 + 5, none⟩ = some (.int .i64 pq.p) := fun q => (q.cell (hb')).trans (d5)
                  have hne0 := Wd.ne wr
                  have HC0 := hidK (fun qw : Wd wr => (spair_any ⟨(some ⟨b1, o1, none⟩), l1, y1, a2, l2, y2, a3, l3, y3, a4, l4, y4, (some ⟨b, o, none⟩), l5, y5⟩ c pq p qa ql qc va vl vc qw.w (HR.out.below (HW.out.trans (qw.b.mono HW.out.size))) HX.out HV.out HNE.out (HTq.out.below qw.b) (HTp.out.below qw.b)).mono (fun _ _ h => BoolB.yes h HPr.out))
                  go_wp2_with fail
                  refine wp_region_wide (by kernel_rfl) (by kernel_rfl) ?_
                  repeat (go_big_quiet_step (first | (go_at_call 127; exact Calls.wide (HC0.out _)) | fail))
                  refine wpQuiet_nil ?_
                  rintro _ ⟨q9, rfl⟩
                  have HB1 := upB HW q9.b
                  have Ck := upK Gk q9.b
                  have Cr := upK Gr q9.b
                  clear hne0 HW HB HC0 k0 k1 k2 k3 k4 k5 r0 r1 r2 r3 r4 r5 q0 q1 q2 q3 q4 q5 Gk Gr Bk Br d0 d1 d2 d3 d4 d5
                  have HB := HB1
                  clear HB1
                  have Bk := Ck
                  clear Ck
                  have Br := Cr
                  clear Cr
                  go_wp2_with fail
                  refine ⟨⟨kz + 1, by omega, by go_num, fun j s hj hs => ?_, HBW.out.trans (q9.b.mono HBW.out.size)⟩, by simp [intOf]; omega⟩
                  by_cases e : j = kz
                  · subst e
                    rw [HXq.out] at hs
                    obtain rfl := Option.some.inj hs
                    exact HPr.out
                  · exact HQ3.out j s (by omega) hs
                · have HPr := hidK hpr
                  clear hpr
                  have Gk : Hid (wr.heap[w.heap.size]? = some (.cells #[.slice (some ⟨b1, o1, none⟩) l1 y1, .slice a2 l2 y2, .slice a3 l3 y3, .slice a4 l4 y4, .slice (some ⟨b, o, none⟩) l5 y5, .int .i64 c.now] 39 (0, 0))) := Bk.out
                  have Gr : Hid (wr.heap[gb]? = some (.cells #[.string p.n, .int .i64 p.c, .string p.z, .slice va vl vc, .string p.d, .int .i64 p.p] 118 (0, 0))) := Br.out
                  have HW : Hid (Below w.heap.size w wr) := HB.out
                  have k0 := fun q : Wd wr => q.slot (o := 0) Gk.out rfl
                  have k1 := fun q : Wd wr => q.slot (o := 1) Gk.out rfl
                  have k2 := fun q : Wd wr => q.slot (o := 2) Gk.out rfl
                  have k3 := fun q : Wd wr => q.slot (o := 3) Gk.out rfl
                  have k4 := fun q : Wd wr => q.slot (o := 4) Gk.out rfl
                  have k5 := fun q : Wd wr => q.slot (o := 5) Gk.out rfl
                  have r0 := fun q : Wd wr => q.slot (o := 0) Gr.out rfl
                  have r1 := fun q : Wd wr => q.slot (o := 1) Gr.out rfl
                  have r2 := fun q : Wd wr => q.slot (o := 2) Gr.out rfl
                  have r3 := fun q : Wd wr => q.slot (o := 3) Gr.out rfl
                  have r4 := fun q : Wd wr => q.slot (o := 4) Gr.out rfl
                  have r5 := fun q : Wd wr => q.slot (o := 5) Gr.out rfl
                  have q0 : ∀ q : Wd wr, q.w.cell? ⟨b, o + kz * 6, none⟩ = some (.string pq.n) := fun q => (q.cell (hb')).trans (d0)
                  have q1 : ∀ q : Wd wr, q.w.cell? ⟨b, o + kz * 6 + 1, none⟩ = some (.int .i64 pq.c) := fun q => (q.cell (hb')).trans (d1)
                  have q2 : ∀ q : Wd wr, q.w.cell? ⟨b, o + kz * 6 + 2, none⟩ = some (.string pq.z) := fun q => (q.cell (hb')).trans (d2)
                  have q3 : ∀ q : Wd wr, q.w.cell? ⟨b, o + kz * 6 + 3, none⟩ = some (.slice qa ql qc) := fun q => (q.cell (hb')).trans (d3)
                  have q4 : ∀ q : Wd wr, q.w.cell? ⟨b, o + kz * 6 + 4, none⟩ = some (.string pq.d) := fun q => (q.cell (hb')).trans (d4)
                  have q5 : ∀ q : Wd wr, q.w.cell? ⟨b, o + kz * 6 + 5, none⟩ = some (.int .i64 pq.p) := fun q => (q.cell (hb')).trans (d5)
                  have hne0 := Wd.ne wr
                  have HC0 := hidK (fun qw : Wd wr => (spair_any ⟨(some ⟨b1, o1, none⟩), l1, y1, a2, l2, y2, a3, l3, y3, a4, l4, y4, (some ⟨b, o, none⟩), l5, y5⟩ c pq p qa ql qc va vl vc qw.w (HR.out.below (HW.out.trans (qw.b.mono HW.out.size))) HX.out HV.out HNE.out (HTq.out.below qw.b) (HTp.out.below qw.b)).mono (fun _ _ h => BoolB.no h HPr.out))
                  go_wp2_with fail
                  refine wp_region_wide (by kernel_rfl) (by kernel_rfl) ?_
                  repeat (go_big_quiet_step (first | (go_at_call 127; exact Calls.wide (HC0.out _)) | fail))
                  refine wpQuiet_nil ?_
                  rintro _ ⟨q9, rfl⟩
                  have HB1 := upB HW q9.b
                  have Ck := upK Gk q9.b
                  have Cr := upK Gr q9.b
                  clear hne0 HW HB HC0 k0 k1 k2 k3 k4 k5 r0 r1 r2 r3 r4 r5 q0 q1 q2 q3 q4 q5 Gk Gr Bk Br d0 d1 d2 d3 d4 d5
                  have HB := HB1
                  clear HB1
                  have Bk := Ck
                  clear Ck
                  have Br := Cr
                  clear Cr
                  go_wp2
                  go_ret
                  exact BoolB.f (fun h => HPr.out ((h.1 k p HXp.out).2.2 kz pq hlt3 HXq.out)) HB.out
              · obtain rfl : k = kz := by omega
                go_wp2_with fail
                refine ⟨⟨k + 1, by omega, by go_num, fun j z hj hz => ?_, HB.out, Bk.out⟩, by simp [intOf]; omega⟩
                by_cases e : j = k
                · subst e
                  rw [HXp.out] at hz
                  obtain rfl := Option.some.inj hz
                  exact ⟨HPa.out, HQb.out, fun j2 q2 hj2 hq2 => HQ3.out j2 q2 hj2 hq2⟩
                · exact HQ.out j z (by omega) hz
      · have hq3 := tl_no hz1
        have HZ0 := hidK hz0
        have HZ1 := hidK hz1
        clear hz0 hz1
        have Gk : Hid (w1.heap[w.heap.size]? = some (.cells #[.slice (some ⟨b1, o1, none⟩) l1 y1, .slice a2 l2 y2, .slice a3 l3 y3, .slice a4 l4 y4, .slice (some ⟨b, o, none⟩) l5 y5, .int .i64 c.now] 39 (0, 0))) := Bk.out
        have Gr : Hid (w1.heap[wr.heap.size]? = some (.cells #[.string p.n, .int .i64 p.c, .string p.z, .slice va vl vc, .string p.d, .int .i64 p.p] 118 (0, 0))) := Br.out
        have HW : Hid (Below w.heap.size w w1) := HB.out
        have k0 := fun q : Wd w1 => q.slot (o := 0) Gk.out rfl
        have r0 := fun q : Wd w1 => q.slot (o := 0) Gr.out rfl
        have r1 := fun q : Wd w1 => q.slot (o := 1) Gr.out rfl
        have r2 := fun q : Wd w1 => q.slot (o := 2) Gr.out rfl
        have r3 := fun q : Wd w1 => q.slot (o := 3) Gr.out rfl
        have r4 := fun q : Wd w1 => q.slot (o := 4) Gr.out rfl
        have r5 := fun q : Wd w1 => q.slot (o := 5) Gr.out rfl
        have nw : ∀ q : Wd w1, q.w.cell? ⟨b1, o1 + j1 * 7 + 1, none⟩ = some (.string n.z) := fun q => (q.cell (hbn)).trans (n1)
        have hne0 := Wd.ne w1
        go_wp2_with fail
        refine wp_region_wide (by kernel_rfl) (by kernel_rfl) ?_
        repeat (go_big_quiet_step (first | fail))
        refine wpQuiet_nil ?_
        rintro _ ⟨q0, rfl⟩
        have HB2 := upB HW q0.b
        have Ck := upK Gk q0.b
        have Cr := upK Gr q0.b
        have CHTp := hidK ((HTp.out).below q0.b)
        clear hne0 HW HB k0 r0 r1 r2 r3 r4 r5 nw Gk Gr Bk Br HTp hbn n1
        have HB := HB2
        clear HB2
        have HTp := CHTp
        clear CHTp
        have Bk := Ck
        clear Ck
        have Br := Cr
        clear Cr
        go_wp2
        go_ret
        refine BoolB.f (fun h => ?_) HB.out
        rcases (h.1 k p HXp.out).1 with h2 | ⟨i, n', h2, h3, h4⟩
        · exact HEm.out h2
        · obtain ⟨_, rfl⟩ := HNR.out.inj h2 HJn.out (h3.trans HNn.out.symm)
          rcases h4 with h4 | h4
          · exact HZ0.out h4
          · exact HZ1.out h4
    · obtain rfl : l5 = k := by omega
      have HQ1 : Hid (∀ (k : Nat) p, c.ps[k]? = some p → PS c k p) := fun j z hz => HQ.out j z (by have := (List.getElem?_eq_some_iff.1 hz).1; omega) hz
      clear HQ
      have kc : wr.cell? ⟨w.heap.size, 0, none⟩ = some (.slice a1 l1 y1) := cellK Bk.out 0
      go_wp2
      clear pk kc
      go_loopw [9] (fun i wr => ∃ k : Nat, k ≤ l1 ∧ i = .int .i64 k ∧ Hid (∀ (j : Nat) n, j < k → c.ns[j]? = some n → cpuOf n.n c.ps ≤ n.c) ∧ Hid (Below w.heap.size w wr) ∧ Hid (wr.heap[w.heap.size]? = some (.cells #[.slice a1 l1 y1, .slice a2 l2 y2, .slice a3 l3 y3, .slice a4 l4 y4, .slice a5 l5 y5, .int .i64 c.now] 39 (0, 0)))) (fun i _ => l1 - (intOf i).toNat)
      case atStart => exact ⟨0, by omega, rfl, fun _ _ h => absurd h (by omega), HB.out, Bk.out⟩
      case round =>
        obtain ⟨k, hk, rfl, HQ, HB, Bk⟩ := hrel
        have pk : wr.cell? ⟨w.heap.size, 0, none⟩ = some (.slice a1 l1 y1) := cellK Bk.out 0
        by_cases hlt : k < l1
        · obtain ⟨b, o, n, rfl, hb, hx, hat⟩ := nd_at (HR.out.n.below HB.out) hlt
          obtain ⟨va, vl, vc, hvr, z0, z1, c0, c1, c2, c3, c4, c5, c6⟩ := nd_cells hat
          have HXn := hidK hx
          have HTn := hidK hvr
          have HZn0 := hidK z0
          have HZn1 := hidK z1
          clear hat hx z0 z1 hvr
          have Gk : Hid (wr.heap[w.heap.size]? = some (.cells #[.slice (some ⟨b, o, none⟩) l1 y1, .slice a2 l2 y2, .slice a3 l3 y3, .slice a4 l4 y4, .slice a5 l5 y5, .int .i64 c.now] 39 (0, 0))) := Bk.out
          have HW : Hid (Below w.heap.size w wr) := HB.out
          have k0 := fun q : Wd wr => q.slot (o := 0) Gk.out rfl
          have k1 := fun q : Wd wr => q.slot (o := 1) Gk.out rfl
          have k2 := fun q : Wd wr => q.slot (o := 2) Gk.out rfl
          have k3 := fun q : Wd wr => q.slot (o := 3) Gk.out rfl
          have k4 := fun q : Wd wr => q.slot (o := 4) Gk.out rfl
          have k5 := fun q : Wd wr => q.slot (o := 5) Gk.out rfl
          have n0w : ∀ q : Wd wr, q.w.cell? ⟨b, o + k * 7, none⟩ = some (.string n.n) := fun q => (q.cell (hb)).trans (c0)
          have n2w : ∀ q : Wd wr, q.w.cell? ⟨b, o + k * 7 + 2, none⟩ = some (.int .i64 n.c) := fun q => (q.cell (hb)).trans (c2)
          have hne0 := Wd.ne wr
          have HC0 := hidK (fun q : Wd wr => sused_any ⟨(some ⟨b, o, none⟩), l1, y1, a2, l2, y2, a3, l3, y3, a4, l4, y4, a5, l5, y5⟩ c.now c.ps n.n q.w (HR.out.p.below (HW.out.trans (q.b.mono HW.out.size))) HL5.out HPC.out)
          go_wp2_with fail
          refine wp_region_wide (by kernel_rfl) (by kernel_rfl) ?_
          repeat (go_big_quiet_step (first | (go_at_call 128; exact Calls.wide (HC0.out _)) | fail))
          refine wpQuiet_nil ?_
          rintro _ ⟨q1, rfl⟩
          have HB1 := upB HW q1.b
          have Ck := upK Gk q1.b
          clear hne0 HW HB HC0 k0 k1 k2 k3 k4 k5 n0w n2w Gk Bk pk c0 c1 c2 c3 c4 c5 c6 hb
          have HB := HB1
          clear HB1
          have Bk := Ck
          clear Ck
          by_cases hq : cpuOf n.n c.ps ≤ n.c
          · have HCq := hidK hq
            go_wp2_with fail
            refine ⟨⟨k + 1, by omega, by go_num, fun j z hj hz => ?_, HB.out, Bk.out⟩, by simp [intOf]; omega⟩
            by_cases e : j = k
            · subst e
              rw [HXn.out] at hz
              obtain rfl := Option.some.inj hz
              exact HCq.out
            · exact HQ.out j z (by omega) hz
          · have HCq := hidK hq
            go_wp2
            go_ret
            exact BoolB.f (fun h => by have h1 : cpuOf n.n c.ps ≤ n.c := h.2 k n HXn.out; have h2 := HCq.out; omega) HB.out
        · obtain rfl : l1 = k := by omega
          go_wp2
          go_ret
          exact BoolB.t ⟨HQ1.out, fun j n hz => HQ.out j n (by have := (List.getElem?_eq_some_iff.1 hz).1; omega) hz⟩ HB.out

def AttachedS (c : Cl) : Prop := (∀ (j : Nat) z, c.vs[j]? = some z → AQ1 c z) ∧ ∀ (j : Nat) n, c.ns[j]? = some n → onOf n.n c.vs ≤ n.s

set_option maxRecDepth 100000 in
set_option maxHeartbeats 12800000 in
theorem sattached_any (d : Ad) (c : Cl) (w : World) (hr : ClRow w d c.raw) (hn : RisBy Nd.n c.ns) (hvs8 : c.vs.length ≤ 8) :
    Calls Tryz.prog 75 #[.agg #[.slice d.a1 d.l1 d.c1, .slice d.a2 d.l2 d.c2, .slice d.a3 d.l3 d.c3, .slice d.a4 d.l4 d.c4, .slice d.a5 d.l5 d.c5, .int .i64 c.now]] w (BoolB (AttachedS c) w) := by
  obtain ⟨a1, l1, y1, a2, l2, y2, a3, l3, y3, a4, l4, y4, a5, l5, y5⟩ := d
  dsimp only
  have HR := hidK hr
  have hl1 : c.ns.length = l1 := by simpa using (show (c.ns.map ndF).length = l1 from hr.n.1)
  have hm1 : l1 ≤ 9223372036854775807 := Nat.le_trans hr.n.2.1 hr.n.2.2.1
  have hl2 : c.ks.length = l2 := by simpa using (show (c.ks.map kdF).length = l2 from hr.k.1)
  have hm2 : l2 ≤ 9223372036854775807 := Nat.le_trans hr.k.2.1 hr.k.2.2.1
  have hl3 : c.vs.length = l3 := by simpa using (show (c.vs.map vdF).length = l3 from hr.v.1)
  have hm3 : l3 ≤ 9223372036854775807 := Nat.le_trans hr.v.2.1 hr.v.2.2.1
  have hl4 : c.xs.length = l4 := by simpa using (show (c.xs.map xdF).length = l4 from hr.x.1)
  have hm4 : l4 ≤ 9223372036854775807 := Nat.le_trans hr.x.2.1 hr.x.2.2.1
  have hl5 : c.ps.length = l5 := by simpa using (show (c.ps.map pdF).length = l5 from hr.p.1)
  have hm5 : l5 ≤ 9223372036854775807 := Nat.le_trans hr.p.2.1 hr.p.2.2.1
  clear hr
  have HNR := hidK hn
  have HL3 := hidK hvs8
  clear hn hvs8
  go_enter Tryz.func75, Tryz.ntmps75
  go_wp2
  go_loopw [3] (fun i wr => ∃ k : Nat, k ≤ l3 ∧ i = .int .i64 k ∧ Hid (∀ (j : Nat) z, j < k → c.vs[j]? = some z → AQ1 c z) ∧ Hid (Below w.heap.size w wr) ∧ Hid (wr.heap[w.heap.size]? = some (.cells #[.slice a1 l1 y1, .slice a2 l2 y2, .slice a3 l3 y3, .slice a4 l4 y4, .slice a5 l5 y5, .int .i64 c.now] 39 (0, 0)))) (fun i _ => l3 - (intOf i).toNat)
  case atStart => exact ⟨0, by omega, rfl, fun _ _ h => absurd h (by omega), below1 _ _, Array.getElem?_push_size⟩
  case round =>
    obtain ⟨k, hk, rfl, HQ, HB, Bk⟩ := hrel
    have pk : wr.cell? ⟨w.heap.size, 2, none⟩ = some (.slice a3 l3 y3) := cellK Bk.out 2
    have pkl : w.heap.size < wr.heap.size := lt_of_some Bk.out
    by_cases hlt : k < l3
    · obtain ⟨b, o, v, rfl, hb, hx, hat⟩ := vd_at (HR.out.v.below HB.out) hlt
      obtain ⟨va, vl, vc, hvr, z0, z2, z3, z5, c0, c1, c2, c3, c4, c5, c6, c7⟩ := vd_cells hat
      have HXv := hidK hx
      have HTv := hidK hvr
      have HZv0 := hidK z0
      have HZv2 := hidK z2
      have HZv3 := hidK z3
      have HZv5 := hidK z5
      clear hat hx z0 z2 z3 z5 hvr
      have hvl : v.zs.length = vl := HTv.out.1
      have hvc : vl ≤ 9223372036854775807 := Nat.le_trans HTv.out.2.1 HTv.out.2.2.1
      have HVL := hidK hvl
      clear hvl
      have KV : Hid ((wr.alloc (.cells #[.string v.n, .int .i64 v.c, .string v.z, .string v.k, .bool v.x, .string v.m, .bool v.y, .slice va vl vc] 53)).heap[w.heap.size]? = some (.cells #[.slice a1 l1 y1, .slice a2 l2 y2, .slice (some ⟨b, o, none⟩) l3 y3, .slice a4 l4 y4, .slice a5 l5 y5, .int .i64 c.now] 39 (0, 0))) := (Below.heap_alloc wr (.cells #[.string v.n, .int .i64 v.c, .string v.z, .string v.k, .bool v.x, .string v.m, .bool v.y, .slice va vl vc] 53) _ (lt_of_some Bk.out)).trans Bk.out
      have GV : Hid ((wr.alloc (.cells #[.string v.n, .int .i64 v.c, .string v.z, .string v.k, .bool v.x, .string v.m, .bool v.y, .slice va vl vc] 53)).heap[wr.heap.size]? = some (.cells #[.string v.n, .int .i64 v.c, .string v.z, .string v.k, .bool v.x, .string v.m, .bool v.y, .slice va vl vc] 53 (0, 0))) := Array.getElem?_push_size
      have BV := hidK (HB.out.trans ((below1 wr (.cells #[.string v.n, .int .i64 v.c, .string v.z, .string v.k, .bool v.x, .string v.m, .bool v.y, .slice va vl vc] 53)).mono HB.out.size))
      have TT := hidK (HTv.out.below (below1 wr (.cells #[.string v.n, .int .i64 v.c, .string v.z, .string v.k, .bool v.x, .string v.m, .bool v.y, .slice va vl vc] 53)))
      obtain ⟨W, hW⟩ : ∃ W, W = wr.alloc (.cells #[.string v.n, .int .i64 v.c, .string v.z, .string v.k, .bool v.x, .string v.m, .bool v.y, .slice va vl vc] 53) := ⟨_, rfl⟩
      obtain ⟨gb, hgb⟩ : ∃ gb, gb = wr.heap.size := ⟨_, rfl⟩
      rw [← hW] at KV GV BV TT
      rw [← hgb] at GV
      go_wp2
      rw [← hW, ← hgb]
      clear hW hgb HB Bk HTv c0 c1 c2 c3 c4 c5 c6 c7 hb pk pkl
      go_loopw [5] (fun i wr => ∃ kq : Nat, kq ≤ vl ∧ i = .int .i64 kq ∧ Hid (∀ (j : Nat) t, j < kq → v.zs[j]? = some t → ∃ (i : Nat) (n : Nd), c.ns[i]? = some n ∧ n.n = t ∧ n.z = v.z) ∧ Hid (Below W.heap.size W wr)) (fun i _ => vl - (intOf i).toNat)
      case atStart => exact ⟨0, by omega, rfl, fun _ _ h => absurd h (by omega), Below.refl _ _⟩
      case round =>
        obtain ⟨kq, hkq, rfl, HQ2, HBW⟩ := hrel
        have HB := hidK (BV.out.trans (HBW.out.mono BV.out.size))
        have Bk := upK KV HBW.out
        have Bv := upK GV HBW.out
        have pv : wr.cell? ⟨gb, 7, none⟩ = some (.slice va vl vc) := cellK Bv.out 7
        by_cases hlt2 : kq < vl
        · obtain ⟨b2, o2, t, rfl, hb, hx, hc, hsz⟩ := (TT.out.below HBW.out).at hlt2
          have HXt := hidK hx
          clear hx hsz
          by_cases hnn : ∃ (i : Nat) (n : Nd), c.ns[i]? = some n ∧ n.n = t
          rotate_left
          · have HH := hidK hnn
            clear hnn
            have Gk : Hid (wr.heap[w.heap.size]? = some (.cells #[.slice a1 l1 y1, .slice a2 l2 y2, .slice (some ⟨b, o, none⟩) l3 y3, .slice a4 l4 y4, .slice a5 l5 y5, .int .i64 c.now] 39 (0, 0))) := Bk.out
            have Gv : Hid (wr.heap[gb]? = some (.cells #[.string v.n, .int .i64 v.c, .string v.z, .string v.k, .bool v.x, .string v.m, .bool v.y, .slice (some ⟨b2, o2, none⟩) vl vc] 53 (0, 0))) := Bv.out
            have HW : Hid (Below w.heap.size w wr) := HB.out
            have k0 := fun q : Wd wr => q.slot (o := 0) Gk.out rfl
            have k1 := fun q : Wd wr => q.slot (o := 1) Gk.out rfl
            have k2 := fun q : Wd wr => q.slot (o := 2) Gk.out rfl
            have k3 := fun q : Wd wr => q.slot (o := 3) Gk.out rfl
            have k4 := fun q : Wd wr => q.slot (o := 4) Gk.out rfl
            have k5 := fun q : Wd wr => q.slot (o := 5) Gk.out rfl
            have v7 := fun q : Wd wr => q.slot (o := 7) Gv.out rfl
            have tw : ∀ q : Wd wr, q.w.cell? ⟨b2, o2 + kq, none⟩ = some (.string t) := fun q => (q.cell (hb)).trans (hc)
            have hne0 := Wd.ne wr
            have HC0 := hidK (fun q : Wd wr => sxnd_miss ⟨a1, l1, y1, a2, l2, y2, (some ⟨b, o, none⟩), l3, y3, a4, l4, y4, a5, l5, y5⟩ c.now c.ns t q.w (HR.out.n.below (HW.out.trans (q.b.mono HW.out.size))) (fun i n h1 h2 => HH.out ⟨i, n, h1, h2⟩))
            go_wp2_with fail
            refine wp_region_wide (by kernel_rfl) (by kernel_rfl) ?_
            repeat (go_big_quiet_step (first | (go_at_call 126; exact Calls.wide (HC0.out _)) | fail))
            refine wpQuiet_nil ?_
            rintro _ ⟨q1, rfl⟩
            have HB1 := upB HW q1.b
            have Ck := upK Gk q1.b
            have Cv := upK Gv q1.b
            clear hne0 HW HB HC0 k0 k1 k2 k3 k4 k5 v7 tw Gk Gv Bk Bv pv
            have HB := HB1
            clear HB1
            have Bk := Ck
            clear Ck
            have Bv := Cv
            clear Cv
            have Gk : Hid (q1.w.heap[w.heap.size]? = some (.cells #[.slice a1 l1 y1, .slice a2 l2 y2, .slice (some ⟨b, o, none⟩) l3 y3, .slice a4 l4 y4, .slice a5 l5 y5, .int .i64 c.now] 39 (0, 0))) := Bk.out
            have Gv : Hid (q1.w.heap[gb]? = some (.cells #[.string v.n, .int .i64 v.c, .string v.z, .string v.k, .bool v.x, .string v.m, .bool v.y, .slice (some ⟨b2, o2, none⟩) vl vc] 53 (0, 0))) := Bv.out
            have HW : Hid (Below w.heap.size w q1.w) := HB.out
            have k0 := fun q : Wd q1.w => q.slot (o := 0) Gk.out rfl
            have v0 := fun q : Wd q1.w => q.slot (o := 0) Gv.out rfl
            have v1 := fun q : Wd q1.w => q.slot (o := 1) Gv.out rfl
            have v2 := fun q : Wd q1.w => q.slot (o := 2) Gv.out rfl
            have v3 := fun q : Wd q1.w => q.slot (o := 3) Gv.out rfl
            have v4 := fun q : Wd q1.w => q.slot (o := 4) Gv.out rfl
            have v5 := fun q : Wd q1.w => q.slot (o := 5) Gv.out rfl
            have v6 := fun q : Wd q1.w => q.slot (o := 6) Gv.out rfl
            have v7 := fun q : Wd q1.w => q.slot (o := 7) Gv.out rfl
            have hne0 := Wd.ne q1.w
            go_wp2_with fail
            refine wp_region_wide (by kernel_rfl) (by kernel_rfl) ?_
            repeat (go_big_quiet_step (first | fail))
            refine wpQuiet_nil ?_
            rintro _ ⟨q2, rfl⟩
            have HB2 := upB HW q2.b
            have Ck := upK Gk q2.b
            have Cv := upK Gv q2.b
            clear hne0 HW HB k0 v0 v1 v2 v3 v4 v5 v6 v7 Gk Gv Bk Bv
            have HB := HB2
            clear HB2
            have Bk := Ck
            clear Ck
            have Bv := Cv
            clear Cv
            go_wp2
            go_ret
            refine BoolB.f (fun h => ?_) HB.out
            obtain ⟨i, n, h2, h3, _⟩ := (h.1 k v HXv.out) kq t HXt.out
            exact HH.out ⟨i, n, h2, h3⟩
          obtain ⟨j1, n, h1, h2⟩ := hnn
          have hl1' : j1 < l1 := by have h3 := (List.getElem?_eq_some_iff.1 h1).1; omega
          obtain ⟨b1, o1, n', rfl, hb1n, hn', hat⟩ := nd_at HR.out.n hl1'
          rw [h1] at hn'
          obtain rfl := Option.some.inj hn'
          obtain ⟨na, nl, nc, hnr, z0, z1, d0, d1, d2, d3, d4, d5, d6⟩ := nd_cells hat
          have HJn := hidK h1
          have HNn := hidK h2
          have HCn := hidK d1
          have HBn := hidK hb1n
          have hj11 : decide ((j1 : Int) < 0) = false := by simp
          clear hn' hat hnr z0 z1 d0 d1 d2 d3 d4 d5 d6 h1 h2 hb1n
          have Gk : Hid (wr.heap[w.heap.size]? = some (.cells #[.slice (some ⟨b1, o1, none⟩) l1 y1, .slice a2 l2 y2, .slice (some ⟨b, o, none⟩) l3 y3, .slice a4 l4 y4, .slice a5 l5 y5, .int .i64 c.now] 39 (0, 0))) := Bk.out
          have Gv : Hid (wr.heap[gb]? = some (.cells #[.string v.n, .int .i64 v.c, .string v.z, .string v.k, .bool v.x, .string v.m, .bool v.y, .slice (some ⟨b2, o2, none⟩) vl vc] 53 (0, 0))) := Bv.out
          have HW : Hid (Below w.heap.size w wr) := HB.out
          have k0 := fun q : Wd wr => q.slot (o := 0) Gk.out rfl
          have k1 := fun q : Wd wr => q.slot (o := 1) Gk.out rfl
          have k2 := fun q : Wd wr => q.slot (o := 2) Gk.out rfl
          have k3 := fun q : Wd wr => q.slot (o := 3) Gk.out rfl
          have k4 := fun q : Wd wr => q.slot (o := 4) Gk.out rfl
          have k5 := fun q : Wd wr => q.slot (o := 5) Gk.out rfl
          have v7 := fun q : Wd wr => q.slot (o := 7) Gv.out rfl
          have tw : ∀ q : Wd wr, q.w.cell? ⟨b2, o2 + kq, none⟩ = some (.string t) := fun q => (q.cell (hb)).trans (hc)
          have hne0 := Wd.ne wr
          have HC0 := hidK (fun q : Wd wr => sxnd_hit ⟨(some ⟨b1, o1, none⟩), l1, y1, a2, l2, y2, (some ⟨b, o, none⟩), l3, y3, a4, l4, y4, a5, l5, y5⟩ c.now c.ns t q.w (HR.out.n.below (HW.out.trans (q.b.mono HW.out.size))) HNR.out HJn.out HNn.out)
          go_wp2_with fail
          refine wp_region_wide (by kernel_rfl) (by kernel_rfl) ?_
          repeat (go_big_quiet_step (first | (go_at_call 126; exact Calls.wide (HC0.out _)) | fail))
          refine wpQuiet_nil ?_
          rintro _ ⟨q1, rfl⟩
          have HB1 := upB HW q1.b
          have Ck := upK Gk q1.b
          have Cv := upK Gv q1.b
          clear hne0 HW HB HC0 k0 k1 k2 k3 k4 k5 v7 tw Gk Gv Bk Bv pv hb hc
          have HB := HB1
          clear HB1
          have Bk := Ck
          clear Ck
          have Bv := Cv
          clear Cv
          have HBW1 := upB HBW q1.b
          have hbn : b1 < q1.w.heap.size := Nat.lt_of_lt_of_le HBn.out HB.out.size
          have n1 := (cell_below HB.out HBn.out).trans HCn.out
          clear HBW
          by_cases hz : n.z = v.z
          · have q8 := tl_yes hz
            have HZ := hidK hz
            clear hz
            have Gk : Hid (q1.w.heap[w.heap.size]? = some (.cells #[.slice (some ⟨b1, o1, none⟩) l1 y1, .slice a2 l2 y2, .slice (some ⟨b, o, none⟩) l3 y3, .slice a4 l4 y4, .slice a5 l5 y5, .int .i64 c.now] 39 (0, 0))) := Bk.out
            have Gv : Hid (q1.w.heap[gb]? = some (.cells #[.string v.n, .int .i64 v.c, .string v.z, .string v.k, .bool v.x, .string v.m, .bool v.y, .slice (some ⟨b2, o2, none⟩) vl vc] 53 (0, 0))) := Bv.out
            have HW : Hid (Below w.heap.size w q1.w) := HB.out
            have k0 := fun q : Wd q1.w => q.slot (o := 0) Gk.out rfl
            have v0 := fun q : Wd q1.w => q.slot (o := 0) Gv.out rfl
            have v1 := fun q : Wd q1.w => q.slot (o := 1) Gv.out rfl
            have v2 := fun q : Wd q1.w => q.slot (o := 2) Gv.out rfl
            have v3 := fun q : Wd q1.w => q.slot (o := 3) Gv.out rfl
            have v4 := fun q : Wd q1.w => q.slot (o := 4) Gv.out rfl
            have v5 := fun q : Wd q1.w => q.slot (o := 5) Gv.out rfl
            have v6 := fun q : Wd q1.w => q.slot (o := 6) Gv.out rfl
            have v7 := fun q : Wd q1.w => q.slot (o := 7) Gv.out rfl
            have nw : ∀ q : Wd q1.w, q.w.cell? ⟨b1, o1 + j1 * 7 + 1, none⟩ = some (.string n.z) := fun q => (q.cell (hbn)).trans (n1)
            have hne0 := Wd.ne q1.w
            go_wp2_with fail
            refine wp_region_wide (by kernel_rfl) (by kernel_rfl) ?_
            repeat (go_big_quiet_step (first | fail))
            refine wpQuiet_nil ?_
            rintro _ ⟨q2, rfl⟩
            have HB2 := upB HW q2.b
            have Ck := upK Gk q2.b
            have Cv := upK Gv q2.b
            clear hne0 HW HB k0 v0 v1 v2 v3 v4 v5 v6 v7 nw Gk Gv Bk Bv hbn n1
            have HB := HB2
            clear HB2
            have Bk := Ck
            clear Ck
            have Bv := Cv
            clear Cv
            clear q8
            go_wp2_with fail
            refine ⟨⟨kq + 1, by omega, by go_num, fun j s hj hs => ?_, HBW1.out.trans (q2.b.mono HBW1.out.size)⟩, by simp [intOf]; omega⟩
            by_cases e : j = kq
            · subst e
              rw [HXt.out] at hs
              obtain rfl := Option.some.inj hs
              exact ⟨j1, n, HJn.out, HNn.out, HZ.out⟩
            · exact HQ2.out j s (by omega) hs
          · have q8 := tl_no hz
            have HZ := hidK hz
            clear hz
            have Gk : Hid (q1.w.heap[w.heap.size]? = some (.cells #[.slice (some ⟨b1, o1, none⟩) l1 y1, .slice a2 l2 y2, .slice (some ⟨b, o, none⟩) l3 y3, .slice a4 l4 y4, .slice a5 l5 y5, .int .i64 c.now] 39 (0, 0))) := Bk.out
            have Gv : Hid (q1.w.heap[gb]? = some (.cells #[.string v.n, .int .i64 v.c, .string v.z, .string v.k, .bool v.x, .string v.m, .bool v.y, .slice (some ⟨b2, o2, none⟩) vl vc] 53 (0, 0))) := Bv.out
            have HW : Hid (Below w.heap.size w q1.w) := HB.out
            have k0 := fun q : Wd q1.w => q.slot (o := 0) Gk.out rfl
            have v0 := fun q : Wd q1.w => q.slot (o := 0) Gv.out rfl
            have v1 := fun q : Wd q1.w => q.slot (o := 1) Gv.out rfl
            have v2 := fun q : Wd q1.w => q.slot (o := 2) Gv.out rfl
            have v3 := fun q : Wd q1.w => q.slot (o := 3) Gv.out rfl
            have v4 := fun q : Wd q1.w => q.slot (o := 4) Gv.out rfl
            have v5 := fun q : Wd q1.w => q.slot (o := 5) Gv.out rfl
            have v6 := fun q : Wd q1.w => q.slot (o := 6) Gv.out rfl
            have v7 := fun q : Wd q1.w => q.slot (o := 7) Gv.out rfl
            have nw : ∀ q : Wd q1.w, q.w.cell? ⟨b1, o1 + j1 * 7 + 1, none⟩ = some (.string n.z) := fun q => (q.cell (hbn)).trans (n1)
            have hne0 := Wd.ne q1.w
            go_wp2_with fail
            refine wp_region_wide (by kernel_rfl) (by kernel_rfl) ?_
            repeat (go_big_quiet_step (first | fail))
            refine wpQuiet_nil ?_
            rintro _ ⟨q2, rfl⟩
            have HB2 := upB HW q2.b
            have Ck := upK Gk q2.b
            have Cv := upK Gv q2.b
            clear hne0 HW HB k0 v0 v1 v2 v3 v4 v5 v6 v7 nw Gk Gv Bk Bv hbn n1
            have HB := HB2
            clear HB2
            have Bk := Ck
            clear Ck
            have Bv := Cv
            clear Cv
            go_wp2
            go_ret
            refine BoolB.f (fun h => ?_) HB.out
            obtain ⟨i, m2, e1, e2, e3⟩ := (h.1 k v HXv.out) kq t HXt.out
            obtain ⟨_, rfl⟩ := HNR.out.inj e1 HJn.out (e2.trans HNn.out.symm)
            exact HZ.out e3
        · obtain rfl : vl = kq := by omega
          go_wp2_with fail
          refine ⟨⟨k + 1, by omega, by go_num, fun j z hj hz => ?_, HB.out, Bk.out⟩, by simp [intOf]; omega⟩
          by_cases e : j = k
          · subst e
            rw [HXv.out] at hz
            obtain rfl := Option.some.inj hz
            exact fun j s hs => HQ2.out j s (by have h1 := (List.getElem?_eq_some_iff.1 hs).1; have h2 := HVL.out; omega) hs
          · exact HQ.out j z (by omega) hz
    · obtain rfl : l3 = k := by omega
      have HQ1 : Hid (∀ (j : Nat) z, c.vs[j]? = some z → AQ1 c z) := fun j z hz => HQ.out j z (by have := (List.getElem?_eq_some_iff.1 hz).1; omega) hz
      clear HQ
      have kc : wr.cell? ⟨w.heap.size, 0, none⟩ = some (.slice a1 l1 y1) := cellK Bk.out 0
      go_wp2
      clear pk kc
      go_loopw [7] (fun i wr => ∃ k : Nat, k ≤ l1 ∧ i = .int .i64 k ∧ Hid (∀ (j : Nat) n, j < k → c.ns[j]? = some n → onOf n.n c.vs ≤ n.s) ∧ Hid (Below w.heap.size w wr) ∧ Hid (wr.heap[w.heap.size]? = some (.cells #[.slice a1 l1 y1, .slice a2 l2 y2, .slice a3 l3 y3, .slice a4 l4 y4, .slice a5 l5 y5, .int .i64 c.now] 39 (0, 0)))) (fun i _ => l1 - (intOf i).toNat)
      case atStart => exact ⟨0, by omega, rfl, fun _ _ h => absurd h (by omega), HB.out, Bk.out⟩
      case round =>
        obtain ⟨k, hk, rfl, HQ, HB, Bk⟩ := hrel
        have pk : wr.cell? ⟨w.heap.size, 0, none⟩ = some (.slice a1 l1 y1) := cellK Bk.out 0
        by_cases hlt : k < l1
        · obtain ⟨b, o, n, rfl, hb, hx, hat⟩ := nd_at (HR.out.n.below HB.out) hlt
          obtain ⟨va, vl, vc, hvr, z0, z1, c0, c1, c2, c3, c4, c5, c6⟩ := nd_cells hat
          have HXn := hidK hx
          have HTn := hidK hvr
          have HZn0 := hidK z0
          have HZn1 := hidK z1
          clear hat hx z0 z1 hvr
          have Gk : Hid (wr.heap[w.heap.size]? = some (.cells #[.slice (some ⟨b, o, none⟩) l1 y1, .slice a2 l2 y2, .slice a3 l3 y3, .slice a4 l4 y4, .slice a5 l5 y5, .int .i64 c.now] 39 (0, 0))) := Bk.out
          have HW : Hid (Below w.heap.size w wr) := HB.out
          have k0 := fun q : Wd wr => q.slot (o := 0) Gk.out rfl
          have k1 := fun q : Wd wr => q.slot (o := 1) Gk.out rfl
          have k2 := fun q : Wd wr => q.slot (o := 2) Gk.out rfl
          have k3 := fun q : Wd wr => q.slot (o := 3) Gk.out rfl
          have k4 := fun q : Wd wr => q.slot (o := 4) Gk.out rfl
          have k5 := fun q : Wd wr => q.slot (o := 5) Gk.out rfl
          have n0w : ∀ q : Wd wr, q.w.cell? ⟨b, o + k * 7, none⟩ = some (.string n.n) := fun q => (q.cell (hb)).trans (c0)
          have n2w : ∀ q : Wd wr, q.w.cell? ⟨b, o + k * 7 + 3, none⟩ = some (.int .i64 n.s) := fun q => (q.cell (hb)).trans (c3)
          have hne0 := Wd.ne wr
          have HC0 := hidK (fun q : Wd wr => son_any ⟨(some ⟨b, o, none⟩), l1, y1, a2, l2, y2, a3, l3, y3, a4, l4, y4, a5, l5, y5⟩ c.now c.vs n.n q.w (HR.out.v.below (HW.out.trans (q.b.mono HW.out.size))) HL3.out)
          go_wp2_with fail
          refine wp_region_wide (by kernel_rfl) (by kernel_rfl) ?_
          repeat (go_big_quiet_step (first | (go_at_call 129; exact Calls.wide (HC0.out _)) | fail))
          refine wpQuiet_nil ?_
          rintro _ ⟨q1, rfl⟩
          have HB1 := upB HW q1.b
          have Ck := upK Gk q1.b
          clear hne0 HW HB HC0 k0 k1 k2 k3 k4 k5 n0w n2w Gk Bk pk c0 c1 c2 c3 c4 c5 c6 hb
          have HB := HB1
          clear HB1
          have Bk := Ck
          clear Ck
          by_cases hq : onOf n.n c.vs ≤ n.s
          · have HCq := hidK hq
            go_wp2_with fail
            refine ⟨⟨k + 1, by omega, by go_num, fun j z hj hz => ?_, HB.out, Bk.out⟩, by simp [intOf]; omega⟩
            by_cases e : j = k
            · subst e
              rw [HXn.out] at hz
              obtain rfl := Option.some.inj hz
              exact HCq.out
            · exact HQ.out j z (by omega) hz
          · have HCq := hidK hq
            go_wp2
            go_ret
            exact BoolB.f (fun h => by have h1 : onOf n.n c.vs ≤ n.s := h.2 k n HXn.out; have h2 := HCq.out; omega) HB.out
        · obtain rfl : l1 = k := by omega
          go_wp2
          go_ret
          exact BoolB.t ⟨HQ1.out, fun j n hz => HQ.out j n (by have := (List.getElem?_eq_some_iff.1 hz).1; omega) hz⟩ HB.out

def FreshN (W : World) : Fact := fun v w => ∃ g, v = .pointer (some ⟨g, 0, none⟩) ∧ W.heap.size ≤ g ∧ w.heap[g]? = some (.cells #[.string ⟨#[]⟩, .string ⟨#[]⟩, .int .i64 0, .int .i64 0, .int .i64 0, .bool false, .slice none 0 0] 117 (0, 0))
theorem FreshN.mono (W : World) : Fact.Mono (FreshN W) := by
  rintro v w w' ⟨g, h1, h2, h3⟩ hb
  exact ⟨g, h1, h2, (hb.block g (lt_of_some h3)).trans h3⟩
theorem put7N {w : World} {g : Nat} {v0 v1 v2 v3 v4 v5 v6 : Value} (h : w.heap[g]? = some (.cells #[.string ⟨#[]⟩, .string ⟨#[]⟩, .int .i64 0, .int .i64 0, .int .i64 0, .bool false, .slice none 0 0] 117 (0, 0))) :
    (((((((w.setCell ⟨g, 0, none⟩ (v0)).setCell ⟨g, 1, none⟩ (v1)).setCell ⟨g, 2, none⟩ (v2)).setCell ⟨g, 3, none⟩ (v3)).setCell ⟨g, 4, none⟩ (v4)).setCell ⟨g, 5, none⟩ (v5)).setCell ⟨g, 6, none⟩ (v6)).heap[g]? = some (.cells #[v0, v1, v2, v3, v4, v5, v6] 117 (0, 0)) := by
  have := block_set (i := 6) (block_set (i := 5) (block_set (i := 4) (block_set (i := 3) (block_set (i := 2) (block_set (i := 1) (block_set (i := 0) h v0) v1) v2) v3) v4) v5) v6
  simpa using this
theorem set_below7 {W w : World} {g : Nat} {v0 v1 v2 v3 v4 v5 v6 : Value} (hg : W.heap.size ≤ g) (h : Below W.heap.size W w) : Below W.heap.size W (((((((w.setCell ⟨g, 0, none⟩ (v0)).setCell ⟨g, 1, none⟩ (v1)).setCell ⟨g, 2, none⟩ (v2)).setCell ⟨g, 3, none⟩ (v3)).setCell ⟨g, 4, none⟩ (v4)).setCell ⟨g, 5, none⟩ (v5)).setCell ⟨g, 6, none⟩ (v6)) :=
  set_below hg (set_below hg (set_below hg (set_below hg (set_below hg (set_below hg (set_below hg h))))))
def AllS (c : Cl) (p : Pd) (n : Nd) : Prop := ∀ (j : Nat) t, p.zs[j]? = some t → ∃ v, IsBd c t v ∧ InL n.zs v.n

set_option maxRecDepth 100000 in
set_option maxHeartbeats 12800000 in
theorem sall_any (d : Ad) (c : Cl) (p : Pd) (pa : Option Addr) (pl pc : Nat) (j1 : Nat) (n : Nd) (w : World) (hr : ClRow w d c.raw) (hn : RisBy Nd.n c.ns) (hx : RisBy Xd.n c.xs) (hv : RisBy Vd.n c.vs) (hne : ∀ (j : Nat) v, c.vs[j]? = some v → ¬ v.n = ⟨#[]⟩) (hp : TxRow w pa pl pc p.zs) (hj1 : c.ns[j1]? = some n) (hnn : n.n = p.d) (hbd : ∀ (j : Nat) t, p.zs[j]? = some t → ∃ v, IsBd c t v) :
    Calls Tryz.prog 131 #[.agg #[.slice d.a1 d.l1 d.c1, .slice d.a2 d.l2 d.c2, .slice d.a3 d.l3 d.c3, .slice d.a4 d.l4 d.c4, .slice d.a5 d.l5 d.c5, .int .i64 c.now], .agg #[.string p.n, .int .i64 p.c, .string p.z, .slice pa pl pc, .string p.d, .int .i64 p.p]] w (BoolB (AllS c p n) w) := by
  obtain ⟨a1, l1, y1, a2, l2, y2, a3, l3, y3, a4, l4, y4, a5, l5, y5⟩ := d
  dsimp only
  have HR := hidK hr
  have hl1 : c.ns.length = l1 := by simpa using (show (c.ns.map ndF).length = l1 from hr.n.1)
  have hm1 : l1 ≤ 9223372036854775807 := Nat.le_trans hr.n.2.1 hr.n.2.2.1
  have hl2 : c.ks.length = l2 := by simpa using (show (c.ks.map kdF).length = l2 from hr.k.1)
  have hm2 : l2 ≤ 9223372036854775807 := Nat.le_trans hr.k.2.1 hr.k.2.2.1
  have hl3 : c.vs.length = l3 := by simpa using (show (c.vs.map vdF).length = l3 from hr.v.1)
  have hm3 : l3 ≤ 9223372036854775807 := Nat.le_trans hr.v.2.1 hr.v.2.2.1
  have hl4 : c.xs.length = l4 := by simpa using (show (c.xs.map xdF).length = l4 from hr.x.1)
  have hm4 : l4 ≤ 9223372036854775807 := Nat.le_trans hr.x.2.1 hr.x.2.2.1
  have hl5 : c.ps.length = l5 := by simpa using (show (c.ps.map pdF).length = l5 from hr.p.1)
  have hm5 : l5 ≤ 9223372036854775807 := Nat.le_trans hr.p.2.1 hr.p.2.2.1
  clear hr
  have HNR := hidK hn
  have HX := hidK hx
  have HV := hidK hv
  have HNE := hidK hne
  have HP := hidK hp
  have HBD := hidK hbd
  have hlc : pl ≤ 9223372036854775807 := Nat.le_trans hp.2.1 hp.2.2.1
  have hzl : p.zs.length = pl := hp.1
  have hl1' : j1 < l1 := by have h3 := (List.getElem?_eq_some_iff.1 hj1).1; omega
  obtain ⟨b1, o1, n', rfl, hb1n, hn', hat⟩ := nd_at HR.out.n hl1'
  rw [hj1] at hn'
  obtain rfl := Option.some.inj hn'
  obtain ⟨na, nl, nc, hnr, z0, z1, d0, d1, d2, d3, d4, d5, d6⟩ := nd_cells hat
  have HJn := hidK hj1
  have HNn := hidK hnn
  have HTn := hidK hnr
  have HBn := hidK hb1n
  have HD : Hid (w.cell? ⟨b1, o1 + j1 * 7, none⟩ = some (.string n.n) ∧ w.cell? ⟨b1, o1 + j1 * 7 + 1, none⟩ = some (.string n.z) ∧ w.cell? ⟨b1, o1 + j1 * 7 + 2, none⟩ = some (.int .i64 n.c) ∧ w.cell? ⟨b1, o1 + j1 * 7 + 3, none⟩ = some (.int .i64 n.s) ∧ w.cell? ⟨b1, o1 + j1 * 7 + 4, none⟩ = some (.int .i64 n.u) ∧ w.cell? ⟨b1, o1 + j1 * 7 + 5, none⟩ = some (.bool n.d) ∧ w.cell? ⟨b1, o1 + j1 * 7 + 6, none⟩ = some (.slice na nl nc)) := ⟨d0, d1, d2, d3, d4, d5, d6⟩
  clear hn' hat hnr z0 z1 d0 d1 d2 d3 d4 d5 d6 hj1 hnn hb1n hn hx hv hne hp hbd
  obtain ⟨W, hW0⟩ : ∃ W, W = (w.alloc (.cells #[.slice (some ⟨b1, o1, none⟩) l1 y1, .slice a2 l2 y2, .slice a3 l3 y3, .slice a4 l4 y4, .slice a5 l5 y5, .int .i64 c.now] 39)).alloc (.cells #[.string p.n, .int .i64 p.c, .string p.z, .slice pa pl pc, .string p.d, .int .i64 p.p] 118) := ⟨_, rfl⟩
  have GK : Hid (W.heap[w.heap.size]? = some (.cells #[.slice (some ⟨b1, o1, none⟩) l1 y1, .slice a2 l2 y2, .slice a3 l3 y3, .slice a4 l4 y4, .slice a5 l5 y5, .int .i64 c.now] 39 (0, 0))) := by rw [hW0]; exact heap2_0 _ _ _
  have GP : Hid (W.heap[w.heap.size + 1]? = some (.cells #[.string p.n, .int .i64 p.c, .string p.z, .slice pa pl pc, .string p.d, .int .i64 p.p] 118 (0, 0))) := by rw [hW0]; exact heap2_1 _ _ _
  have BW : Hid (Below w.heap.size w W) := by rw [hW0]; exact below2 _ _ _
  go_enter Tryz.func131, Tryz.ntmps131
  go_wp2_with fail
  rw [← hW0]
  clear hW0
  rename_i K0 hK0
  refine wp_region_grow_last (by kernel_rfl) rfl rfl (by kernel_rfl) ?_
  refine' Grow.stepC _ rfl ?_ ?_
  rotate_left 1
  · refine Obl.plain rfl ?_
    intro ac wg K hsz hW hf hK; clear hsz
    have e2 := hf 2 (by decide)
    simp [slotFact, List.lookup] at e2
    clear hf
    go_simp
    refine hK _ _ (Below.refl _ _) ?_
    with_reducible rfl
  refine' Grow.stepC _ rfl ?_ ?_
  rotate_left 1
  · refine Obl.plain rfl ?_
    intro ac wg K hsz hW hf hK; clear hsz
    have e7 := hf 7 (by decide)
    simp [slotFact, List.lookup] at e7
    clear hf
    obtain ⟨k0, k1, k2, k3, k4, k5⟩ := cs6 ((hW.block _ (lt_of_some GK.out)).trans GK.out)
    go_simp
    refine hK _ _ (Below.refl _ _) ?_
    with_reducible rfl
  refine' Grow.stepC _ rfl ?_ ?_
  rotate_left 1
  · refine Obl.plain rfl ?_
    intro ac wg K hsz hW hf hK; clear hsz
    have e2 := hf 2 (by decide)
    simp [slotFact, List.lookup] at e2
    clear hf
    obtain ⟨k0, k1, k2, k3, k4, k5⟩ := cs6 ((hW.block _ (lt_of_some GK.out)).trans GK.out)
    go_simp
    refine hK _ _ (Below.refl _ _) ?_
    with_reducible rfl
  refine' Grow.stepC _ rfl ?_ ?_
  rotate_left 1
  · refine Obl.plain rfl ?_
    intro ac wg K hsz hW hf hK; clear hsz
    have e3 := hf 3 (by decide)
    simp [slotFact, List.lookup] at e3
    clear hf
    go_simp
    refine hK _ _ (Below.refl _ _) ?_
    with_reducible rfl
  refine' Grow.stepC _ rfl ?_ ?_
  rotate_left 1
  · refine Obl.plain rfl ?_
    intro ac wg K hsz hW hf hK; clear hsz
    have e10 := hf 10 (by decide)
    simp [slotFact, List.lookup] at e10
    clear hf
    obtain ⟨r0, r1, r2, r3, r4, r5⟩ := cs6 ((hW.block _ (lt_of_some GP.out)).trans GP.out)
    go_simp
    refine hK _ _ (Below.refl _ _) ?_
    with_reducible rfl
  refine' Grow.stepC (.int .i64 j1) rfl ?_ ?_
  · refine Obl.plain rfl ?_
    intro ac wg K hsz hW hf hK; clear hsz
    have e9 := hf 9 (by decide)
    simp [slotFact, List.lookup] at e9
    have e11 := hf 11 (by decide)
    simp [slotFact, List.lookup] at e11
    clear hf
    go_simp
    refine (sxnd_hit ⟨(some ⟨b1, o1, none⟩), l1, y1, a2, l2, y2, a3, l3, y3, a4, l4, y4, a5, l5, y5⟩ c.now c.ns p.d _ (HR.out.n.below (BW.out.trans (hW.mono BW.out.size))) HNR.out HJn.out HNn.out).mono ?_
    rintro e w5 ⟨rfl, hb5⟩
    exact hK _ _ hb5 rfl
  refine' Grow.stepC _ rfl ?_ ?_
  rotate_left 1
  · refine Obl.plain rfl ?_
    intro ac wg K hsz hW hf hK; clear hsz
    have e8 := hf 8 (by decide)
    simp [slotFact, List.lookup] at e8
    have e12 := hf 12 (by decide)
    simp [slotFact, List.lookup] at e12
    clear hf
    go_simp
    refine hK _ _ (Below.refl _ _) ?_
    with_reducible rfl
  refine' Grow.stepC _ rfl ?_ ?_
  rotate_left 1
  · refine Obl.plain rfl ?_
    intro ac wg K hsz hW hf hK; clear hsz
    have e13 := hf 13 (by decide)
    simp [slotFact, List.lookup] at e13
    clear hf
    have hBg := BW.out.trans (hW.mono BW.out.size)
    obtain ⟨d0, d1, d2, d3, d4, d5, d6⟩ := HD.out
    have g0 := (cell_below hBg HBn.out).trans d0
    have g1 := (cell_below hBg HBn.out).trans d1
    have g2 := (cell_below hBg HBn.out).trans d2
    have g3 := (cell_below hBg HBn.out).trans d3
    have g4 := (cell_below hBg HBn.out).trans d4
    have g5 := (cell_below hBg HBn.out).trans d5
    have g6 := (cell_below hBg HBn.out).trans d6
    clear d0 d1 d2 d3 d4 d5 d6 hBg
    go_simp
    refine hK _ _ (Below.refl _ _) ?_
    with_reducible rfl
  refine Grow.step (FreshN W) rfl (FreshN.mono W) ?_ ?_
  · refine Obl.plain rfl ?_
    intro ac wg K hsz hW hf hK; clear hsz
    clear hf
    go_simp
    exact hK _ _ (below1 _ _) ⟨_, rfl, hW.size, Array.getElem?_push_size⟩
  refine Grow.done ?_
  intro q wz hW hf
  simp only [List.forall_mem_cons] at hf
  obtain ⟨⟨g5, h5, hbW, hgb⟩, h14, -⟩ := hf
  have r0 : wz.cell? ⟨g5, 0, none⟩ = some (.string ⟨#[]⟩) := cellK hgb 0
  have r1 : wz.cell? ⟨g5, 1, none⟩ = some (.string ⟨#[]⟩) := cellK hgb 1
  have r2 : wz.cell? ⟨g5, 2, none⟩ = some (.int .i64 0) := cellK hgb 2
  have r3 : wz.cell? ⟨g5, 3, none⟩ = some (.int .i64 0) := cellK hgb 3
  have r4 : wz.cell? ⟨g5, 4, none⟩ = some (.int .i64 0) := cellK hgb 4
  have r5 : wz.cell? ⟨g5, 5, none⟩ = some (.bool false) := cellK hgb 5
  have r6 : wz.cell? ⟨g5, 6, none⟩ = some (.slice none 0 0) := cellK hgb 6
  have f0 : wz.frozen? ⟨g5, 0, none⟩ = false := froK hgb 0
  have f1 : wz.frozen? ⟨g5, 1, none⟩ = false := froK hgb 1
  have f2 : wz.frozen? ⟨g5, 2, none⟩ = false := froK hgb 2
  have f3 : wz.frozen? ⟨g5, 3, none⟩ = false := froK hgb 3
  have f4 : wz.frozen? ⟨g5, 4, none⟩ = false := froK hgb 4
  have f5 : wz.frozen? ⟨g5, 5, none⟩ = false := froK hgb 5
  have f6 : wz.frozen? ⟨g5, 6, none⟩ = false := froK hgb 6
  have GN := hidK (put7N (v0 := .string n.n) (v1 := .string n.z) (v2 := .int .i64 n.c) (v3 := .int .i64 n.s) (v4 := .int .i64 n.u) (v5 := .bool n.d) (v6 := .slice na nl nc) hgb)
  have BN := hidK (set_below7 (v0 := .string n.n) (v1 := .string n.z) (v2 := .int .i64 n.c) (v3 := .int .i64 n.s) (v4 := .int .i64 n.u) (v5 := .bool n.d) (v6 := .slice na nl nc) hbW hW)
  clear hgb hW
  intro K hK
  rw [if_pos (by rfl)]
  simp only [putsAll, List.foldr, Act.put, List.setIfInBounds_toArray, List.set_cons_zero, List.set_cons_succ, h5, h14]
  simp only [List.getLast]
  go_simp
  refine hK _ _ ?_
  refine hK0 _ _ ?_
  clear hK hK0 K K0
  generalize (((((((wz.setCell ⟨g5, 0, none⟩ (.string n.n)).setCell ⟨g5, 1, none⟩ (.string n.z)).setCell ⟨g5, 2, none⟩ (.int .i64 n.c)).setCell ⟨g5, 3, none⟩ (.int .i64 n.s)).setCell ⟨g5, 4, none⟩ (.int .i64 n.u)).setCell ⟨g5, 5, none⟩ (.bool n.d)).setCell ⟨g5, 6, none⟩ (.slice na nl nc)) = Y at GN BN ⊢
  clear r0 f0 r1 f1 r2 f2 r3 f3 r4 f4 r5 f5 r6 f6
  have KV := upK GK BN.out
  have PVv := upK GP BN.out
  have BV := hidK (BW.out.trans (BN.out.mono BW.out.size))
  clear GK GP BW BN hbW
  have pp : Y.cell? ⟨w.heap.size + 1, 3, none⟩ = some (.slice pa pl pc) := cellK PVv.out 3
  go_wp2
  clear pp
  go_loopw [6] (fun i wr => ∃ k : Nat, k ≤ pl ∧ i = .int .i64 k ∧ Hid (∀ (j : Nat) t, j < k → p.zs[j]? = some t → ∃ v, IsBd c t v ∧ InL n.zs v.n) ∧ Hid (Below Y.heap.size Y wr)) (fun i _ => pl - (intOf i).toNat)
  case atStart => exact ⟨0, by omega, rfl, fun _ _ h => absurd h (by omega), Below.refl _ _⟩
  case round =>
    obtain ⟨k, hk, rfl, HQ, HBY⟩ := hrel
    have HB := hidK (BV.out.trans (HBY.out.mono BV.out.size))
    have Bk := upK KV HBY.out
    have Bp := upK PVv HBY.out
    have Bn := upK GN HBY.out
    have pp : wr.cell? ⟨w.heap.size + 1, 3, none⟩ = some (.slice pa pl pc) := cellK Bp.out 3
    by_cases hlt : k < pl
    · obtain ⟨b, o, t, rfl, hb, hxt, hc, hsz⟩ := (HP.out.below HB.out).at hlt
      have HXt := hidK hxt
      clear hxt hsz
      obtain ⟨v, hbd⟩ := HBD.out k t HXt.out
      obtain ⟨j3, hj3⟩ := hbd.at
      have hl3' : j3 < l3 := by have h1 := (List.getElem?_eq_some_iff.1 hj3).1; omega
      obtain ⟨b3, o3, v', rfl, hb3, hv', hat⟩ := vd_at HR.out.v hl3'
      rw [hj3] at hv'
      obtain rfl := Option.some.inj hv'
      obtain ⟨xa, xl, xc, hvr, z0, z2, z3, z5, d0, d1, d2, d3, d4, d5, d6, d7⟩ := vd_cells hat
      have HJ := hidK hj3
      have HDb := hidK hbd
      have hbv : b3 < wr.heap.size := Nat.lt_of_lt_of_le hb3 HB.out.size
      have v0 := (cell_below HB.out hb3).trans d0
      clear hv' hat hvr z0 z2 z3 z5 d0 d1 d2 d3 d4 d5 d6 d7 hj3 hbd hb3
      by_cases hin : InL n.zs v.n
      · have HIn := hidK hin
        clear hin
        have Gk : Hid (wr.heap[w.heap.size]? = some (.cells #[.slice (some ⟨b1, o1, none⟩) l1 y1, .slice a2 l2 y2, .slice (some ⟨b3, o3, none⟩) l3 y3, .slice a4 l4 y4, .slice a5 l5 y5, .int .i64 c.now] 39 (0, 0))) := Bk.out
        have Gp : Hid (wr.heap[w.heap.size + 1]? = some (.cells #[.string p.n, .int .i64 p.c, .string p.z, .slice (some ⟨b, o, none⟩) pl pc, .string p.d, .int .i64 p.p] 118 (0, 0))) := Bp.out
        have Gn : Hid (wr.heap[g5]? = some (.cells #[.string n.n, .string n.z, .int .i64 n.c, .int .i64 n.s, .int .i64 n.u, .bool n.d, .slice na nl nc] 117 (0, 0))) := Bn.out
        have HW : Hid (Below w.heap.size w wr) := HB.out
        have k0 := fun q : Wd wr => q.slot (o := 0) Gk.out rfl
        have k1 := fun q : Wd wr => q.slot (o := 1) Gk.out rfl
        have k2 := fun q : Wd wr => q.slot (o := 2) Gk.out rfl
        have k3 := fun q : Wd wr => q.slot (o := 3) Gk.out rfl
        have k4 := fun q : Wd wr => q.slot (o := 4) Gk.out rfl
        have k5 := fun q : Wd wr => q.slot (o := 5) Gk.out rfl
        have p3 := fun q : Wd wr => q.slot (o := 3) Gp.out rfl
        have n6 := fun q : Wd wr => q.slot (o := 6) Gn.out rfl
        have tw : ∀ q : Wd wr, q.w.cell? ⟨b, o + k, none⟩ = some (.string t) := fun q => (q.cell (hb)).trans (hc)
        have vw : ∀ q : Wd wr, q.w.cell? ⟨b3, o3 + j3 * 8, none⟩ = some (.string v.n) := fun q => (q.cell (hbv)).trans (v0)
        have hne0 := Wd.ne wr
        have HC0 := hidK (fun q : Wd wr => sbind_hit ⟨(some ⟨b1, o1, none⟩), l1, y1, a2, l2, y2, (some ⟨b3, o3, none⟩), l3, y3, a4, l4, y4, a5, l5, y5⟩ c t q.w (HR.out.below (HW.out.trans (q.b.mono HW.out.size))) HX.out HV.out HNE.out HJ.out HDb.out)
        have HC1 := hidK (fun q : Wd wr => (shas_any na nl nc n.zs v.n q.w (HTn.out.below (HW.out.trans (q.b.mono HW.out.size)))).mono (fun _ _ h => BoolB.yes h HIn.out))
        go_wp2_with fail
        refine wp_region_wide (by kernel_rfl) (by kernel_rfl) ?_
        repeat (go_big_quiet_step (first | (go_at_call 58; exact Calls.wide (HC0.out _)) | (go_at_call 130; exact Calls.wide (HC1.out _)) | fail))
        refine wpQuiet_nil ?_
        rintro _ ⟨q2, rfl⟩
        have HB1 := upB HW q2.b
        have Ck := upK Gk q2.b
        have Cp := upK Gp q2.b
        have Cn := upK Gn q2.b
        clear hne0 HW HB HC0 HC1 k0 k1 k2 k3 k4 k5 p3 n6 tw vw Gk Gp Gn Bk Bp Bn pp hb hc hbv v0
        have HB := HB1
        clear HB1
        have Bk := Ck
        clear Ck
        have Bp := Cp
        clear Cp
        have Bn := Cn
        clear Cn
        go_wp2_with fail
        refine ⟨⟨k + 1, by omega, by go_num, fun j s hj hs => ?_, HBY.out.trans (q2.b.mono HBY.out.size)⟩, by simp [intOf]; omega⟩
        by_cases e : j = k
        · subst e
          rw [HXt.out] at hs
          obtain rfl := Option.some.inj hs
          exact ⟨v, HDb.out, HIn.out⟩
        · exact HQ.out j s (by omega) hs
      · have HIn := hidK hin
        clear hin
        have Gk : Hid (wr.heap[w.heap.size]? = some (.cells #[.slice (some ⟨b1, o1, none⟩) l1 y1, .slice a2 l2 y2, .slice (some ⟨b3, o3, none⟩) l3 y3, .slice a4 l4 y4, .slice a5 l5 y5, .int .i64 c.now] 39 (0, 0))) := Bk.out
        have Gp : Hid (wr.heap[w.heap.size + 1]? = some (.cells #[.string p.n, .int .i64 p.c, .string p.z, .slice (some ⟨b, o, none⟩) pl pc, .string p.d, .int .i64 p.p] 118 (0, 0))) := Bp.out
        have Gn : Hid (wr.heap[g5]? = some (.cells #[.string n.n, .string n.z, .int .i64 n.c, .int .i64 n.s, .int .i64 n.u, .bool n.d, .slice na nl nc] 117 (0, 0))) := Bn.out
        have HW : Hid (Below w.heap.size w wr) := HB.out
        have k0 := fun q : Wd wr => q.slot (o := 0) Gk.out rfl
        have k1 := fun q : Wd wr => q.slot (o := 1) Gk.out rfl
        have k2 := fun q : Wd wr => q.slot (o := 2) Gk.out rfl
        have k3 := fun q : Wd wr => q.slot (o := 3) Gk.out rfl
        have k4 := fun q : Wd wr => q.slot (o := 4) Gk.out rfl
        have k5 := fun q : Wd wr => q.slot (o := 5) Gk.out rfl
        have p3 := fun q : Wd wr => q.slot (o := 3) Gp.out rfl
        have n6 := fun q : Wd wr => q.slot (o := 6) Gn.out rfl
        have tw : ∀ q : Wd wr, q.w.cell? ⟨b, o + k, none⟩ = some (.string t) := fun q => (q.cell (hb)).trans (hc)
        have vw : ∀ q : Wd wr, q.w.cell? ⟨b3, o3 + j3 * 8, none⟩ = some (.string v.n) := fun q => (q.cell (hbv)).trans (v0)
        have hne0 := Wd.ne wr
        have HC0 := hidK (fun q : Wd wr => sbind_hit ⟨(some ⟨b1, o1, none⟩), l1, y1, a2, l2, y2, (some ⟨b3, o3, none⟩), l3, y3, a4, l4, y4, a5, l5, y5⟩ c t q.w (HR.out.below (HW.out.trans (q.b.mono HW.out.size))) HX.out HV.out HNE.out HJ.out HDb.out)
        have HC1 := hidK (fun q : Wd wr => (shas_any na nl nc n.zs v.n q.w (HTn.out.below (HW.out.trans (q.b.mono HW.out.size)))).mono (fun _ _ h => BoolB.no h HIn.out))
        go_wp2_with fail
        refine wp_region_wide (by kernel_rfl) (by kernel_rfl) ?_
        repeat (go_big_quiet_step (first | (go_at_call 58; exact Calls.wide (HC0.out _)) | (go_at_call 130; exact Calls.wide (HC1.out _)) | fail))
        refine wpQuiet_nil ?_
        rintro _ ⟨q2, rfl⟩
        have HB1 := upB HW q2.b
        have Ck := upK Gk q2.b
        have Cp := upK Gp q2.b
        have Cn := upK Gn q2.b
        clear hne0 HW HB HC0 HC1 k0 k1 k2 k3 k4 k5 p3 n6 tw vw Gk Gp Gn Bk Bp Bn pp hb hc hbv v0
        have HB := HB1
        clear HB1
        have Bk := Ck
        clear Ck
        have Bp := Cp
        clear Cp
        have Bn := Cn
        clear Cn
        go_wp2
        go_ret
        refine BoolB.f (fun h => ?_) HB.out
        obtain ⟨v2, e1, e2⟩ := h k t HXt.out
        obtain rfl := IsBd.inj HX.out HV.out HDb.out e1
        exact HIn.out e2
    · obtain rfl : pl = k := by omega
      go_wp2
      go_ret
      exact BoolB.t (fun j t ht => HQ.out j t (by have := (List.getElem?_eq_some_iff.1 ht).1; omega) ht) HB.out

end Rc
end Go.Proofs.YtfapjochclhfpaaGreatDoor
