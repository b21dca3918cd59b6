/-
  Whether what is bound is so on both sides, as the specification asks it.
-/
import Derived.Test.YtcljghpfclegmaaGreatDoorSp2
namespace Go.Proofs.YtcljghpfclegmaaGreatDoor
open Go.RowKit
namespace Rc
open Mk

def KHas (c : Cl) (t : ByteArray) : Prop := ∃ (i : Nat) (k : Kd), c.ks[i]? = some k ∧ k.n = t
def SV (c : Cl) (v : Vd) : Prop := KHas c v.k ∧ (v.m = ⟨#[]⟩ ∨ ∃ (i : Nat) (x : Xd), c.xs[i]? = some x ∧ x.n = v.m ∧ x.v = v.n)
def SX (c : Cl) (x : Xd) : Prop := KHas c x.k ∧ (x.v = ⟨#[]⟩ ∨ ∃ (j : Nat) (v : Vd), c.vs[j]? = some v ∧ v.n = x.v ∧ v.m = x.n ∧ x.z ≤ v.c ∧ v.k = x.k ∧ v.x = x.x)
def BoundS (c : Cl) : Prop := (∀ (j : Nat) z, c.vs[j]? = some z → SV c z) ∧ (∀ (j : Nat) z, c.xs[j]? = some z → SX c z)

set_option maxRecDepth 100000 in
set_option maxHeartbeats 12800000 in
theorem sbound_any (d : Ad) (c : Cl) (w : World) (hr : ClRow w d c.raw) (hks : RisBy Kd.n c.ks) (hxs : RisBy Xd.n c.xs) (hvs : RisBy Vd.n c.vs) :
    Calls Tryz.prog 56 #[.agg #[.slice d.a1 d.l1 d.c1, .slice d.a2 d.l2 d.c2, .slice d.a3 d.l3 d.c3, .slice d.a4 d.l4 d.c4, .slice d.a5 d.l5 d.c5, .int .i64 c.now]] w (BoolB (BoundS c) w) := by
  obtain ⟨a1, l1, y1, a2, l2, y2, a3, l3, y3, a4, l4, y4, a5, l5, y5⟩ := d
  dsimp only
  have HR := hidK hr
  have hl1 : c.ns.length = l1 := by simpa using (show (c.ns.map ndF).length = l1 from hr.n.1)
  have hm1 : l1 ≤ 9223372036854775807 := Nat.le_trans hr.n.2.1 hr.n.2.2.1
  have hl2 : c.ks.length = l2 := by simpa using (show (c.ks.map kdF).length = l2 from hr.k.1)
  have hm2 : l2 ≤ 9223372036854775807 := Nat.le_trans hr.k.2.1 hr.k.2.2.1
  have hl3 : c.vs.length = l3 := by simpa using (show (c.vs.map vdF).length = l3 from hr.v.1)
  have hm3 : l3 ≤ 9223372036854775807 := Nat.le_trans hr.v.2.1 hr.v.2.2.1
  have hl4 : c.xs.length = l4 := by simpa using (show (c.xs.map xdF).length = l4 from hr.x.1)
  have hm4 : l4 ≤ 9223372036854775807 := Nat.le_trans hr.x.2.1 hr.x.2.2.1
  have hl5 : c.ps.length = l5 := by simpa using (show (c.ps.map pdF).length = l5 from hr.p.1)
  have hm5 : l5 ≤ 9223372036854775807 := Nat.le_trans hr.p.2.1 hr.p.2.2.1
  clear hr
  have HKS := hidK hks
  have HXS := hidK hxs
  have HVS := hidK hvs
  clear hks hxs hvs
  go_enter Tryz.func56, Tryz.ntmps56
  go_wp2
  go_loopw [3] (fun i wr => ∃ k : Nat, k ≤ l3 ∧ i = .int .i64 k ∧ Hid (∀ (j : Nat) z, j < k → c.vs[j]? = some z → SV c z) ∧ Hid (Below w.heap.size w wr) ∧ Hid (wr.heap[w.heap.size]? = some (.cells #[.slice a1 l1 y1, .slice a2 l2 y2, .slice a3 l3 y3, .slice a4 l4 y4, .slice a5 l5 y5, .int .i64 c.now] 37 (0, 0)))) (fun i _ => l3 - (intOf i).toNat)
  case atStart => exact ⟨0, by omega, rfl, fun _ _ h => absurd h (by omega), below1 _ _, Array.getElem?_push_size⟩
  case round =>
    obtain ⟨k, hk, rfl, HQ, HB, Bk⟩ := hrel
    have pk : wr.cell? ⟨w.heap.size, 2, none⟩ = some (.slice a3 l3 y3) := cellK Bk.out 2
    by_cases hlt : k < l3
    · obtain ⟨b, o, v, rfl, hb, hx, hat⟩ := vd_at (HR.out.v.below HB.out) hlt
      obtain ⟨va, vl, vc, hvr, z0, z2, z3, z5, c0, c1, c2, c3, c4, c5, c6, c7⟩ := vd_cells hat
      have HXv := hidK hx
      have HTv := hidK hvr
      have HZv0 := hidK z0
      have HZv2 := hidK z2
      have HZv3 := hidK z3
      have HZv5 := hidK z5
      clear hat hx z0 z2 z3 z5 hvr
      have k0 : wr.cell? ⟨w.heap.size, 0, none⟩ = some (.slice a1 l1 y1) := cellK Bk.out 0
      have k1 : wr.cell? ⟨w.heap.size, 1, none⟩ = some (.slice a2 l2 y2) := cellK Bk.out 1
      have k2 : wr.cell? ⟨w.heap.size, 2, none⟩ = some (.slice (some ⟨b, o, none⟩) l3 y3) := cellK Bk.out 2
      have k3 : wr.cell? ⟨w.heap.size, 3, none⟩ = some (.slice a4 l4 y4) := cellK Bk.out 3
      have k4 : wr.cell? ⟨w.heap.size, 4, none⟩ = some (.slice a5 l5 y5) := cellK Bk.out 4
      have k5 : wr.cell? ⟨w.heap.size, 5, none⟩ = some (.int .i64 c.now) := cellK Bk.out 5
      have ltk_0 : w.heap.size < wr.heap.size := lt_of_some Bk.out
      go_wp2_with fail
      refine (sxxd_any ⟨a1, l1, y1, a2, l2, y2, (some ⟨b, o, none⟩), l3, y3, a4, l4, y4, a5, l5, y5⟩ c.now c.xs v.m _ (HR.out.x.below (HB.out.trans ((below1 _ _).mono HB.out.size)))).mono ?_
      rintro e w1 ⟨hb2, hf⟩
      clear k0 k1 k2 k3 k4 k5 ltk_0
      have hsz1 : (wr.alloc (.cells #[.string v.n, .int .i64 v.c, .string v.z, .string v.k, .bool v.x, .string v.m, .bool v.y, .slice va vl vc] 60)).heap.size = wr.heap.size + 1 := by simp
      have Ck := hidK ((hb2.block (w.heap.size) (by rw [hsz1]; have := lt_of_some Bk.out; omega)).trans ((Below.heap_alloc _ _ _ (lt_of_some Bk.out)).trans (Bk.out)))
      have Cr : Hid (w1.heap[wr.heap.size]? = some (.cells #[.string v.n, .int .i64 v.c, .string v.z, .string v.k, .bool v.x, .string v.m, .bool v.y, .slice va vl vc] 60 (0, 0))) := (hb2.block (wr.heap.size) (by rw [hsz1]; omega)).trans (Array.getElem?_push_size)
      have HB1 := hidK (HB.out.trans (((below1 _ _ : Below wr.heap.size wr (wr.alloc (.cells #[.string v.n, .int .i64 v.c, .string v.z, .string v.k, .bool v.x, .string v.m, .bool v.y, .slice va vl vc] 60))).trans (hb2.mono (by rw [hsz1]; omega))).mono HB.out.size))
      clear HB hb2 Bk hsz1
      have HB := HB1
      clear HB1
      have Bk := Ck
      clear Ck
      have Br := Cr
      clear Cr
      clear pk hb c0 c1 c2 c3 c4 c5 c6 c7
      by_cases hkh : KHas c v.k
      rotate_left
      · have HKH := hidK hkh
        clear hkh
        obtain ⟨r, hre⟩ : ∃ r : Int, e = .returned (.int .i64 r) := by rcases hf with ⟨j, y, _, _, h⟩ | ⟨_, h⟩ <;> exact ⟨_, h⟩
        subst hre
        clear hf
        have Gk : Hid (w1.heap[w.heap.size]? = some (.cells #[.slice a1 l1 y1, .slice a2 l2 y2, .slice (some ⟨b, o, none⟩) l3 y3, .slice a4 l4 y4, .slice a5 l5 y5, .int .i64 c.now] 37 (0, 0))) := Bk.out
        have Gr : Hid (w1.heap[wr.heap.size]? = some (.cells #[.string v.n, .int .i64 v.c, .string v.z, .string v.k, .bool v.x, .string v.m, .bool v.y, .slice va vl vc] 60 (0, 0))) := Br.out
        have HW := hidK HB.out
        have k0 : ∀ q : Wd w1, q.w.cell? ⟨w.heap.size, 0, none⟩ = some (.slice a1 l1 y1) := fun q => q.slot Gk.out rfl
        have k1 : ∀ q : Wd w1, q.w.cell? ⟨w.heap.size, 1, none⟩ = some (.slice a2 l2 y2) := fun q => q.slot Gk.out rfl
        have k2 : ∀ q : Wd w1, q.w.cell? ⟨w.heap.size, 2, none⟩ = some (.slice (some ⟨b, o, none⟩) l3 y3) := fun q => q.slot Gk.out rfl
        have k3 : ∀ q : Wd w1, q.w.cell? ⟨w.heap.size, 3, none⟩ = some (.slice a4 l4 y4) := fun q => q.slot Gk.out rfl
        have k4 : ∀ q : Wd w1, q.w.cell? ⟨w.heap.size, 4, none⟩ = some (.slice a5 l5 y5) := fun q => q.slot Gk.out rfl
        have k5 : ∀ q : Wd w1, q.w.cell? ⟨w.heap.size, 5, none⟩ = some (.int .i64 c.now) := fun q => q.slot Gk.out rfl
        have r0 : ∀ q : Wd w1, q.w.cell? ⟨wr.heap.size, 0, none⟩ = some (.string v.n) := fun q => q.slot Gr.out rfl
        have r1 : ∀ q : Wd w1, q.w.cell? ⟨wr.heap.size, 1, none⟩ = some (.int .i64 v.c) := fun q => q.slot Gr.out rfl
        have r2 : ∀ q : Wd w1, q.w.cell? ⟨wr.heap.size, 2, none⟩ = some (.string v.z) := fun q => q.slot Gr.out rfl
        have r3 : ∀ q : Wd w1, q.w.cell? ⟨wr.heap.size, 3, none⟩ = some (.string v.k) := fun q => q.slot Gr.out rfl
        have r4 : ∀ q : Wd w1, q.w.cell? ⟨wr.heap.size, 4, none⟩ = some (.bool v.x) := fun q => q.slot Gr.out rfl
        have r5 : ∀ q : Wd w1, q.w.cell? ⟨wr.heap.size, 5, none⟩ = some (.string v.m) := fun q => q.slot Gr.out rfl
        have r6 : ∀ q : Wd w1, q.w.cell? ⟨wr.heap.size, 6, none⟩ = some (.bool v.y) := fun q => q.slot Gr.out rfl
        have r7 : ∀ q : Wd w1, q.w.cell? ⟨wr.heap.size, 7, none⟩ = some (.slice va vl vc) := fun q => q.slot Gr.out rfl
        have hne0 := Wd.ne w1
        have HC0 := hidK (fun q : Wd w1 => sxkd_miss ⟨a1, l1, y1, a2, l2, y2, (some ⟨b, o, none⟩), l3, y3, a4, l4, y4, a5, l5, y5⟩ c.now c.ks v.k q.w (HR.out.k.below (HW.out.trans (q.b.mono HW.out.size))) (fun j y h1 h2 => HKH.out ⟨j, y, h1, h2⟩))
        go_wp2_with fail
        refine wp_region_wide (by kernel_rfl) (by kernel_rfl) ?_
        repeat (go_big_quiet_step (first | (go_at_call 94; exact Calls.wide (HC0.out _)) | fail))
        refine wpQuiet_nil ?_
        rintro _ ⟨q1, rfl⟩
        have HB2 := hidK (HW.out.trans (q1.b.mono HW.out.size))
        have Ck := hidK ((q1.b.block _ (lt_of_some Gk.out)).trans Gk.out)
        have Cr := hidK ((q1.b.block _ (lt_of_some Gr.out)).trans Gr.out)
        clear hne0 HW HB HC0 k0 k1 k2 k3 k4 k5 r0 r1 r2 r3 r4 r5 r6 r7 Gk Gr Bk Br
        have HB := HB2
        clear HB2
        have Bk := Ck
        clear Ck
        have Br := Cr
        clear Cr
        go_wp2
        go_ret
        exact BoolB.f (fun h => HKH.out (h.1 k v HXv.out).1) HB.out
      obtain ⟨i2, kd2, g1, g2⟩ := hkh
      have HG1 := hidK g1
      have HG2 := hidK g2
      have hi20 : ¬ ((i2 : Int) < 0) := by omega
      have hi21 : decide ((i2 : Int) < 0) = false := by simp
      clear g1 g2
      by_cases he : v.m = ⟨#[]⟩
      · have hq := isE_y he
        have HEm := hidK he
        clear he
        obtain ⟨r, hre⟩ : ∃ r : Int, e = .returned (.int .i64 r) := by rcases hf with ⟨j, y, _, _, h⟩ | ⟨_, h⟩ <;> exact ⟨_, h⟩
        subst hre
        clear hf
        have Gk : Hid (w1.heap[w.heap.size]? = some (.cells #[.slice a1 l1 y1, .slice a2 l2 y2, .slice (some ⟨b, o, none⟩) l3 y3, .slice a4 l4 y4, .slice a5 l5 y5, .int .i64 c.now] 37 (0, 0))) := Bk.out
        have Gr : Hid (w1.heap[wr.heap.size]? = some (.cells #[.string v.n, .int .i64 v.c, .string v.z, .string v.k, .bool v.x, .string v.m, .bool v.y, .slice va vl vc] 60 (0, 0))) := Br.out
        have HW := hidK HB.out
        have k0 : ∀ q : Wd w1, q.w.cell? ⟨w.heap.size, 0, none⟩ = some (.slice a1 l1 y1) := fun q => q.slot Gk.out rfl
        have k1 : ∀ q : Wd w1, q.w.cell? ⟨w.heap.size, 1, none⟩ = some (.slice a2 l2 y2) := fun q => q.slot Gk.out rfl
        have k2 : ∀ q : Wd w1, q.w.cell? ⟨w.heap.size, 2, none⟩ = some (.slice (some ⟨b, o, none⟩) l3 y3) := fun q => q.slot Gk.out rfl
        have k3 : ∀ q : Wd w1, q.w.cell? ⟨w.heap.size, 3, none⟩ = some (.slice a4 l4 y4) := fun q => q.slot Gk.out rfl
        have k4 : ∀ q : Wd w1, q.w.cell? ⟨w.heap.size, 4, none⟩ = some (.slice a5 l5 y5) := fun q => q.slot Gk.out rfl
        have k5 : ∀ q : Wd w1, q.w.cell? ⟨w.heap.size, 5, none⟩ = some (.int .i64 c.now) := fun q => q.slot Gk.out rfl
        have r0 : ∀ q : Wd w1, q.w.cell? ⟨wr.heap.size, 0, none⟩ = some (.string v.n) := fun q => q.slot Gr.out rfl
        have r1 : ∀ q : Wd w1, q.w.cell? ⟨wr.heap.size, 1, none⟩ = some (.int .i64 v.c) := fun q => q.slot Gr.out rfl
        have r2 : ∀ q : Wd w1, q.w.cell? ⟨wr.heap.size, 2, none⟩ = some (.string v.z) := fun q => q.slot Gr.out rfl
        have r3 : ∀ q : Wd w1, q.w.cell? ⟨wr.heap.size, 3, none⟩ = some (.string v.k) := fun q => q.slot Gr.out rfl
        have r4 : ∀ q : Wd w1, q.w.cell? ⟨wr.heap.size, 4, none⟩ = some (.bool v.x) := fun q => q.slot Gr.out rfl
        have r5 : ∀ q : Wd w1, q.w.cell? ⟨wr.heap.size, 5, none⟩ = some (.string v.m) := fun q => q.slot Gr.out rfl
        have r6 : ∀ q : Wd w1, q.w.cell? ⟨wr.heap.size, 6, none⟩ = some (.bool v.y) := fun q => q.slot Gr.out rfl
        have r7 : ∀ q : Wd w1, q.w.cell? ⟨wr.heap.size, 7, none⟩ = some (.slice va vl vc) := fun q => q.slot Gr.out rfl
        have hne0 := Wd.ne w1
        have HC0 := hidK (fun q : Wd w1 => sxkd_hit ⟨a1, l1, y1, a2, l2, y2, (some ⟨b, o, none⟩), l3, y3, a4, l4, y4, a5, l5, y5⟩ c.now c.ks v.k q.w (HR.out.k.below (HW.out.trans (q.b.mono HW.out.size))) HKS.out HG1.out HG2.out)
        go_wp2_with fail
        refine wp_region_wide (by kernel_rfl) (by kernel_rfl) ?_
        repeat (go_big_quiet_step (first | (go_at_call 94; exact Calls.wide (HC0.out _)) | fail))
        refine wpQuiet_nil ?_
        rintro _ ⟨q1, rfl⟩
        have HB2 := hidK (HW.out.trans (q1.b.mono HW.out.size))
        have Ck := hidK ((q1.b.block _ (lt_of_some Gk.out)).trans Gk.out)
        have Cr := hidK ((q1.b.block _ (lt_of_some Gr.out)).trans Gr.out)
        clear hne0 HW HB HC0 k0 k1 k2 k3 k4 k5 r0 r1 r2 r3 r4 r5 r6 r7 Gk Gr Bk Br
        have HB := HB2
        clear HB2
        have Bk := Ck
        clear Ck
        have Br := Cr
        clear Cr
        go_wp2_with fail
        refine ⟨⟨k + 1, by omega, by go_num, fun j z hj hz => ?_, HB.out, Bk.out⟩, by simp [intOf]; omega⟩
        by_cases e : j = k
        · subst e
          rw [HXv.out] at hz
          obtain rfl := Option.some.inj hz
          exact ⟨⟨i2, kd2, HG1.out, HG2.out⟩, .inl HEm.out⟩
        · exact HQ.out j z (by omega) hz
      have hq := isE_no he
      have HEm := hidK he
      clear he
      rcases hf with ⟨j4, y, h1, h2, rfl⟩ | ⟨hh, rfl⟩
      rotate_left
      · have HH := hidK hh
        clear hh
        have Gk : Hid (w1.heap[w.heap.size]? = some (.cells #[.slice a1 l1 y1, .slice a2 l2 y2, .slice (some ⟨b, o, none⟩) l3 y3, .slice a4 l4 y4, .slice a5 l5 y5, .int .i64 c.now] 37 (0, 0))) := Bk.out
        have Gr : Hid (w1.heap[wr.heap.size]? = some (.cells #[.string v.n, .int .i64 v.c, .string v.z, .string v.k, .bool v.x, .string v.m, .bool v.y, .slice va vl vc] 60 (0, 0))) := Br.out
        have HW := hidK HB.out
        have k0 : ∀ q : Wd w1, q.w.cell? ⟨w.heap.size, 0, none⟩ = some (.slice a1 l1 y1) := fun q => q.slot Gk.out rfl
        have k1 : ∀ q : Wd w1, q.w.cell? ⟨w.heap.size, 1, none⟩ = some (.slice a2 l2 y2) := fun q => q.slot Gk.out rfl
        have k2 : ∀ q : Wd w1, q.w.cell? ⟨w.heap.size, 2, none⟩ = some (.slice (some ⟨b, o, none⟩) l3 y3) := fun q => q.slot Gk.out rfl
        have k3 : ∀ q : Wd w1, q.w.cell? ⟨w.heap.size, 3, none⟩ = some (.slice a4 l4 y4) := fun q => q.slot Gk.out rfl
        have k4 : ∀ q : Wd w1, q.w.cell? ⟨w.heap.size, 4, none⟩ = some (.slice a5 l5 y5) := fun q => q.slot Gk.out rfl
        have k5 : ∀ q : Wd w1, q.w.cell? ⟨w.heap.size, 5, none⟩ = some (.int .i64 c.now) := fun q => q.slot Gk.out rfl
        have r0 : ∀ q : Wd w1, q.w.cell? ⟨wr.heap.size, 0, none⟩ = some (.string v.n) := fun q => q.slot Gr.out rfl
        have r1 : ∀ q : Wd w1, q.w.cell? ⟨wr.heap.size, 1, none⟩ = some (.int .i64 v.c) := fun q => q.slot Gr.out rfl
        have r2 : ∀ q : Wd w1, q.w.cell? ⟨wr.heap.size, 2, none⟩ = some (.string v.z) := fun q => q.slot Gr.out rfl
        have r3 : ∀ q : Wd w1, q.w.cell? ⟨wr.heap.size, 3, none⟩ = some (.string v.k) := fun q => q.slot Gr.out rfl
        have r4 : ∀ q : Wd w1, q.w.cell? ⟨wr.heap.size, 4, none⟩ = some (.bool v.x) := fun q => q.slot Gr.out rfl
        have r5 : ∀ q : Wd w1, q.w.cell? ⟨wr.heap.size, 5, none⟩ = some (.string v.m) := fun q => q.slot Gr.out rfl
        have r6 : ∀ q : Wd w1, q.w.cell? ⟨wr.heap.size, 6, none⟩ = some (.bool v.y) := fun q => q.slot Gr.out rfl
        have r7 : ∀ q : Wd w1, q.w.cell? ⟨wr.heap.size, 7, none⟩ = some (.slice va vl vc) := fun q => q.slot Gr.out rfl
        have hne0 := Wd.ne w1
        have HC0 := hidK (fun q : Wd w1 => sxkd_hit ⟨a1, l1, y1, a2, l2, y2, (some ⟨b, o, none⟩), l3, y3, a4, l4, y4, a5, l5, y5⟩ c.now c.ks v.k q.w (HR.out.k.below (HW.out.trans (q.b.mono HW.out.size))) HKS.out HG1.out HG2.out)
        go_wp2_with fail
        refine wp_region_wide (by kernel_rfl) (by kernel_rfl) ?_
        repeat (go_big_quiet_step (first | (go_at_call 94; exact Calls.wide (HC0.out _)) | fail))
        refine wpQuiet_nil ?_
        rintro _ ⟨q1, rfl⟩
        have HB2 := hidK (HW.out.trans (q1.b.mono HW.out.size))
        have Ck := hidK ((q1.b.block _ (lt_of_some Gk.out)).trans Gk.out)
        have Cr := hidK ((q1.b.block _ (lt_of_some Gr.out)).trans Gr.out)
        clear hne0 HW HB HC0 k0 k1 k2 k3 k4 k5 r0 r1 r2 r3 r4 r5 r6 r7 Gk Gr Bk Br
        have HB := HB2
        clear HB2
        have Bk := Ck
        clear Ck
        have Br := Cr
        clear Cr
        go_wp2
        go_ret
        refine BoolB.f (fun h => ?_) HB.out
        rcases (h.1 k v HXv.out).2 with h2 | ⟨i, y, h2, h3, _⟩
        · exact HEm.out h2
        · exact HH.out i y h2 h3
      have hl4' : j4 < l4 := by have h3 := (List.getElem?_eq_some_iff.1 h1).1; omega
      obtain ⟨b4, o4, y', rfl, hb4, hy', hat⟩ := xd_at HR.out.x hl4'
      rw [h1] at hy'
      obtain rfl := Option.some.inj hy'
      obtain ⟨z0, z2, z4, c0, c1, c2, c3, c4⟩ := xd_cells hat
      have HJ := hidK h1
      have HN := hidK h2
      have hcv := (cell_below HB.out hb4).trans c4
      have hbv : b4 < w1.heap.size := Nat.lt_of_lt_of_le hb4 HB.out.size
      have hj0 : ¬ ((j4 : Int) < 0) := by omega
      have hj1 : decide ((j4 : Int) < 0) = false := by simp
      clear hy' hat z0 z2 z4 c0 c1 c2 c3 c4 h1 h2
      by_cases hvn : y.v = v.n
      · have hq2 := tl_yes hvn
        have HVN := hidK hvn
        clear hvn
        have Gk : Hid (w1.heap[w.heap.size]? = some (.cells #[.slice a1 l1 y1, .slice a2 l2 y2, .slice (some ⟨b, o, none⟩) l3 y3, .slice (some ⟨b4, o4, none⟩) l4 y4, .slice a5 l5 y5, .int .i64 c.now] 37 (0, 0))) := Bk.out
        have Gr : Hid (w1.heap[wr.heap.size]? = some (.cells #[.string v.n, .int .i64 v.c, .string v.z, .string v.k, .bool v.x, .string v.m, .bool v.y, .slice va vl vc] 60 (0, 0))) := Br.out
        have HW := hidK HB.out
        have k0 : ∀ q : Wd w1, q.w.cell? ⟨w.heap.size, 0, none⟩ = some (.slice a1 l1 y1) := fun q => q.slot Gk.out rfl
        have k1 : ∀ q : Wd w1, q.w.cell? ⟨w.heap.size, 1, none⟩ = some (.slice a2 l2 y2) := fun q => q.slot Gk.out rfl
        have k2 : ∀ q : Wd w1, q.w.cell? ⟨w.heap.size, 2, none⟩ = some (.slice (some ⟨b, o, none⟩) l3 y3) := fun q => q.slot Gk.out rfl
        have k3 : ∀ q : Wd w1, q.w.cell? ⟨w.heap.size, 3, none⟩ = some (.slice (some ⟨b4, o4, none⟩) l4 y4) := fun q => q.slot Gk.out rfl
        have k4 : ∀ q : Wd w1, q.w.cell? ⟨w.heap.size, 4, none⟩ = some (.slice a5 l5 y5) := fun q => q.slot Gk.out rfl
        have k5 : ∀ q : Wd w1, q.w.cell? ⟨w.heap.size, 5, none⟩ = some (.int .i64 c.now) := fun q => q.slot Gk.out rfl
        have r0 : ∀ q : Wd w1, q.w.cell? ⟨wr.heap.size, 0, none⟩ = some (.string v.n) := fun q => q.slot Gr.out rfl
        have r1 : ∀ q : Wd w1, q.w.cell? ⟨wr.heap.size, 1, none⟩ = some (.int .i64 v.c) := fun q => q.slot Gr.out rfl
        have r2 : ∀ q : Wd w1, q.w.cell? ⟨wr.heap.size, 2, none⟩ = some (.string v.z) := fun q => q.slot Gr.out rfl
        have r3 : ∀ q : Wd w1, q.w.cell? ⟨wr.heap.size, 3, none⟩ = some (.string v.k) := fun q => q.slot Gr.out rfl
        have r4 : ∀ q : Wd w1, q.w.cell? ⟨wr.heap.size, 4, none⟩ = some (.bool v.x) := fun q => q.slot Gr.out rfl
        have r5 : ∀ q : Wd w1, q.w.cell? ⟨wr.heap.size, 5, none⟩ = some (.string v.m) := fun q => q.slot Gr.out rfl
        have r6 : ∀ q : Wd w1, q.w.cell? ⟨wr.heap.size, 6, none⟩ = some (.bool v.y) := fun q => q.slot Gr.out rfl
        have r7 : ∀ q : Wd w1, q.w.cell? ⟨wr.heap.size, 7, none⟩ = some (.slice va vl vc) := fun q => q.slot Gr.out rfl
        have yw : ∀ q : Wd w1, q.w.cell? ⟨b4, o4 + j4 * 5 + 4, none⟩ = some (.string y.v) := fun q => (q.cell (hbv)).trans (hcv)
        have hne0 := Wd.ne w1
        have HC0 := hidK (fun q : Wd w1 => sxkd_hit ⟨a1, l1, y1, a2, l2, y2, (some ⟨b, o, none⟩), l3, y3, (some ⟨b4, o4, none⟩), l4, y4, a5, l5, y5⟩ c.now c.ks v.k q.w (HR.out.k.below (HW.out.trans (q.b.mono HW.out.size))) HKS.out HG1.out HG2.out)
        go_wp2_with fail
        refine wp_region_wide (by kernel_rfl) (by kernel_rfl) ?_
        repeat (go_big_quiet_step (first | (go_at_call 94; exact Calls.wide (HC0.out _)) | fail))
        refine wpQuiet_nil ?_
        rintro _ ⟨q1, rfl⟩
        have HB2 := hidK (HW.out.trans (q1.b.mono HW.out.size))
        have Ck := hidK ((q1.b.block _ (lt_of_some Gk.out)).trans Gk.out)
        have Cr := hidK ((q1.b.block _ (lt_of_some Gr.out)).trans Gr.out)
        clear hne0 HW HB HC0 k0 k1 k2 k3 k4 k5 r0 r1 r2 r3 r4 r5 r6 r7 yw Gk Gr Bk Br hcv hbv
        have HB := HB2
        clear HB2
        have Bk := Ck
        clear Ck
        have Br := Cr
        clear Cr
        go_wp2_with fail
        refine ⟨⟨k + 1, by omega, by go_num, fun j z hj hz => ?_, HB.out, Bk.out⟩, by simp [intOf]; omega⟩
        by_cases e : j = k
        · subst e
          rw [HXv.out] at hz
          obtain rfl := Option.some.inj hz
          exact ⟨⟨i2, kd2, HG1.out, HG2.out⟩, .inr ⟨j4, y, HJ.out, HN.out, HVN.out⟩⟩
        · exact HQ.out j z (by omega) hz
      · have hq2 := tl_no hvn
        have HVN := hidK hvn
        clear hvn
        have Gk : Hid (w1.heap[w.heap.size]? = some (.cells #[.slice a1 l1 y1, .slice a2 l2 y2, .slice (some ⟨b, o, none⟩) l3 y3, .slice (some ⟨b4, o4, none⟩) l4 y4, .slice a5 l5 y5, .int .i64 c.now] 37 (0, 0))) := Bk.out
        have Gr : Hid (w1.heap[wr.heap.size]? = some (.cells #[.string v.n, .int .i64 v.c, .string v.z, .string v.k, .bool v.x, .string v.m, .bool v.y, .slice va vl vc] 60 (0, 0))) := Br.out
        have HW := hidK HB.out
        have k0 : ∀ q : Wd w1, q.w.cell? ⟨w.heap.size, 0, none⟩ = some (.slice a1 l1 y1) := fun q => q.slot Gk.out rfl
        have k1 : ∀ q : Wd w1, q.w.cell? ⟨w.heap.size, 1, none⟩ = some (.slice a2 l2 y2) := fun q => q.slot Gk.out rfl
        have k2 : ∀ q : Wd w1, q.w.cell? ⟨w.heap.size, 2, none⟩ = some (.slice (some ⟨b, o, none⟩) l3 y3) := fun q => q.slot Gk.out rfl
        have k3 : ∀ q : Wd w1, q.w.cell? ⟨w.heap.size, 3, none⟩ = some (.slice (some ⟨b4, o4, none⟩) l4 y4) := fun q => q.slot Gk.out rfl
        have k4 : ∀ q : Wd w1, q.w.cell? ⟨w.heap.size, 4, none⟩ = some (.slice a5 l5 y5) := fun q => q.slot Gk.out rfl
        have k5 : ∀ q : Wd w1, q.w.cell? ⟨w.heap.size, 5, none⟩ = some (.int .i64 c.now) := fun q => q.slot Gk.out rfl
        have r0 : ∀ q : Wd w1, q.w.cell? ⟨wr.heap.size, 0, none⟩ = some (.string v.n) := fun q => q.slot Gr.out rfl
        have r1 : ∀ q : Wd w1, q.w.cell? ⟨wr.heap.size, 1, none⟩ = some (.int .i64 v.c) := fun q => q.slot Gr.out rfl
        have r2 : ∀ q : Wd w1, q.w.cell? ⟨wr.heap.size, 2, none⟩ = some (.string v.z) := fun q => q.slot Gr.out rfl
        have r3 : ∀ q : Wd w1, q.w.cell? ⟨wr.heap.size, 3, none⟩ = some (.string v.k) := fun q => q.slot Gr.out rfl
        have r4 : ∀ q : Wd w1, q.w.cell? ⟨wr.heap.size, 4, none⟩ = some (.bool v.x) := fun q => q.slot Gr.out rfl
        have r5 : ∀ q : Wd w1, q.w.cell? ⟨wr.heap.size, 5, none⟩ = some (.string v.m) := fun q => q.slot Gr.out rfl
        have r6 : ∀ q : Wd w1, q.w.cell? ⟨wr.heap.size, 6, none⟩ = some (.bool v.y) := fun q => q.slot Gr.out rfl
        have r7 : ∀ q : Wd w1, q.w.cell? ⟨wr.heap.size, 7, none⟩ = some (.slice va vl vc) := fun q => q.slot Gr.out rfl
        have yw : ∀ q : Wd w1, q.w.cell? ⟨b4, o4 + j4 * 5 + 4, none⟩ = some (.string y.v) := fun q => (q.cell (hbv)).trans (hcv)
        have hne0 := Wd.ne w1
        have HC0 := hidK (fun q : Wd w1 => sxkd_hit ⟨a1, l1, y1, a2, l2, y2, (some ⟨b, o, none⟩), l3, y3, (some ⟨b4, o4, none⟩), l4, y4, a5, l5, y5⟩ c.now c.ks v.k q.w (HR.out.k.below (HW.out.trans (q.b.mono HW.out.size))) HKS.out HG1.out HG2.out)
        go_wp2_with fail
        refine wp_region_wide (by kernel_rfl) (by kernel_rfl) ?_
        repeat (go_big_quiet_step (first | (go_at_call 94; exact Calls.wide (HC0.out _)) | fail))
        refine wpQuiet_nil ?_
        rintro _ ⟨q1, rfl⟩
        have HB2 := hidK (HW.out.trans (q1.b.mono HW.out.size))
        have Ck := hidK ((q1.b.block _ (lt_of_some Gk.out)).trans Gk.out)
        have Cr := hidK ((q1.b.block _ (lt_of_some Gr.out)).trans Gr.out)
        clear hne0 HW HB HC0 k0 k1 k2 k3 k4 k5 r0 r1 r2 r3 r4 r5 r6 r7 yw Gk Gr Bk Br hcv hbv
        have HB := HB2
        clear HB2
        have Bk := Ck
        clear Ck
        have Br := Cr
        clear Cr
        go_wp2
        go_ret
        refine BoolB.f (fun h => ?_) HB.out
        rcases (h.1 k v HXv.out).2 with h2 | ⟨i, y2, h2, h3, h4⟩
        · exact HEm.out h2
        · obtain ⟨_, rfl⟩ := HXS.out.inj h2 HJ.out (h3.trans HN.out.symm)
          exact HVN.out h4
    · obtain rfl : l3 = k := by omega
      have HQ1 : Hid (∀ (j : Nat) z, c.vs[j]? = some z → SV c z) := fun j z hz => HQ.out j z (by have := (List.getElem?_eq_some_iff.1 hz).1; omega) hz
      clear HQ
      have kc : wr.cell? ⟨w.heap.size, 3, none⟩ = some (.slice a4 l4 y4) := cellK Bk.out 3
      go_wp2
      go_loopw [6] (fun i wr => ∃ k : Nat, k ≤ l4 ∧ i = .int .i64 k ∧ Hid (∀ (j : Nat) z, j < k → c.xs[j]? = some z → SX c z) ∧ Hid (Below w.heap.size w wr) ∧ Hid (wr.heap[w.heap.size]? = some (.cells #[.slice a1 l1 y1, .slice a2 l2 y2, .slice a3 l3 y3, .slice a4 l4 y4, .slice a5 l5 y5, .int .i64 c.now] 37 (0, 0)))) (fun i _ => l4 - (intOf i).toNat)
      case atStart => exact ⟨0, by omega, rfl, fun _ _ h => absurd h (by omega), HB.out, Bk.out⟩
      case round =>
        obtain ⟨k, hk, rfl, HQ, HB, Bk⟩ := hrel
        have pk : wr.cell? ⟨w.heap.size, 3, none⟩ = some (.slice a4 l4 y4) := cellK Bk.out 3
        by_cases hlt : k < l4
        · obtain ⟨b, o, x, rfl, hb, hx, hat⟩ := xd_at (HR.out.x.below HB.out) hlt
          obtain ⟨z0, z2, z4, c0, c1, c2, c3, c4⟩ := xd_cells hat
          have HXx := hidK hx
          have HZx0 := hidK z0
          have HZx2 := hidK z2
          have HZx4 := hidK z4
          clear hat hx z0 z2 z4
          have k0 : wr.cell? ⟨w.heap.size, 0, none⟩ = some (.slice a1 l1 y1) := cellK Bk.out 0
          have k1 : wr.cell? ⟨w.heap.size, 1, none⟩ = some (.slice a2 l2 y2) := cellK Bk.out 1
          have k2 : wr.cell? ⟨w.heap.size, 2, none⟩ = some (.slice a3 l3 y3) := cellK Bk.out 2
          have k3 : wr.cell? ⟨w.heap.size, 3, none⟩ = some (.slice (some ⟨b, o, none⟩) l4 y4) := cellK Bk.out 3
          have k4 : wr.cell? ⟨w.heap.size, 4, none⟩ = some (.slice a5 l5 y5) := cellK Bk.out 4
          have k5 : wr.cell? ⟨w.heap.size, 5, none⟩ = some (.int .i64 c.now) := cellK Bk.out 5
          have ltk_0 : w.heap.size < wr.heap.size := lt_of_some Bk.out
          go_wp2_with fail
          refine (sxvd_any ⟨a1, l1, y1, a2, l2, y2, a3, l3, y3, (some ⟨b, o, none⟩), l4, y4, a5, l5, y5⟩ c.now c.vs x.v _ (HR.out.v.below (HB.out.trans ((below1 _ _).mono HB.out.size)))).mono ?_
          rintro e w1 ⟨hb2, hf⟩
          clear k0 k1 k2 k3 k4 k5 ltk_0
          have hsz1 : (wr.alloc (.cells #[.string x.n, .int .i64 x.z, .string x.k, .bool x.x, .string x.v] 69)).heap.size = wr.heap.size + 1 := by simp
          have Ck := hidK ((hb2.block (w.heap.size) (by rw [hsz1]; have := lt_of_some Bk.out; omega)).trans ((Below.heap_alloc _ _ _ (lt_of_some Bk.out)).trans (Bk.out)))
          have Cr : Hid (w1.heap[wr.heap.size]? = some (.cells #[.string x.n, .int .i64 x.z, .string x.k, .bool x.x, .string x.v] 69 (0, 0))) := (hb2.block (wr.heap.size) (by rw [hsz1]; omega)).trans (Array.getElem?_push_size)
          have HB1 := hidK (HB.out.trans (((below1 _ _ : Below wr.heap.size wr (wr.alloc (.cells #[.string x.n, .int .i64 x.z, .string x.k, .bool x.x, .string x.v] 69))).trans (hb2.mono (by rw [hsz1]; omega))).mono HB.out.size))
          clear HB hb2 Bk hsz1
          have HB := HB1
          clear HB1
          have Bk := Ck
          clear Ck
          have Br := Cr
          clear Cr
          clear pk hb c0 c1 c2 c3 c4
          by_cases hkh : KHas c x.k
          rotate_left
          · have HKH := hidK hkh
            clear hkh
            obtain ⟨r, hre⟩ : ∃ r : Int, e = .returned (.int .i64 r) := by rcases hf with ⟨j, y, _, _, h⟩ | ⟨_, h⟩ <;> exact ⟨_, h⟩
            subst hre
            clear hf
            have k0 : w1.cell? ⟨w.heap.size, 0, none⟩ = some (.slice a1 l1 y1) := cellK Bk.out 0
            have k1 : w1.cell? ⟨w.heap.size, 1, none⟩ = some (.slice a2 l2 y2) := cellK Bk.out 1
            have k2 : w1.cell? ⟨w.heap.size, 2, none⟩ = some (.slice a3 l3 y3) := cellK Bk.out 2
            have k3 : w1.cell? ⟨w.heap.size, 3, none⟩ = some (.slice (some ⟨b, o, none⟩) l4 y4) := cellK Bk.out 3
            have k4 : w1.cell? ⟨w.heap.size, 4, none⟩ = some (.slice a5 l5 y5) := cellK Bk.out 4
            have k5 : w1.cell? ⟨w.heap.size, 5, none⟩ = some (.int .i64 c.now) := cellK Bk.out 5
            have ltk_1 : w.heap.size < w1.heap.size := lt_of_some Bk.out
            have r0 : w1.cell? ⟨wr.heap.size, 0, none⟩ = some (.string x.n) := cellK Br.out 0
            have r1 : w1.cell? ⟨wr.heap.size, 1, none⟩ = some (.int .i64 x.z) := cellK Br.out 1
            have r2 : w1.cell? ⟨wr.heap.size, 2, none⟩ = some (.string x.k) := cellK Br.out 2
            have r3 : w1.cell? ⟨wr.heap.size, 3, none⟩ = some (.bool x.x) := cellK Br.out 3
            have r4 : w1.cell? ⟨wr.heap.size, 4, none⟩ = some (.string x.v) := cellK Br.out 4
            have ltr_1 : wr.heap.size < w1.heap.size := lt_of_some Br.out
            go_wp2_with fail
            refine (sxkd_miss ⟨a1, l1, y1, a2, l2, y2, a3, l3, y3, (some ⟨b, o, none⟩), l4, y4, a5, l5, y5⟩ c.now c.ks x.k _ (HR.out.k.below HB.out) (fun j y h1 h2 => HKH.out ⟨j, y, h1, h2⟩)).mono ?_
            rintro e w2 ⟨rfl, hb3⟩
            clear k0 k1 k2 k3 k4 k5 ltk_1 r0 r1 r2 r3 r4 ltr_1
            have Ck := hidK ((hb3.block (w.heap.size) (by have := lt_of_some Bk.out; omega)).trans (Bk.out))
            have Cr := hidK ((hb3.block (wr.heap.size) (by have := lt_of_some Br.out; omega)).trans (Br.out))
            have HB2 := hidK (HB.out.trans (hb3.mono HB.out.size))
            clear HB hb3 Bk Br
            have HB := HB2
            clear HB2
            have Bk := Ck
            clear Ck
            have Br := Cr
            clear Cr
            go_wp2
            go_ret
            exact BoolB.f (fun h => HKH.out (h.2 k x HXx.out).1) HB.out
          obtain ⟨i2, kd2, g1, g2⟩ := hkh
          have HG1 := hidK g1
          have HG2 := hidK g2
          have hi20 : ¬ ((i2 : Int) < 0) := by omega
          have hi21 : decide ((i2 : Int) < 0) = false := by simp
          clear g1 g2
          by_cases he : x.v = ⟨#[]⟩
          · have hq := isE_y he
            have HEm := hidK he
            clear he
            obtain ⟨r, hre⟩ : ∃ r : Int, e = .returned (.int .i64 r) := by rcases hf with ⟨j, y, _, _, h⟩ | ⟨_, h⟩ <;> exact ⟨_, h⟩
            subst hre
            clear hf
            have k0 : w1.cell? ⟨w.heap.size, 0, none⟩ = some (.slice a1 l1 y1) := cellK Bk.out 0
            have k1 : w1.cell? ⟨w.heap.size, 1, none⟩ = some (.slice a2 l2 y2) := cellK Bk.out 1
            have k2 : w1.cell? ⟨w.heap.size, 2, none⟩ = some (.slice a3 l3 y3) := cellK Bk.out 2
            have k3 : w1.cell? ⟨w.heap.size, 3, none⟩ = some (.slice (some ⟨b, o, none⟩) l4 y4) := cellK Bk.out 3
            have k4 : w1.cell? ⟨w.heap.size, 4, none⟩ = some (.slice a5 l5 y5) := cellK Bk.out 4
            have k5 : w1.cell? ⟨w.heap.size, 5, none⟩ = some (.int .i64 c.now) := cellK Bk.out 5
            have ltk_1 : w.heap.size < w1.heap.size := lt_of_some Bk.out
            have r0 : w1.cell? ⟨wr.heap.size, 0, none⟩ = some (.string x.n) := cellK Br.out 0
            have r1 : w1.cell? ⟨wr.heap.size, 1, none⟩ = some (.int .i64 x.z) := cellK Br.out 1
            have r2 : w1.cell? ⟨wr.heap.size, 2, none⟩ = some (.string x.k) := cellK Br.out 2
            have r3 : w1.cell? ⟨wr.heap.size, 3, none⟩ = some (.bool x.x) := cellK Br.out 3
            have r4 : w1.cell? ⟨wr.heap.size, 4, none⟩ = some (.string x.v) := cellK Br.out 4
            have ltr_1 : wr.heap.size < w1.heap.size := lt_of_some Br.out
            go_wp2_with fail
            refine (sxkd_hit ⟨a1, l1, y1, a2, l2, y2, a3, l3, y3, (some ⟨b, o, none⟩), l4, y4, a5, l5, y5⟩ c.now c.ks x.k _ (HR.out.k.below HB.out) HKS.out HG1.out HG2.out).mono ?_
            rintro e w2 ⟨rfl, hb3⟩
            clear k0 k1 k2 k3 k4 k5 ltk_1 r0 r1 r2 r3 r4 ltr_1
            have Ck := hidK ((hb3.block (w.heap.size) (by have := lt_of_some Bk.out; omega)).trans (Bk.out))
            have Cr := hidK ((hb3.block (wr.heap.size) (by have := lt_of_some Br.out; omega)).trans (Br.out))
            have HB2 := hidK (HB.out.trans (hb3.mono HB.out.size))
            clear HB hb3 Bk Br
            have HB := HB2
            clear HB2
            have Bk := Ck
            clear Ck
            have Br := Cr
            clear Cr
            have k0 : w2.cell? ⟨w.heap.size, 0, none⟩ = some (.slice a1 l1 y1) := cellK Bk.out 0
            have k1 : w2.cell? ⟨w.heap.size, 1, none⟩ = some (.slice a2 l2 y2) := cellK Bk.out 1
            have k2 : w2.cell? ⟨w.heap.size, 2, none⟩ = some (.slice a3 l3 y3) := cellK Bk.out 2
            have k3 : w2.cell? ⟨w.heap.size, 3, none⟩ = some (.slice (some ⟨b, o, none⟩) l4 y4) := cellK Bk.out 3
            have k4 : w2.cell? ⟨w.heap.size, 4, none⟩ = some (.slice a5 l5 y5) := cellK Bk.out 4
            have k5 : w2.cell? ⟨w.heap.size, 5, none⟩ = some (.int .i64 c.now) := cellK Bk.out 5
            have ltk_2 : w.heap.size < w2.heap.size := lt_of_some Bk.out
            have r0 : w2.cell? ⟨wr.heap.size, 0, none⟩ = some (.string x.n) := cellK Br.out 0
            have r1 : w2.cell? ⟨wr.heap.size, 1, none⟩ = some (.int .i64 x.z) := cellK Br.out 1
            have r2 : w2.cell? ⟨wr.heap.size, 2, none⟩ = some (.string x.k) := cellK Br.out 2
            have r3 : w2.cell? ⟨wr.heap.size, 3, none⟩ = some (.bool x.x) := cellK Br.out 3
            have r4 : w2.cell? ⟨wr.heap.size, 4, none⟩ = some (.string x.v) := cellK Br.out 4
            have ltr_2 : wr.heap.size < w2.heap.size := lt_of_some Br.out
            go_wp2_with fail
            refine ⟨⟨k + 1, by omega, by go_num, fun j z hj hz => ?_, HB.out, Bk.out⟩, by simp [intOf]; omega⟩
            by_cases e : j = k
            · subst e
              rw [HXx.out] at hz
              obtain rfl := Option.some.inj hz
              exact ⟨⟨i2, kd2, HG1.out, HG2.out⟩, .inl HEm.out⟩
            · exact HQ.out j z (by omega) hz
          have hq := isE_no he
          have HEm := hidK he
          clear he
          rcases hf with ⟨j3, y, h1, h2, rfl⟩ | ⟨hh, rfl⟩
          rotate_left
          · have HH := hidK hh
            clear hh
            have k0 : w1.cell? ⟨w.heap.size, 0, none⟩ = some (.slice a1 l1 y1) := cellK Bk.out 0
            have k1 : w1.cell? ⟨w.heap.size, 1, none⟩ = some (.slice a2 l2 y2) := cellK Bk.out 1
            have k2 : w1.cell? ⟨w.heap.size, 2, none⟩ = some (.slice a3 l3 y3) := cellK Bk.out 2
            have k3 : w1.cell? ⟨w.heap.size, 3, none⟩ = some (.slice (some ⟨b, o, none⟩) l4 y4) := cellK Bk.out 3
            have k4 : w1.cell? ⟨w.heap.size, 4, none⟩ = some (.slice a5 l5 y5) := cellK Bk.out 4
            have k5 : w1.cell? ⟨w.heap.size, 5, none⟩ = some (.int .i64 c.now) := cellK Bk.out 5
            have ltk_1 : w.heap.size < w1.heap.size := lt_of_some Bk.out
            have r0 : w1.cell? ⟨wr.heap.size, 0, none⟩ = some (.string x.n) := cellK Br.out 0
            have r1 : w1.cell? ⟨wr.heap.size, 1, none⟩ = some (.int .i64 x.z) := cellK Br.out 1
            have r2 : w1.cell? ⟨wr.heap.size, 2, none⟩ = some (.string x.k) := cellK Br.out 2
            have r3 : w1.cell? ⟨wr.heap.size, 3, none⟩ = some (.bool x.x) := cellK Br.out 3
            have r4 : w1.cell? ⟨wr.heap.size, 4, none⟩ = some (.string x.v) := cellK Br.out 4
            have ltr_1 : wr.heap.size < w1.heap.size := lt_of_some Br.out
            go_wp2_with fail
            refine (sxkd_hit ⟨a1, l1, y1, a2, l2, y2, a3, l3, y3, (some ⟨b, o, none⟩), l4, y4, a5, l5, y5⟩ c.now c.ks x.k _ (HR.out.k.below HB.out) HKS.out HG1.out HG2.out).mono ?_
            rintro e w2 ⟨rfl, hb3⟩
            clear k0 k1 k2 k3 k4 k5 ltk_1 r0 r1 r2 r3 r4 ltr_1
            have Ck := hidK ((hb3.block (w.heap.size) (by have := lt_of_some Bk.out; omega)).trans (Bk.out))
            have Cr := hidK ((hb3.block (wr.heap.size) (by have := lt_of_some Br.out; omega)).trans (Br.out))
            have HB2 := hidK (HB.out.trans (hb3.mono HB.out.size))
            clear HB hb3 Bk Br
            have HB := HB2
            clear HB2
            have Bk := Ck
            clear Ck
            have Br := Cr
            clear Cr
            have pr : w2.cell? ⟨wr.heap.size, 4, none⟩ = some (.string x.v) := cellK Br.out 4
            have Gk : Hid (w2.heap[w.heap.size]? = some (.cells #[.slice a1 l1 y1, .slice a2 l2 y2, .slice a3 l3 y3, .slice (some ⟨b, o, none⟩) l4 y4, .slice a5 l5 y5, .int .i64 c.now] 37 (0, 0))) := Bk.out
            have Gr : Hid (w2.heap[wr.heap.size]? = some (.cells #[.string x.n, .int .i64 x.z, .string x.k, .bool x.x, .string x.v] 69 (0, 0))) := Br.out
            have HW := hidK HB.out
            have k2 : ∀ q : Wd w2, q.w.cell? ⟨w.heap.size, 2, none⟩ = some (.slice a3 l3 y3) := fun q => q.slot Gk.out rfl
            have r0 : ∀ q : Wd w2, q.w.cell? ⟨wr.heap.size, 0, none⟩ = some (.string x.n) := fun q => q.slot Gr.out rfl
            have r1 : ∀ q : Wd w2, q.w.cell? ⟨wr.heap.size, 1, none⟩ = some (.int .i64 x.z) := fun q => q.slot Gr.out rfl
            have r2 : ∀ q : Wd w2, q.w.cell? ⟨wr.heap.size, 2, none⟩ = some (.string x.k) := fun q => q.slot Gr.out rfl
            have r3 : ∀ q : Wd w2, q.w.cell? ⟨wr.heap.size, 3, none⟩ = some (.bool x.x) := fun q => q.slot Gr.out rfl
            have r4 : ∀ q : Wd w2, q.w.cell? ⟨wr.heap.size, 4, none⟩ = some (.string x.v) := fun q => q.slot Gr.out rfl
            have hne0 := Wd.ne w2
            go_wp2_with fail
            refine wp_region_wide (by kernel_rfl) (by kernel_rfl) ?_
            repeat (go_big_quiet_step (first | fail))
            refine wpQuiet_nil ?_
            rintro _ ⟨q1, rfl⟩
            have HB3 := hidK (HW.out.trans (q1.b.mono HW.out.size))
            have Ck := hidK ((q1.b.block _ (lt_of_some Gk.out)).trans Gk.out)
            have Cr := hidK ((q1.b.block _ (lt_of_some Gr.out)).trans Gr.out)
            clear hne0 HW HB k2 r0 r1 r2 r3 r4 Gk Gr Bk Br pr
            have HB := HB3
            clear HB3
            have Bk := Ck
            clear Ck
            have Br := Cr
            clear Cr
            go_wp2
            go_ret
            refine BoolB.f (fun h => ?_) HB.out
            rcases (h.2 k x HXx.out).2 with h2 | ⟨i, y, h2, h3, _⟩
            · exact HEm.out h2
            · exact HH.out i y h2 h3
          have hl3' : j3 < l3 := by have h3 := (List.getElem?_eq_some_iff.1 h1).1; omega
          obtain ⟨b3, o3, y', rfl, hb3, hy', hat⟩ := vd_at HR.out.v hl3'
          rw [h1] at hy'
          obtain rfl := Option.some.inj hy'
          obtain ⟨va, vl, vc, hvr, z0, z2, z3, z5, c0, c1, c2, c3, c4, c5, c6, c7⟩ := vd_cells hat
          have HJ := hidK h1
          have HN := hidK h2
          have hj0 : ¬ ((j3 : Int) < 0) := by omega
          have hj1 : decide ((j3 : Int) < 0) = false := by simp
          have HC1 := hidK c1
          have HC3 := hidK c3
          have HC4 := hidK c4
          have HC5 := hidK c5
          have HB3 := hidK hb3
          clear hy' hat hvr z0 z2 z3 z5 c0 c1 c2 c3 c4 c5 c6 c7 h1 h2 hb3
          have k0 : w1.cell? ⟨w.heap.size, 0, none⟩ = some (.slice a1 l1 y1) := cellK Bk.out 0
          have k1 : w1.cell? ⟨w.heap.size, 1, none⟩ = some (.slice a2 l2 y2) := cellK Bk.out 1
          have k2 : w1.cell? ⟨w.heap.size, 2, none⟩ = some (.slice (some ⟨b3, o3, none⟩) l3 y3) := cellK Bk.out 2
          have k3 : w1.cell? ⟨w.heap.size, 3, none⟩ = some (.slice (some ⟨b, o, none⟩) l4 y4) := cellK Bk.out 3
          have k4 : w1.cell? ⟨w.heap.size, 4, none⟩ = some (.slice a5 l5 y5) := cellK Bk.out 4
          have k5 : w1.cell? ⟨w.heap.size, 5, none⟩ = some (.int .i64 c.now) := cellK Bk.out 5
          have ltk_1 : w.heap.size < w1.heap.size := lt_of_some Bk.out
          have r0 : w1.cell? ⟨wr.heap.size, 0, none⟩ = some (.string x.n) := cellK Br.out 0
          have r1 : w1.cell? ⟨wr.heap.size, 1, none⟩ = some (.int .i64 x.z) := cellK Br.out 1
          have r2 : w1.cell? ⟨wr.heap.size, 2, none⟩ = some (.string x.k) := cellK Br.out 2
          have r3 : w1.cell? ⟨wr.heap.size, 3, none⟩ = some (.bool x.x) := cellK Br.out 3
          have r4 : w1.cell? ⟨wr.heap.size, 4, none⟩ = some (.string x.v) := cellK Br.out 4
          have ltr_1 : wr.heap.size < w1.heap.size := lt_of_some Br.out
          go_wp2_with fail
          refine (sxkd_hit ⟨a1, l1, y1, a2, l2, y2, (some ⟨b3, o3, none⟩), l3, y3, (some ⟨b, o, none⟩), l4, y4, a5, l5, y5⟩ c.now c.ks x.k _ (HR.out.k.below HB.out) HKS.out HG1.out HG2.out).mono ?_
          rintro e w2 ⟨rfl, hb3⟩
          clear k0 k1 k2 k3 k4 k5 ltk_1 r0 r1 r2 r3 r4 ltr_1
          have Ck := hidK ((hb3.block (w.heap.size) (by have := lt_of_some Bk.out; omega)).trans (Bk.out))
          have Cr := hidK ((hb3.block (wr.heap.size) (by have := lt_of_some Br.out; omega)).trans (Br.out))
          have HB2 := hidK (HB.out.trans (hb3.mono HB.out.size))
          clear HB hb3 Bk Br
          have HB := HB2
          clear HB2
          have Bk := Ck
          clear Ck
          have Br := Cr
          clear Cr
          have pr : w2.cell? ⟨wr.heap.size, 4, none⟩ = some (.string x.v) := cellK Br.out 4
          have hbv : b3 < w2.heap.size := Nat.lt_of_lt_of_le HB3.out HB.out.size
          have v1 := (cell_below HB.out HB3.out).trans HC1.out
          have v3 := (cell_below HB.out HB3.out).trans HC3.out
          have v4 := (cell_below HB.out HB3.out).trans HC4.out
          have v5 := (cell_below HB.out HB3.out).trans HC5.out
          clear HC1 HC3 HC4 HC5 HB3
          by_cases hno : y.m = x.n
          rotate_left
          · have HNo := hidK hno
            clear hno
            have n1 := tl_no HNo.out
            have Gk : Hid (w2.heap[w.heap.size]? = some (.cells #[.slice a1 l1 y1, .slice a2 l2 y2, .slice (some ⟨b3, o3, none⟩) l3 y3, .slice (some ⟨b, o, none⟩) l4 y4, .slice a5 l5 y5, .int .i64 c.now] 37 (0, 0))) := Bk.out
            have Gr : Hid (w2.heap[wr.heap.size]? = some (.cells #[.string x.n, .int .i64 x.z, .string x.k, .bool x.x, .string x.v] 69 (0, 0))) := Br.out
            have HW := hidK HB.out
            have k2 : ∀ q : Wd w2, q.w.cell? ⟨w.heap.size, 2, none⟩ = some (.slice (some ⟨b3, o3, none⟩) l3 y3) := fun q => q.slot Gk.out rfl
            have r0 : ∀ q : Wd w2, q.w.cell? ⟨wr.heap.size, 0, none⟩ = some (.string x.n) := fun q => q.slot Gr.out rfl
            have r1 : ∀ q : Wd w2, q.w.cell? ⟨wr.heap.size, 1, none⟩ = some (.int .i64 x.z) := fun q => q.slot Gr.out rfl
            have r2 : ∀ q : Wd w2, q.w.cell? ⟨wr.heap.size, 2, none⟩ = some (.string x.k) := fun q => q.slot Gr.out rfl
            have r3 : ∀ q : Wd w2, q.w.cell? ⟨wr.heap.size, 3, none⟩ = some (.bool x.x) := fun q => q.slot Gr.out rfl
            have r4 : ∀ q : Wd w2, q.w.cell? ⟨wr.heap.size, 4, none⟩ = some (.string x.v) := fun q => q.slot Gr.out rfl
            have v1w : ∀ q : Wd w2, q.w.cell? ⟨b3, o3 + j3 * 8 + 1, none⟩ = some (.int .i64 y.c) := fun q => (q.cell (hbv)).trans (v1)
            have v3w : ∀ q : Wd w2, q.w.cell? ⟨b3, o3 + j3 * 8 + 3, none⟩ = some (.string y.k) := fun q => (q.cell (hbv)).trans (v3)
            have v4w : ∀ q : Wd w2, q.w.cell? ⟨b3, o3 + j3 * 8 + 4, none⟩ = some (.bool y.x) := fun q => (q.cell (hbv)).trans (v4)
            have v5w : ∀ q : Wd w2, q.w.cell? ⟨b3, o3 + j3 * 8 + 5, none⟩ = some (.string y.m) := fun q => (q.cell (hbv)).trans (v5)
            have hne0 := Wd.ne w2
            go_wp2_with fail
            refine wp_region_wide (by kernel_rfl) (by kernel_rfl) ?_
            repeat (go_big_quiet_step (first | fail))
            refine wpQuiet_nil ?_
            rintro _ ⟨q1, rfl⟩
            have HB3 := hidK (HW.out.trans (q1.b.mono HW.out.size))
            have Ck := hidK ((q1.b.block _ (lt_of_some Gk.out)).trans Gk.out)
            have Cr := hidK ((q1.b.block _ (lt_of_some Gr.out)).trans Gr.out)
            clear hne0 HW HB k2 r0 r1 r2 r3 r4 v1w v3w v4w v5w Gk Gr Bk Br pr v1 v3 v4 v5 hbv
            have HB := HB3
            clear HB3
            have Bk := Ck
            clear Ck
            have Br := Cr
            clear Cr
            go_wp2
            go_ret
            refine BoolB.f (fun h => ?_) HB.out
            rcases (h.2 k x HXx.out).2 with h2 | ⟨i, y2, h2, h3, h4⟩
            · exact HEm.out h2
            · obtain ⟨_, rfl⟩ := HVS.out.inj h2 HJ.out (h3.trans HN.out.symm)
              exact HNo.out h4.1
          have HY1 := hidK hno
          have q1 := tl_yes hno
          clear hno
          by_cases hno : x.z ≤ y.c
          rotate_left
          · have HNo := hidK hno
            clear hno
            have n1 : y.c < x.z := by have := HNo.out; omega
            have Gk : Hid (w2.heap[w.heap.size]? = some (.cells #[.slice a1 l1 y1, .slice a2 l2 y2, .slice (some ⟨b3, o3, none⟩) l3 y3, .slice (some ⟨b, o, none⟩) l4 y4, .slice a5 l5 y5, .int .i64 c.now] 37 (0, 0))) := Bk.out
            have Gr : Hid (w2.heap[wr.heap.size]? = some (.cells #[.string x.n, .int .i64 x.z, .string x.k, .bool x.x, .string x.v] 69 (0, 0))) := Br.out
            have HW := hidK HB.out
            have k2 : ∀ q : Wd w2, q.w.cell? ⟨w.heap.size, 2, none⟩ = some (.slice (some ⟨b3, o3, none⟩) l3 y3) := fun q => q.slot Gk.out rfl
            have r0 : ∀ q : Wd w2, q.w.cell? ⟨wr.heap.size, 0, none⟩ = some (.string x.n) := fun q => q.slot Gr.out rfl
            have r1 : ∀ q : Wd w2, q.w.cell? ⟨wr.heap.size, 1, none⟩ = some (.int .i64 x.z) := fun q => q.slot Gr.out rfl
            have r2 : ∀ q : Wd w2, q.w.cell? ⟨wr.heap.size, 2, none⟩ = some (.string x.k) := fun q => q.slot Gr.out rfl
            have r3 : ∀ q : Wd w2, q.w.cell? ⟨wr.heap.size, 3, none⟩ = some (.bool x.x) := fun q => q.slot Gr.out rfl
            have r4 : ∀ q : Wd w2, q.w.cell? ⟨wr.heap.size, 4, none⟩ = some (.string x.v) := fun q => q.slot Gr.out rfl
            have v1w : ∀ q : Wd w2, q.w.cell? ⟨b3, o3 + j3 * 8 + 1, none⟩ = some (.int .i64 y.c) := fun q => (q.cell (hbv)).trans (v1)
            have v3w : ∀ q : Wd w2, q.w.cell? ⟨b3, o3 + j3 * 8 + 3, none⟩ = some (.string y.k) := fun q => (q.cell (hbv)).trans (v3)
            have v4w : ∀ q : Wd w2, q.w.cell? ⟨b3, o3 + j3 * 8 + 4, none⟩ = some (.bool y.x) := fun q => (q.cell (hbv)).trans (v4)
            have v5w : ∀ q : Wd w2, q.w.cell? ⟨b3, o3 + j3 * 8 + 5, none⟩ = some (.string y.m) := fun q => (q.cell (hbv)).trans (v5)
            have hne0 := Wd.ne w2
            go_wp2_with fail
            refine wp_region_wide (by kernel_rfl) (by kernel_rfl) ?_
            repeat (go_big_quiet_step (first | fail))
            refine wpQuiet_nil ?_
            rintro _ ⟨q1, rfl⟩
            have HB3 := hidK (HW.out.trans (q1.b.mono HW.out.size))
            have Ck := hidK ((q1.b.block _ (lt_of_some Gk.out)).trans Gk.out)
            have Cr := hidK ((q1.b.block _ (lt_of_some Gr.out)).trans Gr.out)
            clear hne0 HW HB k2 r0 r1 r2 r3 r4 v1w v3w v4w v5w Gk Gr Bk Br pr v1 v3 v4 v5 hbv
            have HB := HB3
            clear HB3
            have Bk := Ck
            clear Ck
            have Br := Cr
            clear Cr
            go_wp2
            go_ret
            refine BoolB.f (fun h => ?_) HB.out
            rcases (h.2 k x HXx.out).2 with h2 | ⟨i, y2, h2, h3, h4⟩
            · exact HEm.out h2
            · obtain ⟨_, rfl⟩ := HVS.out.inj h2 HJ.out (h3.trans HN.out.symm)
              have h5 := h4.2.1; have h6 := HNo.out; omega
          have HY2 := hidK hno
          have q2 : decide (y.c < x.z) = false := by simp; omega
          clear hno
          by_cases hno : y.k = x.k
          rotate_left
          · have HNo := hidK hno
            clear hno
            have n1 := tl_no HNo.out
            have Gk : Hid (w2.heap[w.heap.size]? = some (.cells #[.slice a1 l1 y1, .slice a2 l2 y2, .slice (some ⟨b3, o3, none⟩) l3 y3, .slice (some ⟨b, o, none⟩) l4 y4, .slice a5 l5 y5, .int .i64 c.now] 37 (0, 0))) := Bk.out
            have Gr : Hid (w2.heap[wr.heap.size]? = some (.cells #[.string x.n, .int .i64 x.z, .string x.k, .bool x.x, .string x.v] 69 (0, 0))) := Br.out
            have HW := hidK HB.out
            have k2 : ∀ q : Wd w2, q.w.cell? ⟨w.heap.size, 2, none⟩ = some (.slice (some ⟨b3, o3, none⟩) l3 y3) := fun q => q.slot Gk.out rfl
            have r0 : ∀ q : Wd w2, q.w.cell? ⟨wr.heap.size, 0, none⟩ = some (.string x.n) := fun q => q.slot Gr.out rfl
            have r1 : ∀ q : Wd w2, q.w.cell? ⟨wr.heap.size, 1, none⟩ = some (.int .i64 x.z) := fun q => q.slot Gr.out rfl
            have r2 : ∀ q : Wd w2, q.w.cell? ⟨wr.heap.size, 2, none⟩ = some (.string x.k) := fun q => q.slot Gr.out rfl
            have r3 : ∀ q : Wd w2, q.w.cell? ⟨wr.heap.size, 3, none⟩ = some (.bool x.x) := fun q => q.slot Gr.out rfl
            have r4 : ∀ q : Wd w2, q.w.cell? ⟨wr.heap.size, 4, none⟩ = some (.string x.v) := fun q => q.slot Gr.out rfl
            have v1w : ∀ q : Wd w2, q.w.cell? ⟨b3, o3 + j3 * 8 + 1, none⟩ = some (.int .i64 y.c) := fun q => (q.cell (hbv)).trans (v1)
            have v3w : ∀ q : Wd w2, q.w.cell? ⟨b3, o3 + j3 * 8 + 3, none⟩ = some (.string y.k) := fun q => (q.cell (hbv)).trans (v3)
            have v4w : ∀ q : Wd w2, q.w.cell? ⟨b3, o3 + j3 * 8 + 4, none⟩ = some (.bool y.x) := fun q => (q.cell (hbv)).trans (v4)
            have v5w : ∀ q : Wd w2, q.w.cell? ⟨b3, o3 + j3 * 8 + 5, none⟩ = some (.string y.m) := fun q => (q.cell (hbv)).trans (v5)
            have hne0 := Wd.ne w2
            go_wp2_with fail
            refine wp_region_wide (by kernel_rfl) (by kernel_rfl) ?_
            repeat (go_big_quiet_step (first | fail))
            refine wpQuiet_nil ?_
            rintro _ ⟨q1, rfl⟩
            have HB3 := hidK (HW.out.trans (q1.b.mono HW.out.size))
            have Ck := hidK ((q1.b.block _ (lt_of_some Gk.out)).trans Gk.out)
            have Cr := hidK ((q1.b.block _ (lt_of_some Gr.out)).trans Gr.out)
            clear hne0 HW HB k2 r0 r1 r2 r3 r4 v1w v3w v4w v5w Gk Gr Bk Br pr v1 v3 v4 v5 hbv
            have HB := HB3
            clear HB3
            have Bk := Ck
            clear Ck
            have Br := Cr
            clear Cr
            go_wp2
            go_ret
            refine BoolB.f (fun h => ?_) HB.out
            rcases (h.2 k x HXx.out).2 with h2 | ⟨i, y2, h2, h3, h4⟩
            · exact HEm.out h2
            · obtain ⟨_, rfl⟩ := HVS.out.inj h2 HJ.out (h3.trans HN.out.symm)
              exact HNo.out h4.2.2.1
          have HY3 := hidK hno
          have q3 := tl_yes hno
          clear hno
          by_cases hno : y.x = x.x
          rotate_left
          · have HNo := hidK hno
            clear hno
            have n1 : (y.x == x.x) = false := by simpa using HNo.out
            have Gk : Hid (w2.heap[w.heap.size]? = some (.cells #[.slice a1 l1 y1, .slice a2 l2 y2, .slice (some ⟨b3, o3, none⟩) l3 y3, .slice (some ⟨b, o, none⟩) l4 y4, .slice a5 l5 y5, .int .i64 c.now] 37 (0, 0))) := Bk.out
            have Gr : Hid (w2.heap[wr.heap.size]? = some (.cells #[.string x.n, .int .i64 x.z, .string x.k, .bool x.x, .string x.v] 69 (0, 0))) := Br.out
            have HW := hidK HB.out
            have k2 : ∀ q : Wd w2, q.w.cell? ⟨w.heap.size, 2, none⟩ = some (.slice (some ⟨b3, o3, none⟩) l3 y3) := fun q => q.slot Gk.out rfl
            have r0 : ∀ q : Wd w2, q.w.cell? ⟨wr.heap.size, 0, none⟩ = some (.string x.n) := fun q => q.slot Gr.out rfl
            have r1 : ∀ q : Wd w2, q.w.cell? ⟨wr.heap.size, 1, none⟩ = some (.int .i64 x.z) := fun q => q.slot Gr.out rfl
            have r2 : ∀ q : Wd w2, q.w.cell? ⟨wr.heap.size, 2, none⟩ = some (.string x.k) := fun q => q.slot Gr.out rfl
            have r3 : ∀ q : Wd w2, q.w.cell? ⟨wr.heap.size, 3, none⟩ = some (.bool x.x) := fun q => q.slot Gr.out rfl
            have r4 : ∀ q : Wd w2, q.w.cell? ⟨wr.heap.size, 4, none⟩ = some (.string x.v) := fun q => q.slot Gr.out rfl
            have v1w : ∀ q : Wd w2, q.w.cell? ⟨b3, o3 + j3 * 8 + 1, none⟩ = some (.int .i64 y.c) := fun q => (q.cell (hbv)).trans (v1)
            have v3w : ∀ q : Wd w2, q.w.cell? ⟨b3, o3 + j3 * 8 + 3, none⟩ = some (.string y.k) := fun q => (q.cell (hbv)).trans (v3)
            have v4w : ∀ q : Wd w2, q.w.cell? ⟨b3, o3 + j3 * 8 + 4, none⟩ = some (.bool y.x) := fun q => (q.cell (hbv)).trans (v4)
            have v5w : ∀ q : Wd w2, q.w.cell? ⟨b3, o3 + j3 * 8 + 5, none⟩ = some (.string y.m) := fun q => (q.cell (hbv)).trans (v5)
            have hne0 := Wd.ne w2
            go_wp2_with fail
            refine wp_region_wide (by kernel_rfl) (by kernel_rfl) ?_
            repeat (go_big_quiet_step (first | fail))
            refine wpQuiet_nil ?_
            rintro _ ⟨q1, rfl⟩
            have HB3 := hidK (HW.out.trans (q1.b.mono HW.out.size))
            have Ck := hidK ((q1.b.block _ (lt_of_some Gk.out)).trans Gk.out)
            have Cr := hidK ((q1.b.block _ (lt_of_some Gr.out)).trans Gr.out)
            clear hne0 HW HB k2 r0 r1 r2 r3 r4 v1w v3w v4w v5w Gk Gr Bk Br pr v1 v3 v4 v5 hbv
            have HB := HB3
            clear HB3
            have Bk := Ck
            clear Ck
            have Br := Cr
            clear Cr
            go_wp2
            go_ret
            refine BoolB.f (fun h => ?_) HB.out
            rcases (h.2 k x HXx.out).2 with h2 | ⟨i, y2, h2, h3, h4⟩
            · exact HEm.out h2
            · obtain ⟨_, rfl⟩ := HVS.out.inj h2 HJ.out (h3.trans HN.out.symm)
              exact HNo.out h4.2.2.2
          have HY4 := hidK hno
          have q4 : (y.x == x.x) = true := by simpa using hno
          clear hno
          have Gk : Hid (w2.heap[w.heap.size]? = some (.cells #[.slice a1 l1 y1, .slice a2 l2 y2, .slice (some ⟨b3, o3, none⟩) l3 y3, .slice (some ⟨b, o, none⟩) l4 y4, .slice a5 l5 y5, .int .i64 c.now] 37 (0, 0))) := Bk.out
          have Gr : Hid (w2.heap[wr.heap.size]? = some (.cells #[.string x.n, .int .i64 x.z, .string x.k, .bool x.x, .string x.v] 69 (0, 0))) := Br.out
          have HW := hidK HB.out
          have k2 : ∀ q : Wd w2, q.w.cell? ⟨w.heap.size, 2, none⟩ = some (.slice (some ⟨b3, o3, none⟩) l3 y3) := fun q => q.slot Gk.out rfl
          have r0 : ∀ q : Wd w2, q.w.cell? ⟨wr.heap.size, 0, none⟩ = some (.string x.n) := fun q => q.slot Gr.out rfl
          have r1 : ∀ q : Wd w2, q.w.cell? ⟨wr.heap.size, 1, none⟩ = some (.int .i64 x.z) := fun q => q.slot Gr.out rfl
          have r2 : ∀ q : Wd w2, q.w.cell? ⟨wr.heap.size, 2, none⟩ = some (.string x.k) := fun q => q.slot Gr.out rfl
          have r3 : ∀ q : Wd w2, q.w.cell? ⟨wr.heap.size, 3, none⟩ = some (.bool x.x) := fun q => q.slot Gr.out rfl
          have r4 : ∀ q : Wd w2, q.w.cell? ⟨wr.heap.size, 4, none⟩ = some (.string x.v) := fun q => q.slot Gr.out rfl
          have v1w : ∀ q : Wd w2, q.w.cell? ⟨b3, o3 + j3 * 8 + 1, none⟩ = some (.int .i64 y.c) := fun q => (q.cell (hbv)).trans (v1)
          have v3w : ∀ q : Wd w2, q.w.cell? ⟨b3, o3 + j3 * 8 + 3, none⟩ = some (.string y.k) := fun q => (q.cell (hbv)).trans (v3)
          have v4w : ∀ q : Wd w2, q.w.cell? ⟨b3, o3 + j3 * 8 + 4, none⟩ = some (.bool y.x) := fun q => (q.cell (hbv)).trans (v4)
          have v5w : ∀ q : Wd w2, q.w.cell? ⟨b3, o3 + j3 * 8 + 5, none⟩ = some (.string y.m) := fun q => (q.cell (hbv)).trans (v5)
          have hne0 := Wd.ne w2
          go_wp2_with fail
          refine wp_region_wide (by kernel_rfl) (by kernel_rfl) ?_
          repeat (go_big_quiet_step (first | fail))
          refine wpQuiet_nil ?_
          rintro _ ⟨qz, rfl⟩
          have HB3 := hidK (HW.out.trans (qz.b.mono HW.out.size))
          have Ck := hidK ((qz.b.block _ (lt_of_some Gk.out)).trans Gk.out)
          have Cr := hidK ((qz.b.block _ (lt_of_some Gr.out)).trans Gr.out)
          clear hne0 HW HB k2 r0 r1 r2 r3 r4 v1w v3w v4w v5w Gk Gr Bk Br pr v1 v3 v4 v5 hbv
          have HB := HB3
          clear HB3
          have Bk := Ck
          clear Ck
          have Br := Cr
          clear Cr
          clear q1 q2 q3 q4
          go_wp2_with fail
          refine ⟨⟨k + 1, by omega, by go_num, fun j z hj hz => ?_, HB.out, Bk.out⟩, by simp [intOf]; omega⟩
          by_cases e : j = k
          · subst e
            rw [HXx.out] at hz
            obtain rfl := Option.some.inj hz
            exact ⟨⟨i2, kd2, HG1.out, HG2.out⟩, .inr ⟨j3, y, HJ.out, HN.out, HY1.out, HY2.out, HY3.out, HY4.out⟩⟩
          · exact HQ.out j z (by omega) hz
        · obtain rfl : l4 = k := by omega
          have HQ2 : Hid (∀ (j : Nat) z, c.xs[j]? = some z → SX c z) := fun j z hz => HQ.out j z (by have := (List.getElem?_eq_some_iff.1 hz).1; omega) hz
          clear HQ
          go_wp2
          go_ret
          exact BoolB.t ⟨HQ1.out, HQ2.out⟩ HB.out

end Rc
end Go.Proofs.YtcljghpfclegmaaGreatDoor
