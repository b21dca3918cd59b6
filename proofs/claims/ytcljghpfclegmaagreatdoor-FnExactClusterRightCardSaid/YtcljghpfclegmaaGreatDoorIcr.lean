/-
  Whether a cluster is right, as the program asks it.
-/
import Derived.Test.YtcljghpfclegmaaGreatDoorIrt
namespace Go.Proofs.YtcljghpfclegmaaGreatDoor
open Go.RowKit
namespace Rc
open Mk

def RowsOk (c : Cl) : Prop := RowOk ndOk Nd.n c.ns 6 ∧ RowOk kdOk Kd.n c.ks 8 ∧ RowOk vdOk Vd.n c.vs 8 ∧ RowOk xdOk Xd.n c.xs 8 ∧ RowOk pdOk Pd.n c.ps 8
def RightI (c : Cl) : Prop := Inn c.now 0 1000000 ∧ RowsOk c ∧ BoundI c ∧ PlacedI c ∧ AttachedI c ∧ MountedI c

set_option maxRecDepth 100000 in
set_option maxHeartbeats 3200000 in
theorem irows_any (d : Ad) (c : Cl) (w : World) (hr : ClRow w d c.raw) :
    Calls Tryz.prog 66 #[.agg #[.slice d.a1 d.l1 d.c1, .slice d.a2 d.l2 d.c2, .slice d.a3 d.l3 d.c3, .slice d.a4 d.l4 d.c4, .slice d.a5 d.l5 d.c5, .int .i64 c.now]] w (BoolB (RowsOk c) w) := by
  have HR := hidK hr
  have HB := hidK (Below.refl w.heap.size w)
  clear hr
  go_enter Tryz.func66, Tryz.ntmps66
  go_wp2_with fail
  refine (rowrnd_any _ _ _ c.ns 6 _ (HR.out.n.below (HB.out.trans ((below1 _ _).mono HB.out.size)))).mono ?_
  rintro e w1 ⟨r, rfl, hi, hb⟩
  have hsz1 : (w.alloc (.cells #[.slice d.a1 d.l1 d.c1, .slice d.a2 d.l2 d.c2, .slice d.a3 d.l3 d.c3, .slice d.a4 d.l4 d.c4, .slice d.a5 d.l5 d.c5, .int .i64 c.now] 37)).heap.size = w.heap.size + 1 := by simp
  have Ck : Hid (w1.heap[w.heap.size]? = some (.cells #[.slice d.a1 d.l1 d.c1, .slice d.a2 d.l2 d.c2, .slice d.a3 d.l3 d.c3, .slice d.a4 d.l4 d.c4, .slice d.a5 d.l5 d.c5, .int .i64 c.now] 37 (0, 0))) := (hb.block (w.heap.size) (by rw [hsz1]; omega)).trans (Array.getElem?_push_size)
  have HB1 := hidK (HB.out.trans (((below1 _ _ : Below w.heap.size w (w.alloc (.cells #[.slice d.a1 d.l1 d.c1, .slice d.a2 d.l2 d.c2, .slice d.a3 d.l3 d.c3, .slice d.a4 d.l4 d.c4, .slice d.a5 d.l5 d.c5, .int .i64 c.now] 37))).trans (hb.mono (by rw [hsz1]; omega))).mono HB.out.size))
  clear HB hb hsz1
  have HB := HB1
  clear HB1
  have Bk := Ck
  clear Ck
  have HI1 := hidK hi
  clear hi
  cases r
  · have k0 : w1.cell? ⟨w.heap.size, 0, none⟩ = some (.slice d.a1 d.l1 d.c1) := cellK Bk.out 0
    have k1 : w1.cell? ⟨w.heap.size, 1, none⟩ = some (.slice d.a2 d.l2 d.c2) := cellK Bk.out 1
    have k2 : w1.cell? ⟨w.heap.size, 2, none⟩ = some (.slice d.a3 d.l3 d.c3) := cellK Bk.out 2
    have k3 : w1.cell? ⟨w.heap.size, 3, none⟩ = some (.slice d.a4 d.l4 d.c4) := cellK Bk.out 3
    have k4 : w1.cell? ⟨w.heap.size, 4, none⟩ = some (.slice d.a5 d.l5 d.c5) := cellK Bk.out 4
    have k5 : w1.cell? ⟨w.heap.size, 5, none⟩ = some (.int .i64 c.now) := cellK Bk.out 5
    have ltk_1 : w.heap.size < w1.heap.size := lt_of_some Bk.out
    go_wp2
    go_ret
    exact BoolB.f (fun h => by have := HI1.out.2 h.1; cases this) HB.out
  have k0 : w1.cell? ⟨w.heap.size, 0, none⟩ = some (.slice d.a1 d.l1 d.c1) := cellK Bk.out 0
  have k1 : w1.cell? ⟨w.heap.size, 1, none⟩ = some (.slice d.a2 d.l2 d.c2) := cellK Bk.out 1
  have k2 : w1.cell? ⟨w.heap.size, 2, none⟩ = some (.slice d.a3 d.l3 d.c3) := cellK Bk.out 2
  have k3 : w1.cell? ⟨w.heap.size, 3, none⟩ = some (.slice d.a4 d.l4 d.c4) := cellK Bk.out 3
  have k4 : w1.cell? ⟨w.heap.size, 4, none⟩ = some (.slice d.a5 d.l5 d.c5) := cellK Bk.out 4
  have k5 : w1.cell? ⟨w.heap.size, 5, none⟩ = some (.int .i64 c.now) := cellK Bk.out 5
  have ltk_1 : w.heap.size < w1.heap.size := lt_of_some Bk.out
  go_wp2_with fail
  refine (rowrkd_any _ _ _ c.ks 8 _ (HR.out.k.below HB.out)).mono ?_
  rintro e w2 ⟨r, rfl, hi, hb⟩
  clear k0 k1 k2 k3 k4 k5 ltk_1
  have Ck := hidK ((hb.block (w.heap.size) (by have := lt_of_some Bk.out; omega)).trans (Bk.out))
  have HB2 := hidK (HB.out.trans (hb.mono HB.out.size))
  clear HB hb Bk
  have HB := HB2
  clear HB2
  have Bk := Ck
  clear Ck
  have HI2 := hidK hi
  clear hi
  cases r
  · have k0 : w2.cell? ⟨w.heap.size, 0, none⟩ = some (.slice d.a1 d.l1 d.c1) := cellK Bk.out 0
    have k1 : w2.cell? ⟨w.heap.size, 1, none⟩ = some (.slice d.a2 d.l2 d.c2) := cellK Bk.out 1
    have k2 : w2.cell? ⟨w.heap.size, 2, none⟩ = some (.slice d.a3 d.l3 d.c3) := cellK Bk.out 2
    have k3 : w2.cell? ⟨w.heap.size, 3, none⟩ = some (.slice d.a4 d.l4 d.c4) := cellK Bk.out 3
    have k4 : w2.cell? ⟨w.heap.size, 4, none⟩ = some (.slice d.a5 d.l5 d.c5) := cellK Bk.out 4
    have k5 : w2.cell? ⟨w.heap.size, 5, none⟩ = some (.int .i64 c.now) := cellK Bk.out 5
    have ltk_2 : w.heap.size < w2.heap.size := lt_of_some Bk.out
    go_wp2
    go_ret
    exact BoolB.f (fun h => by have := HI2.out.2 h.2.1; cases this) HB.out
  have k0 : w2.cell? ⟨w.heap.size, 0, none⟩ = some (.slice d.a1 d.l1 d.c1) := cellK Bk.out 0
  have k1 : w2.cell? ⟨w.heap.size, 1, none⟩ = some (.slice d.a2 d.l2 d.c2) := cellK Bk.out 1
  have k2 : w2.cell? ⟨w.heap.size, 2, none⟩ = some (.slice d.a3 d.l3 d.c3) := cellK Bk.out 2
  have k3 : w2.cell? ⟨w.heap.size, 3, none⟩ = some (.slice d.a4 d.l4 d.c4) := cellK Bk.out 3
  have k4 : w2.cell? ⟨w.heap.size, 4, none⟩ = some (.slice d.a5 d.l5 d.c5) := cellK Bk.out 4
  have k5 : w2.cell? ⟨w.heap.size, 5, none⟩ = some (.int .i64 c.now) := cellK Bk.out 5
  have ltk_2 : w.heap.size < w2.heap.size := lt_of_some Bk.out
  go_wp2_with fail
  refine (rowrvd_any _ _ _ c.vs 8 _ (HR.out.v.below HB.out)).mono ?_
  rintro e w3 ⟨r, rfl, hi, hb⟩
  clear k0 k1 k2 k3 k4 k5 ltk_2
  have Ck := hidK ((hb.block (w.heap.size) (by have := lt_of_some Bk.out; omega)).trans (Bk.out))
  have HB3 := hidK (HB.out.trans (hb.mono HB.out.size))
  clear HB hb Bk
  have HB := HB3
  clear HB3
  have Bk := Ck
  clear Ck
  have HI3 := hidK hi
  clear hi
  cases r
  · have k0 : w3.cell? ⟨w.heap.size, 0, none⟩ = some (.slice d.a1 d.l1 d.c1) := cellK Bk.out 0
    have k1 : w3.cell? ⟨w.heap.size, 1, none⟩ = some (.slice d.a2 d.l2 d.c2) := cellK Bk.out 1
    have k2 : w3.cell? ⟨w.heap.size, 2, none⟩ = some (.slice d.a3 d.l3 d.c3) := cellK Bk.out 2
    have k3 : w3.cell? ⟨w.heap.size, 3, none⟩ = some (.slice d.a4 d.l4 d.c4) := cellK Bk.out 3
    have k4 : w3.cell? ⟨w.heap.size, 4, none⟩ = some (.slice d.a5 d.l5 d.c5) := cellK Bk.out 4
    have k5 : w3.cell? ⟨w.heap.size, 5, none⟩ = some (.int .i64 c.now) := cellK Bk.out 5
    have ltk_3 : w.heap.size < w3.heap.size := lt_of_some Bk.out
    go_wp2
    go_ret
    exact BoolB.f (fun h => by have := HI3.out.2 h.2.2.1; cases this) HB.out
  have k0 : w3.cell? ⟨w.heap.size, 0, none⟩ = some (.slice d.a1 d.l1 d.c1) := cellK Bk.out 0
  have k1 : w3.cell? ⟨w.heap.size, 1, none⟩ = some (.slice d.a2 d.l2 d.c2) := cellK Bk.out 1
  have k2 : w3.cell? ⟨w.heap.size, 2, none⟩ = some (.slice d.a3 d.l3 d.c3) := cellK Bk.out 2
  have k3 : w3.cell? ⟨w.heap.size, 3, none⟩ = some (.slice d.a4 d.l4 d.c4) := cellK Bk.out 3
  have k4 : w3.cell? ⟨w.heap.size, 4, none⟩ = some (.slice d.a5 d.l5 d.c5) := cellK Bk.out 4
  have k5 : w3.cell? ⟨w.heap.size, 5, none⟩ = some (.int .i64 c.now) := cellK Bk.out 5
  have ltk_3 : w.heap.size < w3.heap.size := lt_of_some Bk.out
  go_wp2_with fail
  refine (rowrxd_any _ _ _ c.xs 8 _ (HR.out.x.below HB.out)).mono ?_
  rintro e w4 ⟨r, rfl, hi, hb⟩
  clear k0 k1 k2 k3 k4 k5 ltk_3
  have Ck := hidK ((hb.block (w.heap.size) (by have := lt_of_some Bk.out; omega)).trans (Bk.out))
  have HB4 := hidK (HB.out.trans (hb.mono HB.out.size))
  clear HB hb Bk
  have HB := HB4
  clear HB4
  have Bk := Ck
  clear Ck
  have HI4 := hidK hi
  clear hi
  cases r
  · have k0 : w4.cell? ⟨w.heap.size, 0, none⟩ = some (.slice d.a1 d.l1 d.c1) := cellK Bk.out 0
    have k1 : w4.cell? ⟨w.heap.size, 1, none⟩ = some (.slice d.a2 d.l2 d.c2) := cellK Bk.out 1
    have k2 : w4.cell? ⟨w.heap.size, 2, none⟩ = some (.slice d.a3 d.l3 d.c3) := cellK Bk.out 2
    have k3 : w4.cell? ⟨w.heap.size, 3, none⟩ = some (.slice d.a4 d.l4 d.c4) := cellK Bk.out 3
    have k4 : w4.cell? ⟨w.heap.size, 4, none⟩ = some (.slice d.a5 d.l5 d.c5) := cellK Bk.out 4
    have k5 : w4.cell? ⟨w.heap.size, 5, none⟩ = some (.int .i64 c.now) := cellK Bk.out 5
    have ltk_4 : w.heap.size < w4.heap.size := lt_of_some Bk.out
    go_wp2
    go_ret
    exact BoolB.f (fun h => by have := HI4.out.2 h.2.2.2.1; cases this) HB.out
  have k0 : w4.cell? ⟨w.heap.size, 0, none⟩ = some (.slice d.a1 d.l1 d.c1) := cellK Bk.out 0
  have k1 : w4.cell? ⟨w.heap.size, 1, none⟩ = some (.slice d.a2 d.l2 d.c2) := cellK Bk.out 1
  have k2 : w4.cell? ⟨w.heap.size, 2, none⟩ = some (.slice d.a3 d.l3 d.c3) := cellK Bk.out 2
  have k3 : w4.cell? ⟨w.heap.size, 3, none⟩ = some (.slice d.a4 d.l4 d.c4) := cellK Bk.out 3
  have k4 : w4.cell? ⟨w.heap.size, 4, none⟩ = some (.slice d.a5 d.l5 d.c5) := cellK Bk.out 4
  have k5 : w4.cell? ⟨w.heap.size, 5, none⟩ = some (.int .i64 c.now) := cellK Bk.out 5
  have ltk_4 : w.heap.size < w4.heap.size := lt_of_some Bk.out
  go_wp2_with fail
  refine (rowrpd_any _ _ _ c.ps 8 _ (HR.out.p.below HB.out)).mono ?_
  rintro e w5 ⟨r, rfl, hi, hb⟩
  clear k0 k1 k2 k3 k4 k5 ltk_4
  have Ck := hidK ((hb.block (w.heap.size) (by have := lt_of_some Bk.out; omega)).trans (Bk.out))
  have HB5 := hidK (HB.out.trans (hb.mono HB.out.size))
  clear HB hb Bk
  have HB := HB5
  clear HB5
  have Bk := Ck
  clear Ck
  have HI5 := hidK hi
  clear hi
  cases r
  · have k0 : w5.cell? ⟨w.heap.size, 0, none⟩ = some (.slice d.a1 d.l1 d.c1) := cellK Bk.out 0
    have k1 : w5.cell? ⟨w.heap.size, 1, none⟩ = some (.slice d.a2 d.l2 d.c2) := cellK Bk.out 1
    have k2 : w5.cell? ⟨w.heap.size, 2, none⟩ = some (.slice d.a3 d.l3 d.c3) := cellK Bk.out 2
    have k3 : w5.cell? ⟨w.heap.size, 3, none⟩ = some (.slice d.a4 d.l4 d.c4) := cellK Bk.out 3
    have k4 : w5.cell? ⟨w.heap.size, 4, none⟩ = some (.slice d.a5 d.l5 d.c5) := cellK Bk.out 4
    have k5 : w5.cell? ⟨w.heap.size, 5, none⟩ = some (.int .i64 c.now) := cellK Bk.out 5
    have ltk_5 : w.heap.size < w5.heap.size := lt_of_some Bk.out
    go_wp2
    go_ret
    exact BoolB.f (fun h => by have := HI5.out.2 h.2.2.2.2; cases this) HB.out
  go_wp2
  go_ret
  exact BoolB.t ⟨HI1.out.1 (by first | trivial | rfl), HI2.out.1 (by first | trivial | rfl), HI3.out.1 (by first | trivial | rfl), HI4.out.1 (by first | trivial | rfl), HI5.out.1 (by first | trivial | rfl)⟩ HB.out

theorem RowsOk.ne {c : Cl} (h : RowsOk c) (j : Nat) (v : Vd) (hv : c.vs[j]? = some v) : ¬ v.n = ⟨#[]⟩ := fun e => by
  have h1 := (h.2.2.1.2.1 j v hv).1.1
  rw [e] at h1
  exact absurd h1 (by decide)
theorem RowsOk.cpu {c : Cl} (h : RowsOk c) (j : Nat) (p : Pd) (hp : c.ps[j]? = some p) : 0 ≤ p.c ∧ p.c ≤ 1000000 := (h.2.2.2.2.2.1 j p hp).2.1

set_option maxRecDepth 100000 in
set_option maxHeartbeats 3200000 in
theorem iright_any (d : Ad) (c : Cl) (w : World) (hr : ClRow w d c.raw) (hG : ens w) :
    Calls Tryz.prog 15 #[.agg #[.slice d.a1 d.l1 d.c1, .slice d.a2 d.l2 d.c2, .slice d.a3 d.l3 d.c3, .slice d.a4 d.l4 d.c4, .slice d.a5 d.l5 d.c5, .int .i64 c.now]] w (BoolB (RightI c) w) := by
  have HR := hidK hr
  have HE := hidK hG
  have HB := hidK (Below.refl w.heap.size w)
  clear hr hG
  go_enter Tryz.func15, Tryz.ntmps15
  go_wp2_with fail
  refine (kwithin_any c.now 0 1000000 _).mono ?_
  rintro e w1 ⟨r, rfl, hi, hw⟩
  have hb : Below (w.alloc (.cells #[.slice d.a1 d.l1 d.c1, .slice d.a2 d.l2 d.c2, .slice d.a3 d.l3 d.c3, .slice d.a4 d.l4 d.c4, .slice d.a5 d.l5 d.c5, .int .i64 c.now] 37)).heap.size (w.alloc (.cells #[.slice d.a1 d.l1 d.c1, .slice d.a2 d.l2 d.c2, .slice d.a3 d.l3 d.c3, .slice d.a4 d.l4 d.c4, .slice d.a5 d.l5 d.c5, .int .i64 c.now] 37)) w1 := by first | (rw [hw]; exact Below.refl _ _) | (rw [← hw]; exact Below.refl _ _)
  clear hw
  have hsz1 : (w.alloc (.cells #[.slice d.a1 d.l1 d.c1, .slice d.a2 d.l2 d.c2, .slice d.a3 d.l3 d.c3, .slice d.a4 d.l4 d.c4, .slice d.a5 d.l5 d.c5, .int .i64 c.now] 37)).heap.size = w.heap.size + 1 := by simp
  have Ck : Hid (w1.heap[w.heap.size]? = some (.cells #[.slice d.a1 d.l1 d.c1, .slice d.a2 d.l2 d.c2, .slice d.a3 d.l3 d.c3, .slice d.a4 d.l4 d.c4, .slice d.a5 d.l5 d.c5, .int .i64 c.now] 37 (0, 0))) := (hb.block (w.heap.size) (by rw [hsz1]; omega)).trans (Array.getElem?_push_size)
  have HB1 := hidK (HB.out.trans (((below1 _ _ : Below w.heap.size w (w.alloc (.cells #[.slice d.a1 d.l1 d.c1, .slice d.a2 d.l2 d.c2, .slice d.a3 d.l3 d.c3, .slice d.a4 d.l4 d.c4, .slice d.a5 d.l5 d.c5, .int .i64 c.now] 37))).trans (hb.mono (by rw [hsz1]; omega))).mono HB.out.size))
  clear HB hb hsz1
  have HB := HB1
  clear HB1
  have Bk := Ck
  clear Ck
  have HI1 := hidK hi
  clear hi
  cases r
  · have k0 : w1.cell? ⟨w.heap.size, 0, none⟩ = some (.slice d.a1 d.l1 d.c1) := cellK Bk.out 0
    have k1 : w1.cell? ⟨w.heap.size, 1, none⟩ = some (.slice d.a2 d.l2 d.c2) := cellK Bk.out 1
    have k2 : w1.cell? ⟨w.heap.size, 2, none⟩ = some (.slice d.a3 d.l3 d.c3) := cellK Bk.out 2
    have k3 : w1.cell? ⟨w.heap.size, 3, none⟩ = some (.slice d.a4 d.l4 d.c4) := cellK Bk.out 3
    have k4 : w1.cell? ⟨w.heap.size, 4, none⟩ = some (.slice d.a5 d.l5 d.c5) := cellK Bk.out 4
    have k5 : w1.cell? ⟨w.heap.size, 5, none⟩ = some (.int .i64 c.now) := cellK Bk.out 5
    have ltk_1 : w.heap.size < w1.heap.size := lt_of_some Bk.out
    go_wp2
    go_ret
    exact BoolB.f (fun h => by have := HI1.out.2 h.1; cases this) HB.out
  have k0 : w1.cell? ⟨w.heap.size, 0, none⟩ = some (.slice d.a1 d.l1 d.c1) := cellK Bk.out 0
  have k1 : w1.cell? ⟨w.heap.size, 1, none⟩ = some (.slice d.a2 d.l2 d.c2) := cellK Bk.out 1
  have k2 : w1.cell? ⟨w.heap.size, 2, none⟩ = some (.slice d.a3 d.l3 d.c3) := cellK Bk.out 2
  have k3 : w1.cell? ⟨w.heap.size, 3, none⟩ = some (.slice d.a4 d.l4 d.c4) := cellK Bk.out 3
  have k4 : w1.cell? ⟨w.heap.size, 4, none⟩ = some (.slice d.a5 d.l5 d.c5) := cellK Bk.out 4
  have k5 : w1.cell? ⟨w.heap.size, 5, none⟩ = some (.int .i64 c.now) := cellK Bk.out 5
  have ltk_1 : w.heap.size < w1.heap.size := lt_of_some Bk.out
  go_wp2_with fail
  refine (irows_any d c _ (HR.out.below HB.out)).mono ?_
  rintro e w2 ⟨r, rfl, hi, hb⟩
  clear k0 k1 k2 k3 k4 k5 ltk_1
  have Ck := hidK ((hb.block (w.heap.size) (by have := lt_of_some Bk.out; omega)).trans (Bk.out))
  have HB2 := hidK (HB.out.trans (hb.mono HB.out.size))
  clear HB hb Bk
  have HB := HB2
  clear HB2
  have Bk := Ck
  clear Ck
  have HI2 := hidK hi
  clear hi
  cases r
  · have k0 : w2.cell? ⟨w.heap.size, 0, none⟩ = some (.slice d.a1 d.l1 d.c1) := cellK Bk.out 0
    have k1 : w2.cell? ⟨w.heap.size, 1, none⟩ = some (.slice d.a2 d.l2 d.c2) := cellK Bk.out 1
    have k2 : w2.cell? ⟨w.heap.size, 2, none⟩ = some (.slice d.a3 d.l3 d.c3) := cellK Bk.out 2
    have k3 : w2.cell? ⟨w.heap.size, 3, none⟩ = some (.slice d.a4 d.l4 d.c4) := cellK Bk.out 3
    have k4 : w2.cell? ⟨w.heap.size, 4, none⟩ = some (.slice d.a5 d.l5 d.c5) := cellK Bk.out 4
    have k5 : w2.cell? ⟨w.heap.size, 5, none⟩ = some (.int .i64 c.now) := cellK Bk.out 5
    have ltk_2 : w.heap.size < w2.heap.size := lt_of_some Bk.out
    go_wp2
    go_ret
    exact BoolB.f (fun h => by have := HI2.out.2 h.2.1; cases this) HB.out
  have HOK := hidK (HI2.out.1 (by first | trivial | rfl))
  have k0 : w2.cell? ⟨w.heap.size, 0, none⟩ = some (.slice d.a1 d.l1 d.c1) := cellK Bk.out 0
  have k1 : w2.cell? ⟨w.heap.size, 1, none⟩ = some (.slice d.a2 d.l2 d.c2) := cellK Bk.out 1
  have k2 : w2.cell? ⟨w.heap.size, 2, none⟩ = some (.slice d.a3 d.l3 d.c3) := cellK Bk.out 2
  have k3 : w2.cell? ⟨w.heap.size, 3, none⟩ = some (.slice d.a4 d.l4 d.c4) := cellK Bk.out 3
  have k4 : w2.cell? ⟨w.heap.size, 4, none⟩ = some (.slice d.a5 d.l5 d.c5) := cellK Bk.out 4
  have k5 : w2.cell? ⟨w.heap.size, 5, none⟩ = some (.int .i64 c.now) := cellK Bk.out 5
  have ltk_2 : w.heap.size < w2.heap.size := lt_of_some Bk.out
  go_wp2_with fail
  refine (ibound_any d c _ (HR.out.below HB.out) HOK.out.2.2.2.1.2.2 HOK.out.2.2.1.2.2 (HE.out.below HB.out)).mono ?_
  rintro e w3 ⟨r, rfl, hi, hb⟩
  clear k0 k1 k2 k3 k4 k5 ltk_2
  have Ck := hidK ((hb.block (w.heap.size) (by have := lt_of_some Bk.out; omega)).trans (Bk.out))
  have HB3 := hidK (HB.out.trans (hb.mono HB.out.size))
  clear HB hb Bk
  have HB := HB3
  clear HB3
  have Bk := Ck
  clear Ck
  have HI3 := hidK hi
  clear hi
  cases r
  · have k0 : w3.cell? ⟨w.heap.size, 0, none⟩ = some (.slice d.a1 d.l1 d.c1) := cellK Bk.out 0
    have k1 : w3.cell? ⟨w.heap.size, 1, none⟩ = some (.slice d.a2 d.l2 d.c2) := cellK Bk.out 1
    have k2 : w3.cell? ⟨w.heap.size, 2, none⟩ = some (.slice d.a3 d.l3 d.c3) := cellK Bk.out 2
    have k3 : w3.cell? ⟨w.heap.size, 3, none⟩ = some (.slice d.a4 d.l4 d.c4) := cellK Bk.out 3
    have k4 : w3.cell? ⟨w.heap.size, 4, none⟩ = some (.slice d.a5 d.l5 d.c5) := cellK Bk.out 4
    have k5 : w3.cell? ⟨w.heap.size, 5, none⟩ = some (.int .i64 c.now) := cellK Bk.out 5
    have ltk_3 : w.heap.size < w3.heap.size := lt_of_some Bk.out
    go_wp2
    go_ret
    exact BoolB.f (fun h => by have := HI3.out.2 h.2.2.1; cases this) HB.out
  have k0 : w3.cell? ⟨w.heap.size, 0, none⟩ = some (.slice d.a1 d.l1 d.c1) := cellK Bk.out 0
  have k1 : w3.cell? ⟨w.heap.size, 1, none⟩ = some (.slice d.a2 d.l2 d.c2) := cellK Bk.out 1
  have k2 : w3.cell? ⟨w.heap.size, 2, none⟩ = some (.slice d.a3 d.l3 d.c3) := cellK Bk.out 2
  have k3 : w3.cell? ⟨w.heap.size, 3, none⟩ = some (.slice d.a4 d.l4 d.c4) := cellK Bk.out 3
  have k4 : w3.cell? ⟨w.heap.size, 4, none⟩ = some (.slice d.a5 d.l5 d.c5) := cellK Bk.out 4
  have k5 : w3.cell? ⟨w.heap.size, 5, none⟩ = some (.int .i64 c.now) := cellK Bk.out 5
  have ltk_3 : w.heap.size < w3.heap.size := lt_of_some Bk.out
  go_wp2_with fail
  refine (iplaced_any d c _ (HR.out.below HB.out) HOK.out.1.2.2 HOK.out.2.2.2.1.2.2 HOK.out.2.2.1.2.2 HOK.out.ne (by have := HOK.out.2.2.2.2.1; omega) HOK.out.cpu (HE.out.below HB.out)).mono ?_
  rintro e w4 ⟨r, rfl, hi, hb⟩
  clear k0 k1 k2 k3 k4 k5 ltk_3
  have Ck := hidK ((hb.block (w.heap.size) (by have := lt_of_some Bk.out; omega)).trans (Bk.out))
  have HB4 := hidK (HB.out.trans (hb.mono HB.out.size))
  clear HB hb Bk
  have HB := HB4
  clear HB4
  have Bk := Ck
  clear Ck
  have HI4 := hidK hi
  clear hi
  cases r
  · have k0 : w4.cell? ⟨w.heap.size, 0, none⟩ = some (.slice d.a1 d.l1 d.c1) := cellK Bk.out 0
    have k1 : w4.cell? ⟨w.heap.size, 1, none⟩ = some (.slice d.a2 d.l2 d.c2) := cellK Bk.out 1
    have k2 : w4.cell? ⟨w.heap.size, 2, none⟩ = some (.slice d.a3 d.l3 d.c3) := cellK Bk.out 2
    have k3 : w4.cell? ⟨w.heap.size, 3, none⟩ = some (.slice d.a4 d.l4 d.c4) := cellK Bk.out 3
    have k4 : w4.cell? ⟨w.heap.size, 4, none⟩ = some (.slice d.a5 d.l5 d.c5) := cellK Bk.out 4
    have k5 : w4.cell? ⟨w.heap.size, 5, none⟩ = some (.int .i64 c.now) := cellK Bk.out 5
    have ltk_4 : w.heap.size < w4.heap.size := lt_of_some Bk.out
    go_wp2
    go_ret
    exact BoolB.f (fun h => by have := HI4.out.2 h.2.2.2.1; cases this) HB.out
  have k0 : w4.cell? ⟨w.heap.size, 0, none⟩ = some (.slice d.a1 d.l1 d.c1) := cellK Bk.out 0
  have k1 : w4.cell? ⟨w.heap.size, 1, none⟩ = some (.slice d.a2 d.l2 d.c2) := cellK Bk.out 1
  have k2 : w4.cell? ⟨w.heap.size, 2, none⟩ = some (.slice d.a3 d.l3 d.c3) := cellK Bk.out 2
  have k3 : w4.cell? ⟨w.heap.size, 3, none⟩ = some (.slice d.a4 d.l4 d.c4) := cellK Bk.out 3
  have k4 : w4.cell? ⟨w.heap.size, 4, none⟩ = some (.slice d.a5 d.l5 d.c5) := cellK Bk.out 4
  have k5 : w4.cell? ⟨w.heap.size, 5, none⟩ = some (.int .i64 c.now) := cellK Bk.out 5
  have ltk_4 : w.heap.size < w4.heap.size := lt_of_some Bk.out
  go_wp2_with fail
  refine (iattached_any d c _ (HR.out.below HB.out) HOK.out.1.2.2 (by have := HOK.out.2.2.1.1; omega)).mono ?_
  rintro e w5 ⟨r, rfl, hi, hb⟩
  clear k0 k1 k2 k3 k4 k5 ltk_4
  have Ck := hidK ((hb.block (w.heap.size) (by have := lt_of_some Bk.out; omega)).trans (Bk.out))
  have HB5 := hidK (HB.out.trans (hb.mono HB.out.size))
  clear HB hb Bk
  have HB := HB5
  clear HB5
  have Bk := Ck
  clear Ck
  have HI5 := hidK hi
  clear hi
  cases r
  · have k0 : w5.cell? ⟨w.heap.size, 0, none⟩ = some (.slice d.a1 d.l1 d.c1) := cellK Bk.out 0
    have k1 : w5.cell? ⟨w.heap.size, 1, none⟩ = some (.slice d.a2 d.l2 d.c2) := cellK Bk.out 1
    have k2 : w5.cell? ⟨w.heap.size, 2, none⟩ = some (.slice d.a3 d.l3 d.c3) := cellK Bk.out 2
    have k3 : w5.cell? ⟨w.heap.size, 3, none⟩ = some (.slice d.a4 d.l4 d.c4) := cellK Bk.out 3
    have k4 : w5.cell? ⟨w.heap.size, 4, none⟩ = some (.slice d.a5 d.l5 d.c5) := cellK Bk.out 4
    have k5 : w5.cell? ⟨w.heap.size, 5, none⟩ = some (.int .i64 c.now) := cellK Bk.out 5
    have ltk_5 : w.heap.size < w5.heap.size := lt_of_some Bk.out
    go_wp2
    go_ret
    exact BoolB.f (fun h => by have := HI5.out.2 h.2.2.2.2.1; cases this) HB.out
  have k0 : w5.cell? ⟨w.heap.size, 0, none⟩ = some (.slice d.a1 d.l1 d.c1) := cellK Bk.out 0
  have k1 : w5.cell? ⟨w.heap.size, 1, none⟩ = some (.slice d.a2 d.l2 d.c2) := cellK Bk.out 1
  have k2 : w5.cell? ⟨w.heap.size, 2, none⟩ = some (.slice d.a3 d.l3 d.c3) := cellK Bk.out 2
  have k3 : w5.cell? ⟨w.heap.size, 3, none⟩ = some (.slice d.a4 d.l4 d.c4) := cellK Bk.out 3
  have k4 : w5.cell? ⟨w.heap.size, 4, none⟩ = some (.slice d.a5 d.l5 d.c5) := cellK Bk.out 4
  have k5 : w5.cell? ⟨w.heap.size, 5, none⟩ = some (.int .i64 c.now) := cellK Bk.out 5
  have ltk_5 : w.heap.size < w5.heap.size := lt_of_some Bk.out
  go_wp2_with fail
  refine (imounted_any d c _ (HR.out.below HB.out) HOK.out.1.2.2 HOK.out.2.2.2.1.2.2 HOK.out.2.2.1.2.2 HOK.out.ne).mono ?_
  rintro e w6 ⟨r, rfl, hi, hb⟩
  clear k0 k1 k2 k3 k4 k5 ltk_5
  have Ck := hidK ((hb.block (w.heap.size) (by have := lt_of_some Bk.out; omega)).trans (Bk.out))
  have HB6 := hidK (HB.out.trans (hb.mono HB.out.size))
  clear HB hb Bk
  have HB := HB6
  clear HB6
  have Bk := Ck
  clear Ck
  have HI6 := hidK hi
  clear hi
  cases r
  · have k0 : w6.cell? ⟨w.heap.size, 0, none⟩ = some (.slice d.a1 d.l1 d.c1) := cellK Bk.out 0
    have k1 : w6.cell? ⟨w.heap.size, 1, none⟩ = some (.slice d.a2 d.l2 d.c2) := cellK Bk.out 1
    have k2 : w6.cell? ⟨w.heap.size, 2, none⟩ = some (.slice d.a3 d.l3 d.c3) := cellK Bk.out 2
    have k3 : w6.cell? ⟨w.heap.size, 3, none⟩ = some (.slice d.a4 d.l4 d.c4) := cellK Bk.out 3
    have k4 : w6.cell? ⟨w.heap.size, 4, none⟩ = some (.slice d.a5 d.l5 d.c5) := cellK Bk.out 4
    have k5 : w6.cell? ⟨w.heap.size, 5, none⟩ = some (.int .i64 c.now) := cellK Bk.out 5
    have ltk_6 : w.heap.size < w6.heap.size := lt_of_some Bk.out
    go_wp2
    go_ret
    exact BoolB.f (fun h => by have := HI6.out.2 h.2.2.2.2.2; cases this) HB.out
  go_wp2
  go_ret
  exact BoolB.t ⟨HI1.out.1 (by first | trivial | rfl), HI2.out.1 (by first | trivial | rfl), HI3.out.1 (by first | trivial | rfl), HI4.out.1 (by first | trivial | rfl), HI5.out.1 (by first | trivial | rfl), HI6.out.1 (by first | trivial | rfl)⟩ HB.out

end Rc
end Go.Proofs.YtcljghpfclegmaaGreatDoor
