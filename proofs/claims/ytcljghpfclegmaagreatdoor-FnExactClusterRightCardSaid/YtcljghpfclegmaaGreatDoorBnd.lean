/-
  What is bound, as the program asks it.
-/
import Derived.Test.YtcljghpfclegmaaGreatDoorGNode
import Derived.Test.YtcljghpfclegmaaGreatDoorGClass
import Derived.Test.YtcljghpfclegmaaGreatDoorGVolume
import Derived.Test.YtcljghpfclegmaaGreatDoorGClaim
import Derived.Test.YtcljghpfclegmaaGreatDoorGPod
namespace Go.Proofs.YtcljghpfclegmaaGreatDoor
open Go.RowKit
namespace Rc
open Mk

/-- The program's word for what is not there: no nil. -/
def ens (w : World) : Prop := ∃ T v, w.cell? ⟨4, 0, none⟩ = some (.iface T v)
theorem ens.lt {w : World} (h : ens w) : 4 < w.heap.size := by
  obtain ⟨T, v, h⟩ := h
  rcases Nat.lt_or_ge (4) w.heap.size with h1 | h1
  · exact h1
  · simp [World.cell?, Array.getElem?_eq_none h1] at h
theorem ens.below {w w' : World} (h : ens w) (hb : Below w.heap.size w w') : ens w' := by
  have hl := h.lt
  obtain ⟨T, v, h⟩ := h
  exact ⟨T, v, (cell_below hb hl).trans h⟩
theorem isE_y {s : ByteArray} (h : s = ⟨#[]⟩) : s.toList.isEmpty = true := by rw [h]; exact isE_yes
/-- Nil, or not. -/
def WhyB (p : Prop) (w : World) (e : Ending) (w' : World) : Prop := Below w.heap.size w w' ∧ ((p ∧ e = .returned .nilIface) ∨ (¬ p ∧ ∃ T v, e = .returned (.iface T v)))

set_option maxRecDepth 100000 in
set_option maxHeartbeats 3200000 in
theorem iclassWhy_any (d : Ad) (now : Int) (xs : List Kd) (t : ByteArray) (w : World) (hr : RRow w d.a2 d.l2 d.c2 4 (xs.map kdF)) (hG : ens w) :
    Calls Tryz.prog 107 #[.agg #[.slice d.a1 d.l1 d.c1, .slice d.a2 d.l2 d.c2, .slice d.a3 d.l3 d.c3, .slice d.a4 d.l4 d.c4, .slice d.a5 d.l5 d.c5, .int .i64 now], .string t] w (WhyB (hit Kd.n xs t = true) w) := by
  have HR := hidK hr
  have HE := hidK hG
  have HB := hidK (Below.refl w.heap.size w)
  clear hr hG
  go_enter Tryz.func107, Tryz.ntmps107
  go_wp2_with fail
  refine (thekd_any d now xs t w _ HR.out (below1 _ _)).mono ?_
  rintro e w1 ⟨hb, hf⟩
  have hsz1 : (w.alloc (.cells #[.slice d.a1 d.l1 d.c1, .slice d.a2 d.l2 d.c2, .slice d.a3 d.l3 d.c3, .slice d.a4 d.l4 d.c4, .slice d.a5 d.l5 d.c5, .int .i64 now] 37)).heap.size = w.heap.size + 1 := by simp
  have Ck : Hid (w1.heap[w.heap.size]? = some (.cells #[.slice d.a1 d.l1 d.c1, .slice d.a2 d.l2 d.c2, .slice d.a3 d.l3 d.c3, .slice d.a4 d.l4 d.c4, .slice d.a5 d.l5 d.c5, .int .i64 now] 37 (0, 0))) := (hb.block (w.heap.size) (by rw [hsz1]; omega)).trans (Array.getElem?_push_size)
  have HB1 := hidK (HB.out.trans (((below1 _ _ : Below w.heap.size w (w.alloc (.cells #[.slice d.a1 d.l1 d.c1, .slice d.a2 d.l2 d.c2, .slice d.a3 d.l3 d.c3, .slice d.a4 d.l4 d.c4, .slice d.a5 d.l5 d.c5, .int .i64 now] 37))).trans (hb.mono (by rw [hsz1]; omega))).mono HB.out.size))
  clear HB hb hsz1
  have HB := HB1
  clear HB1
  have Bk := Ck
  clear Ck
  obtain ⟨T, v, hv⟩ := HE.out.below HB.out
  have hl := (HE.out.below HB.out).lt
  clear HE HR
  rcases hf with ⟨hh, x, hx, hn, rfl, z0, z3⟩ | ⟨hh, rfl⟩
  · have HH := hidK hh
    clear hh hx hn z0 z3
    go_wp2
    go_ret
    exact ⟨(HB.out.alloc HB.out.size _), .inl ⟨HH.out, rfl⟩⟩
  · have HH := hidK hh
    clear hh
    go_wp2
    go_ret
    exact ⟨(HB.out.alloc HB.out.size _), .inr ⟨by rw [HH.out]; decide, T, v, rfl⟩⟩

/-- A claim and a disk that have each other, and the disk is what the claim asks for. -/
def Bond (c : Cl) (t s : ByteArray) : Prop := ∃ (i j : Nat) (x : Xd) (v : Vd), c.xs[i]? = some x ∧ x.n = t ∧ c.vs[j]? = some v ∧ v.n = s ∧ x.v = s ∧ v.m = t ∧ x.z ≤ v.c ∧ v.k = x.k ∧ v.x = x.x

set_option maxRecDepth 100000 in
set_option maxHeartbeats 3200000 in
theorem ibond_any (d : Ad) (c : Cl) (t s : ByteArray) (w : World) (hr : ClRow w d c.raw) (hx : RisBy Xd.n c.xs) (hv : RisBy Vd.n c.vs) :
    Calls Tryz.prog 150 #[.agg #[.slice d.a1 d.l1 d.c1, .slice d.a2 d.l2 d.c2, .slice d.a3 d.l3 d.c3, .slice d.a4 d.l4 d.c4, .slice d.a5 d.l5 d.c5, .int .i64 c.now], .string t, .string s] w (BoolB (Bond c t s) w) := by
  have HR := hidK hr
  have HB := hidK (Below.refl w.heap.size w)
  have HX := hidK hx
  have HV := hidK hv
  clear hr hx hv
  go_enter Tryz.func150, Tryz.ntmps150
  go_wp2_with fail
  refine (thexd_any d c.now c.xs t w _ HR.out.x (below1 _ _)).mono ?_
  rintro e w1 ⟨hb, hf⟩
  have hsz1 : (w.alloc (.cells #[.slice d.a1 d.l1 d.c1, .slice d.a2 d.l2 d.c2, .slice d.a3 d.l3 d.c3, .slice d.a4 d.l4 d.c4, .slice d.a5 d.l5 d.c5, .int .i64 c.now] 37)).heap.size = w.heap.size + 1 := by simp
  have Ck : Hid (w1.heap[w.heap.size]? = some (.cells #[.slice d.a1 d.l1 d.c1, .slice d.a2 d.l2 d.c2, .slice d.a3 d.l3 d.c3, .slice d.a4 d.l4 d.c4, .slice d.a5 d.l5 d.c5, .int .i64 c.now] 37 (0, 0))) := (hb.block (w.heap.size) (by rw [hsz1]; omega)).trans (Array.getElem?_push_size)
  have HB1 := hidK (HB.out.trans (((below1 _ _ : Below w.heap.size w (w.alloc (.cells #[.slice d.a1 d.l1 d.c1, .slice d.a2 d.l2 d.c2, .slice d.a3 d.l3 d.c3, .slice d.a4 d.l4 d.c4, .slice d.a5 d.l5 d.c5, .int .i64 c.now] 37))).trans (hb.mono (by rw [hsz1]; omega))).mono HB.out.size))
  clear HB hb hsz1
  have HB := HB1
  clear HB1
  have Bk := Ck
  clear Ck
  rcases hf with ⟨hh, x, hx, hn, rfl, z0, z2, z4⟩ | ⟨hh, rfl⟩
  · have HX1 := hidK hx
    have HN1 := hidK hn
    clear hx hn hh z0 z2 z4
    have k0 : w1.cell? ⟨w.heap.size, 0, none⟩ = some (.slice d.a1 d.l1 d.c1) := cellK Bk.out 0
    have k1 : w1.cell? ⟨w.heap.size, 1, none⟩ = some (.slice d.a2 d.l2 d.c2) := cellK Bk.out 1
    have k2 : w1.cell? ⟨w.heap.size, 2, none⟩ = some (.slice d.a3 d.l3 d.c3) := cellK Bk.out 2
    have k3 : w1.cell? ⟨w.heap.size, 3, none⟩ = some (.slice d.a4 d.l4 d.c4) := cellK Bk.out 3
    have k4 : w1.cell? ⟨w.heap.size, 4, none⟩ = some (.slice d.a5 d.l5 d.c5) := cellK Bk.out 4
    have k5 : w1.cell? ⟨w.heap.size, 5, none⟩ = some (.int .i64 c.now) := cellK Bk.out 5
    have ltk_1 : w.heap.size < w1.heap.size := lt_of_some Bk.out
    go_wp2_with fail
    refine (thevd_any d c.now c.vs s w _ HR.out.v (HB.out.trans ((below1 _ _).mono HB.out.size))).mono ?_
    rintro e w2 ⟨hb, hf⟩
    clear k0 k1 k2 k3 k4 k5 ltk_1
    have hsz2 : (w1.alloc (.cells #[.string x.n, .int .i64 x.z, .string x.k, .bool x.x, .string x.v] 69)).heap.size = w1.heap.size + 1 := by simp
    have Ck := hidK ((hb.block w.heap.size (by rw [hsz2]; have := lt_of_some Bk.out; omega)).trans ((Below.heap_alloc _ _ _ (lt_of_some Bk.out)).trans (Bk.out)))
    have Cx : Hid (w2.heap[w1.heap.size]? = some (.cells #[.string x.n, .int .i64 x.z, .string x.k, .bool x.x, .string x.v] 69 (0, 0))) := (hb.block (w1.heap.size) (by rw [hsz2]; omega)).trans (Array.getElem?_push_size)
    have HB2 := hidK (HB.out.trans (((below1 _ _ : Below w1.heap.size w1 (w1.alloc (.cells #[.string x.n, .int .i64 x.z, .string x.k, .bool x.x, .string x.v] 69))).trans (hb.mono (by rw [hsz2]; omega))).mono HB.out.size))
    clear HB hb Bk hsz2
    have HB := HB2
    clear HB2
    have Bk := Ck
    clear Ck
    have Bx := Cx
    clear Cx
    rcases hf with ⟨hh, v, va, vl, vc, hx, hn, rfl, z0, z2, z3, z5, hvr⟩ | ⟨hh, rfl⟩
    · have HX2 := hidK hx
      have HN2 := hidK hn
      clear hx hn hh z0 z2 z3 z5 hvr
      have x0 : w2.cell? ⟨w1.heap.size, 0, none⟩ = some (.string x.n) := cellK Bx.out 0
      have x1 : w2.cell? ⟨w1.heap.size, 1, none⟩ = some (.int .i64 x.z) := cellK Bx.out 1
      have x2 : w2.cell? ⟨w1.heap.size, 2, none⟩ = some (.string x.k) := cellK Bx.out 2
      have x3 : w2.cell? ⟨w1.heap.size, 3, none⟩ = some (.bool x.x) := cellK Bx.out 3
      have x4 : w2.cell? ⟨w1.heap.size, 4, none⟩ = some (.string x.v) := cellK Bx.out 4
      have ltx_2 : w1.heap.size < w2.heap.size := lt_of_some Bx.out
      cases q1 : (x.v.toList == s.toList)
      · go_wp2
        go_ret
        refine BoolB.f (fun ⟨i, j, x', v', e1, e2, e3, e4, e5, _⟩ => ?_) (HB.out.alloc HB.out.size _)
        obtain ⟨_, rfl⟩ := HX.out.inj e1 HX1.out (e2.trans HN1.out.symm)
        rw [tl_yes e5] at q1; cases q1
      cases q2 : (v.m.toList == t.toList)
      · go_wp2
        go_ret
        refine BoolB.f (fun ⟨i, j, x', v', e1, e2, e3, e4, e5, e6, _⟩ => ?_) (HB.out.alloc HB.out.size _)
        obtain ⟨_, rfl⟩ := HV.out.inj e3 HX2.out (e4.trans HN2.out.symm)
        rw [tl_yes e6] at q2; cases q2
      by_cases q3 : x.z ≤ v.c
      rotate_left
      · go_wp2
        go_ret
        refine BoolB.f (fun ⟨i, j, x', v', e1, e2, e3, e4, e5, e6, e7, _⟩ => ?_) (HB.out.alloc HB.out.size _)
        obtain ⟨_, rfl⟩ := HX.out.inj e1 HX1.out (e2.trans HN1.out.symm)
        obtain ⟨_, rfl⟩ := HV.out.inj e3 HX2.out (e4.trans HN2.out.symm)
        omega
      cases q4 : (v.k.toList == x.k.toList)
      · go_wp2
        go_ret
        refine BoolB.f (fun ⟨i, j, x', v', e1, e2, e3, e4, e5, e6, e7, e8, _⟩ => ?_) (HB.out.alloc HB.out.size _)
        obtain ⟨_, rfl⟩ := HX.out.inj e1 HX1.out (e2.trans HN1.out.symm)
        obtain ⟨_, rfl⟩ := HV.out.inj e3 HX2.out (e4.trans HN2.out.symm)
        rw [tl_yes e8] at q4; cases q4
      cases q5 : (v.x == x.x)
      · go_wp2
        go_ret
        refine BoolB.f (fun ⟨i, j, x', v', e1, e2, e3, e4, e5, e6, e7, e8, e9⟩ => ?_) (HB.out.alloc HB.out.size _)
        obtain ⟨_, rfl⟩ := HX.out.inj e1 HX1.out (e2.trans HN1.out.symm)
        obtain ⟨_, rfl⟩ := HV.out.inj e3 HX2.out (e4.trans HN2.out.symm)
        rw [e9] at q5; simp at q5
      · go_wp2
        go_ret
        exact BoolB.t ⟨_, _, x, v, HX1.out, HN1.out, HX2.out, HN2.out, tl_inj q1, tl_inj q2, q3, tl_inj q4, by simpa using q5⟩ (HB.out.alloc HB.out.size _)
    · have HH2 := hidK hh
      clear hh
      have x0 : w2.cell? ⟨w1.heap.size, 0, none⟩ = some (.string x.n) := cellK Bx.out 0
      have x1 : w2.cell? ⟨w1.heap.size, 1, none⟩ = some (.int .i64 x.z) := cellK Bx.out 1
      have x2 : w2.cell? ⟨w1.heap.size, 2, none⟩ = some (.string x.k) := cellK Bx.out 2
      have x3 : w2.cell? ⟨w1.heap.size, 3, none⟩ = some (.bool x.x) := cellK Bx.out 3
      have x4 : w2.cell? ⟨w1.heap.size, 4, none⟩ = some (.string x.v) := cellK Bx.out 4
      have ltx_2 : w1.heap.size < w2.heap.size := lt_of_some Bx.out
      go_wp2
      go_ret
      refine BoolB.f (fun ⟨i, j, x', v', e1, e2, e3, e4, _⟩ => ?_) (HB.out.alloc HB.out.size _)
      have := (hit_at HV.out e3 e4).2
      rw [HH2.out] at this
      cases this
  · have HH1 := hidK hh
    clear hh
    have k0 : w1.cell? ⟨w.heap.size, 0, none⟩ = some (.slice d.a1 d.l1 d.c1) := cellK Bk.out 0
    have k1 : w1.cell? ⟨w.heap.size, 1, none⟩ = some (.slice d.a2 d.l2 d.c2) := cellK Bk.out 1
    have k2 : w1.cell? ⟨w.heap.size, 2, none⟩ = some (.slice d.a3 d.l3 d.c3) := cellK Bk.out 2
    have k3 : w1.cell? ⟨w.heap.size, 3, none⟩ = some (.slice d.a4 d.l4 d.c4) := cellK Bk.out 3
    have k4 : w1.cell? ⟨w.heap.size, 4, none⟩ = some (.slice d.a5 d.l5 d.c5) := cellK Bk.out 4
    have k5 : w1.cell? ⟨w.heap.size, 5, none⟩ = some (.int .i64 c.now) := cellK Bk.out 5
    have ltk_1 : w.heap.size < w1.heap.size := lt_of_some Bk.out
    go_wp2_with fail
    refine (thevd_any d c.now c.vs s w _ HR.out.v (HB.out.trans ((below1 _ _).mono HB.out.size))).mono ?_
    rintro e w2 ⟨hb, hf⟩
    clear k0 k1 k2 k3 k4 k5 ltk_1
    have hsz2 : (w1.alloc (.cells #[.string ⟨#[]⟩, .int .i64 0, .string ⟨#[]⟩, .bool false, .string ⟨#[]⟩] 69)).heap.size = w1.heap.size + 1 := by simp
    have Ck := hidK ((hb.block w.heap.size (by rw [hsz2]; have := lt_of_some Bk.out; omega)).trans ((Below.heap_alloc _ _ _ (lt_of_some Bk.out)).trans (Bk.out)))
    have Cx : Hid (w2.heap[w1.heap.size]? = some (.cells #[.string ⟨#[]⟩, .int .i64 0, .string ⟨#[]⟩, .bool false, .string ⟨#[]⟩] 69 (0, 0))) := (hb.block (w1.heap.size) (by rw [hsz2]; omega)).trans (Array.getElem?_push_size)
    have HB2 := hidK (HB.out.trans (((below1 _ _ : Below w1.heap.size w1 (w1.alloc (.cells #[.string ⟨#[]⟩, .int .i64 0, .string ⟨#[]⟩, .bool false, .string ⟨#[]⟩] 69))).trans (hb.mono (by rw [hsz2]; omega))).mono HB.out.size))
    clear HB hb Bk hsz2
    have HB := HB2
    clear HB2
    have Bk := Ck
    clear Ck
    have Bx := Cx
    clear Cx
    rcases hf with ⟨hh, v, va, vl, vc, hx, hn, rfl, z0, z2, z3, z5, hvr⟩ | ⟨hh, rfl⟩
    · have HX2 := hidK hx
      have HN2 := hidK hn
      clear hx hn hh z0 z2 z3 z5 hvr
      have x0 : w2.cell? ⟨w1.heap.size, 0, none⟩ = some (.string ⟨#[]⟩) := cellK Bx.out 0
      have x1 : w2.cell? ⟨w1.heap.size, 1, none⟩ = some (.int .i64 0) := cellK Bx.out 1
      have x2 : w2.cell? ⟨w1.heap.size, 2, none⟩ = some (.string ⟨#[]⟩) := cellK Bx.out 2
      have x3 : w2.cell? ⟨w1.heap.size, 3, none⟩ = some (.bool false) := cellK Bx.out 3
      have x4 : w2.cell? ⟨w1.heap.size, 4, none⟩ = some (.string ⟨#[]⟩) := cellK Bx.out 4
      have ltx_2 : w1.heap.size < w2.heap.size := lt_of_some Bx.out
      go_wp2
      go_ret
      refine BoolB.f (fun ⟨i, j, x', v', e1, e2, e3, e4, _⟩ => ?_) (HB.out.alloc HB.out.size _)
      have := (hit_at HX.out e1 e2).2
      rw [HH1.out] at this
      cases this
    · have HH2 := hidK hh
      clear hh
      have x0 : w2.cell? ⟨w1.heap.size, 0, none⟩ = some (.string ⟨#[]⟩) := cellK Bx.out 0
      have x1 : w2.cell? ⟨w1.heap.size, 1, none⟩ = some (.int .i64 0) := cellK Bx.out 1
      have x2 : w2.cell? ⟨w1.heap.size, 2, none⟩ = some (.string ⟨#[]⟩) := cellK Bx.out 2
      have x3 : w2.cell? ⟨w1.heap.size, 3, none⟩ = some (.bool false) := cellK Bx.out 3
      have x4 : w2.cell? ⟨w1.heap.size, 4, none⟩ = some (.string ⟨#[]⟩) := cellK Bx.out 4
      have ltx_2 : w1.heap.size < w2.heap.size := lt_of_some Bx.out
      go_wp2
      go_ret
      refine BoolB.f (fun ⟨i, j, x', v', e1, e2, e3, e4, _⟩ => ?_) (HB.out.alloc HB.out.size _)
      have := (hit_at HX.out e1 e2).2
      rw [HH1.out] at this
      cases this

/-- What the program asks of a disk and of a claim, of what is bound. -/
def QV (c : Cl) (v : Vd) : Prop := hit Kd.n c.ks v.k = true ∧ (v.m = ⟨#[]⟩ ∨ Bond c v.m v.n)
def QX (c : Cl) (x : Xd) : Prop := hit Kd.n c.ks x.k = true ∧ (x.v = ⟨#[]⟩ ∨ Bond c x.n x.v)
def BoundI (c : Cl) : Prop := (∀ (j : Nat) v, c.vs[j]? = some v → QV c v) ∧ (∀ (j : Nat) x, c.xs[j]? = some x → QX c x)

set_option maxRecDepth 100000 in
set_option maxHeartbeats 3200000 in
theorem ibound_any (d : Ad) (c : Cl) (w : World) (hr : ClRow w d c.raw) (hxr : RisBy Xd.n c.xs) (hvr : RisBy Vd.n c.vs) (hG : ens w) :
    Calls Tryz.prog 67 #[.agg #[.slice d.a1 d.l1 d.c1, .slice d.a2 d.l2 d.c2, .slice d.a3 d.l3 d.c3, .slice d.a4 d.l4 d.c4, .slice d.a5 d.l5 d.c5, .int .i64 c.now]] w (BoolB (BoundI c) w) := by
  obtain ⟨a1, l1, y1, a2, l2, y2, a3, l3, y3, a4, l4, y4, a5, l5, y5⟩ := d
  dsimp only
  have HR := hidK hr
  have hl1 : c.ns.length = l1 := by simpa using (show (c.ns.map ndF).length = l1 from hr.n.1)
  have hm1 : l1 ≤ 9223372036854775807 := Nat.le_trans hr.n.2.1 hr.n.2.2.1
  have hl2 : c.ks.length = l2 := by simpa using (show (c.ks.map kdF).length = l2 from hr.k.1)
  have hm2 : l2 ≤ 9223372036854775807 := Nat.le_trans hr.k.2.1 hr.k.2.2.1
  have hl3 : c.vs.length = l3 := by simpa using (show (c.vs.map vdF).length = l3 from hr.v.1)
  have hm3 : l3 ≤ 9223372036854775807 := Nat.le_trans hr.v.2.1 hr.v.2.2.1
  have hl4 : c.xs.length = l4 := by simpa using (show (c.xs.map xdF).length = l4 from hr.x.1)
  have hm4 : l4 ≤ 9223372036854775807 := Nat.le_trans hr.x.2.1 hr.x.2.2.1
  have hl5 : c.ps.length = l5 := by simpa using (show (c.ps.map pdF).length = l5 from hr.p.1)
  have hm5 : l5 ≤ 9223372036854775807 := Nat.le_trans hr.p.2.1 hr.p.2.2.1
  clear hr
  have HE := hidK hG
  have HXR := hidK hxr
  have HVR := hidK hvr
  clear hG hxr hvr
  go_enter Tryz.func67, Tryz.ntmps67
  go_wp2
  go_loopw [10] (fun i wr => ∃ k : Nat, k ≤ l3 ∧ i = .int .i64 k ∧ Hid (∀ (j : Nat) z, j < k → c.vs[j]? = some z → QV c z) ∧ Hid (Below w.heap.size w wr) ∧ Hid (wr.heap[w.heap.size]? = some (.cells #[.slice a1 l1 y1, .slice a2 l2 y2, .slice a3 l3 y3, .slice a4 l4 y4, .slice a5 l5 y5, .int .i64 c.now] 37 (0, 0)))) (fun i _ => l3 - (intOf i).toNat)
  case atStart => exact ⟨0, by omega, rfl, fun _ _ h => absurd h (by omega), below1 _ _, Array.getElem?_push_size⟩
  case round =>
    obtain ⟨k, hk, rfl, HQ, HB, Bk⟩ := hrel
    by_cases hlt : k < l3
    · obtain ⟨b, o, v, rfl, hb, hx, hat⟩ := vd_at (HR.out.v.below HB.out) hlt
      obtain ⟨va, vl, vc, hvr, z0, z2, z3, z5, c0, c1, c2, c3, c4, c5, c6, c7⟩ := vd_cells hat
      have HXv := hidK hx
      have HTv := hidK hvr
      have HZv0 := hidK z0
      have HZv2 := hidK z2
      have HZv3 := hidK z3
      have HZv5 := hidK z5
      clear hat hx z0 z2 z3 z5 hvr
      have k0 : wr.cell? ⟨w.heap.size, 0, none⟩ = some (.slice a1 l1 y1) := cellK Bk.out 0
      have k1 : wr.cell? ⟨w.heap.size, 1, none⟩ = some (.slice a2 l2 y2) := cellK Bk.out 1
      have k2 : wr.cell? ⟨w.heap.size, 2, none⟩ = some (.slice (some ⟨b, o, none⟩) l3 y3) := cellK Bk.out 2
      have k3 : wr.cell? ⟨w.heap.size, 3, none⟩ = some (.slice a4 l4 y4) := cellK Bk.out 3
      have k4 : wr.cell? ⟨w.heap.size, 4, none⟩ = some (.slice a5 l5 y5) := cellK Bk.out 4
      have k5 : wr.cell? ⟨w.heap.size, 5, none⟩ = some (.int .i64 c.now) := cellK Bk.out 5
      have ltk_0 : w.heap.size < wr.heap.size := lt_of_some Bk.out
      go_wp2_with fail
      refine (iclassWhy_any ⟨a1, l1, y1, a2, l2, y2, (some ⟨b, o, none⟩), l3, y3, a4, l4, y4, a5, l5, y5⟩ c.now c.ks v.k _ (HR.out.k.below (HB.out.trans ((below1 _ _).mono HB.out.size))) (HE.out.below (HB.out.trans ((below1 _ _).mono HB.out.size)))).mono ?_
      rintro e w1 ⟨hb2, hf⟩
      clear k0 k1 k2 k3 k4 k5 ltk_0
      have hsz1 : (wr.alloc (.cells #[.string v.n, .int .i64 v.c, .string v.z, .string v.k, .bool v.x, .string v.m, .bool v.y, .slice va vl vc] 60)).heap.size = wr.heap.size + 1 := by simp
      have Ck := hidK ((hb2.block w.heap.size (by rw [hsz1]; have := lt_of_some Bk.out; omega)).trans ((Below.heap_alloc _ _ _ (lt_of_some Bk.out)).trans (Bk.out)))
      have Cr : Hid (w1.heap[wr.heap.size]? = some (.cells #[.string v.n, .int .i64 v.c, .string v.z, .string v.k, .bool v.x, .string v.m, .bool v.y, .slice va vl vc] 60 (0, 0))) := (hb2.block (wr.heap.size) (by rw [hsz1]; omega)).trans (Array.getElem?_push_size)
      have HB1 := hidK (HB.out.trans (((below1 _ _ : Below wr.heap.size wr (wr.alloc (.cells #[.string v.n, .int .i64 v.c, .string v.z, .string v.k, .bool v.x, .string v.m, .bool v.y, .slice va vl vc] 60))).trans (hb2.mono (by rw [hsz1]; omega))).mono HB.out.size))
      clear HB hb2 Bk hsz1
      have HB := HB1
      clear HB1
      have Bk := Ck
      clear Ck
      have Br := Cr
      clear Cr
      clear hb c0 c1 c2 c3 c4 c5 c6 c7
      rcases hf with ⟨hh, rfl⟩ | ⟨hh, T, q, rfl⟩
      rotate_left
      · have HH := hidK hh
        clear hh
        have k0 : w1.cell? ⟨w.heap.size, 0, none⟩ = some (.slice a1 l1 y1) := cellK Bk.out 0
        have k1 : w1.cell? ⟨w.heap.size, 1, none⟩ = some (.slice a2 l2 y2) := cellK Bk.out 1
        have k2 : w1.cell? ⟨w.heap.size, 2, none⟩ = some (.slice (some ⟨b, o, none⟩) l3 y3) := cellK Bk.out 2
        have k3 : w1.cell? ⟨w.heap.size, 3, none⟩ = some (.slice a4 l4 y4) := cellK Bk.out 3
        have k4 : w1.cell? ⟨w.heap.size, 4, none⟩ = some (.slice a5 l5 y5) := cellK Bk.out 4
        have k5 : w1.cell? ⟨w.heap.size, 5, none⟩ = some (.int .i64 c.now) := cellK Bk.out 5
        have ltk_1 : w.heap.size < w1.heap.size := lt_of_some Bk.out
        have r0 : w1.cell? ⟨wr.heap.size, 0, none⟩ = some (.string v.n) := cellK Br.out 0
        have r1 : w1.cell? ⟨wr.heap.size, 1, none⟩ = some (.int .i64 v.c) := cellK Br.out 1
        have r2 : w1.cell? ⟨wr.heap.size, 2, none⟩ = some (.string v.z) := cellK Br.out 2
        have r3 : w1.cell? ⟨wr.heap.size, 3, none⟩ = some (.string v.k) := cellK Br.out 3
        have r4 : w1.cell? ⟨wr.heap.size, 4, none⟩ = some (.bool v.x) := cellK Br.out 4
        have r5 : w1.cell? ⟨wr.heap.size, 5, none⟩ = some (.string v.m) := cellK Br.out 5
        have r6 : w1.cell? ⟨wr.heap.size, 6, none⟩ = some (.bool v.y) := cellK Br.out 6
        have r7 : w1.cell? ⟨wr.heap.size, 7, none⟩ = some (.slice va vl vc) := cellK Br.out 7
        have ltr_1 : wr.heap.size < w1.heap.size := lt_of_some Br.out
        go_wp2
        go_ret
        exact BoolB.f (fun h => HH.out (h.1 k v HXv.out).1) HB.out
      have HH := hidK hh
      clear hh
      by_cases he : v.m = ⟨#[]⟩
      · have hq := isE_y he
        have HEm := hidK he
        clear he
        have k0 : w1.cell? ⟨w.heap.size, 0, none⟩ = some (.slice a1 l1 y1) := cellK Bk.out 0
        have k1 : w1.cell? ⟨w.heap.size, 1, none⟩ = some (.slice a2 l2 y2) := cellK Bk.out 1
        have k2 : w1.cell? ⟨w.heap.size, 2, none⟩ = some (.slice (some ⟨b, o, none⟩) l3 y3) := cellK Bk.out 2
        have k3 : w1.cell? ⟨w.heap.size, 3, none⟩ = some (.slice a4 l4 y4) := cellK Bk.out 3
        have k4 : w1.cell? ⟨w.heap.size, 4, none⟩ = some (.slice a5 l5 y5) := cellK Bk.out 4
        have k5 : w1.cell? ⟨w.heap.size, 5, none⟩ = some (.int .i64 c.now) := cellK Bk.out 5
        have ltk_1 : w.heap.size < w1.heap.size := lt_of_some Bk.out
        have r0 : w1.cell? ⟨wr.heap.size, 0, none⟩ = some (.string v.n) := cellK Br.out 0
        have r1 : w1.cell? ⟨wr.heap.size, 1, none⟩ = some (.int .i64 v.c) := cellK Br.out 1
        have r2 : w1.cell? ⟨wr.heap.size, 2, none⟩ = some (.string v.z) := cellK Br.out 2
        have r3 : w1.cell? ⟨wr.heap.size, 3, none⟩ = some (.string v.k) := cellK Br.out 3
        have r4 : w1.cell? ⟨wr.heap.size, 4, none⟩ = some (.bool v.x) := cellK Br.out 4
        have r5 : w1.cell? ⟨wr.heap.size, 5, none⟩ = some (.string v.m) := cellK Br.out 5
        have r6 : w1.cell? ⟨wr.heap.size, 6, none⟩ = some (.bool v.y) := cellK Br.out 6
        have r7 : w1.cell? ⟨wr.heap.size, 7, none⟩ = some (.slice va vl vc) := cellK Br.out 7
        have ltr_1 : wr.heap.size < w1.heap.size := lt_of_some Br.out
        go_wp2_with fail
        refine ⟨⟨k + 1, by omega, by go_num, fun j z hj hz => ?_, HB.out, Bk.out⟩, by simp [intOf]; omega⟩
        by_cases e : j = k
        · subst e
          rw [HXv.out] at hz
          obtain rfl := Option.some.inj hz
          exact ⟨HH.out, .inl HEm.out⟩
        · exact HQ.out j z (by omega) hz
      · have hq := isE_no he
        have HEm := hidK he
        clear he
        have k0 : w1.cell? ⟨w.heap.size, 0, none⟩ = some (.slice a1 l1 y1) := cellK Bk.out 0
        have k1 : w1.cell? ⟨w.heap.size, 1, none⟩ = some (.slice a2 l2 y2) := cellK Bk.out 1
        have k2 : w1.cell? ⟨w.heap.size, 2, none⟩ = some (.slice (some ⟨b, o, none⟩) l3 y3) := cellK Bk.out 2
        have k3 : w1.cell? ⟨w.heap.size, 3, none⟩ = some (.slice a4 l4 y4) := cellK Bk.out 3
        have k4 : w1.cell? ⟨w.heap.size, 4, none⟩ = some (.slice a5 l5 y5) := cellK Bk.out 4
        have k5 : w1.cell? ⟨w.heap.size, 5, none⟩ = some (.int .i64 c.now) := cellK Bk.out 5
        have ltk_1 : w.heap.size < w1.heap.size := lt_of_some Bk.out
        have r0 : w1.cell? ⟨wr.heap.size, 0, none⟩ = some (.string v.n) := cellK Br.out 0
        have r1 : w1.cell? ⟨wr.heap.size, 1, none⟩ = some (.int .i64 v.c) := cellK Br.out 1
        have r2 : w1.cell? ⟨wr.heap.size, 2, none⟩ = some (.string v.z) := cellK Br.out 2
        have r3 : w1.cell? ⟨wr.heap.size, 3, none⟩ = some (.string v.k) := cellK Br.out 3
        have r4 : w1.cell? ⟨wr.heap.size, 4, none⟩ = some (.bool v.x) := cellK Br.out 4
        have r5 : w1.cell? ⟨wr.heap.size, 5, none⟩ = some (.string v.m) := cellK Br.out 5
        have r6 : w1.cell? ⟨wr.heap.size, 6, none⟩ = some (.bool v.y) := cellK Br.out 6
        have r7 : w1.cell? ⟨wr.heap.size, 7, none⟩ = some (.slice va vl vc) := cellK Br.out 7
        have ltr_1 : wr.heap.size < w1.heap.size := lt_of_some Br.out
        go_wp2_with fail
        refine (ibond_any ⟨a1, l1, y1, a2, l2, y2, (some ⟨b, o, none⟩), l3, y3, a4, l4, y4, a5, l5, y5⟩ c v.m v.n _ (HR.out.below HB.out) HXR.out HVR.out).mono ?_
        rintro e w2 ⟨r, rfl, hi, hb3⟩
        clear k0 k1 k2 k3 k4 k5 ltk_1 r0 r1 r2 r3 r4 r5 r6 r7 ltr_1
        have Ck := hidK ((hb3.block w.heap.size (by have := lt_of_some Bk.out; omega)).trans (Bk.out))
        have Cr := hidK ((hb3.block wr.heap.size (by have := lt_of_some Br.out; omega)).trans (Br.out))
        have HB2 := hidK (HB.out.trans (hb3.mono HB.out.size))
        clear HB hb3 Bk Br
        have HB := HB2
        clear HB2
        have Bk := Ck
        clear Ck
        have Br := Cr
        clear Cr
        have HI := hidK hi
        clear hi
        cases r
        · go_wp2
          go_ret
          refine BoolB.f (fun h => ?_) HB.out
          rcases (h.1 k v HXv.out).2 with h2 | h2
          · exact HEm.out h2
          · have := HI.out.2 h2
            cases this
        · go_wp2_with fail
          refine ⟨⟨k + 1, by omega, by go_num, fun j z hj hz => ?_, HB.out, Bk.out⟩, by simp [intOf]; omega⟩
          by_cases e : j = k
          · subst e
            rw [HXv.out] at hz
            obtain rfl := Option.some.inj hz
            exact ⟨HH.out, .inr (HI.out.1 (by first | trivial | rfl))⟩
          · exact HQ.out j z (by omega) hz
    · obtain rfl : l3 = k := by omega
      have HQ1 : Hid (∀ (j : Nat) z, c.vs[j]? = some z → QV c z) := fun j z hz => HQ.out j z (by have := (List.getElem?_eq_some_iff.1 hz).1; omega) hz
      clear HQ
      have k3 : wr.cell? ⟨w.heap.size, 3, none⟩ = some (.slice a4 l4 y4) := cellK Bk.out 3
      have kl : w.heap.size < wr.heap.size := lt_of_some Bk.out
      go_wp2
      go_loopw [37] (fun i wr => ∃ k : Nat, k ≤ l4 ∧ i = .int .i64 k ∧ Hid (∀ (j : Nat) z, j < k → c.xs[j]? = some z → QX c z) ∧ Hid (Below w.heap.size w wr) ∧ Hid (wr.heap[w.heap.size]? = some (.cells #[.slice a1 l1 y1, .slice a2 l2 y2, .slice a3 l3 y3, .slice a4 l4 y4, .slice a5 l5 y5, .int .i64 c.now] 37 (0, 0)))) (fun i _ => l4 - (intOf i).toNat)
      case atStart => exact ⟨0, by omega, rfl, fun _ _ h => absurd h (by omega), HB.out, Bk.out⟩
      case round =>
        obtain ⟨k, hk, rfl, HQ, HB, Bk⟩ := hrel
        by_cases hlt : k < l4
        · obtain ⟨b, o, x, rfl, hb, hx, hat⟩ := xd_at (HR.out.x.below HB.out) hlt
          obtain ⟨z0, z2, z4, c0, c1, c2, c3, c4⟩ := xd_cells hat
          have HXx := hidK hx
          have HZx0 := hidK z0
          have HZx2 := hidK z2
          have HZx4 := hidK z4
          clear hat hx z0 z2 z4
          have k0 : wr.cell? ⟨w.heap.size, 0, none⟩ = some (.slice a1 l1 y1) := cellK Bk.out 0
          have k1 : wr.cell? ⟨w.heap.size, 1, none⟩ = some (.slice a2 l2 y2) := cellK Bk.out 1
          have k2 : wr.cell? ⟨w.heap.size, 2, none⟩ = some (.slice a3 l3 y3) := cellK Bk.out 2
          have k3 : wr.cell? ⟨w.heap.size, 3, none⟩ = some (.slice (some ⟨b, o, none⟩) l4 y4) := cellK Bk.out 3
          have k4 : wr.cell? ⟨w.heap.size, 4, none⟩ = some (.slice a5 l5 y5) := cellK Bk.out 4
          have k5 : wr.cell? ⟨w.heap.size, 5, none⟩ = some (.int .i64 c.now) := cellK Bk.out 5
          have ltk_0 : w.heap.size < wr.heap.size := lt_of_some Bk.out
          go_wp2_with fail
          refine (iclassWhy_any ⟨a1, l1, y1, a2, l2, y2, a3, l3, y3, (some ⟨b, o, none⟩), l4, y4, a5, l5, y5⟩ c.now c.ks x.k _ (HR.out.k.below (HB.out.trans ((below1 _ _).mono HB.out.size))) (HE.out.below (HB.out.trans ((below1 _ _).mono HB.out.size)))).mono ?_
          rintro e w1 ⟨hb2, hf⟩
          clear k0 k1 k2 k3 k4 k5 ltk_0
          have hsz1 : (wr.alloc (.cells #[.string x.n, .int .i64 x.z, .string x.k, .bool x.x, .string x.v] 69)).heap.size = wr.heap.size + 1 := by simp
          have Ck := hidK ((hb2.block w.heap.size (by rw [hsz1]; have := lt_of_some Bk.out; omega)).trans ((Below.heap_alloc _ _ _ (lt_of_some Bk.out)).trans (Bk.out)))
          have Cr : Hid (w1.heap[wr.heap.size]? = some (.cells #[.string x.n, .int .i64 x.z, .string x.k, .bool x.x, .string x.v] 69 (0, 0))) := (hb2.block (wr.heap.size) (by rw [hsz1]; omega)).trans (Array.getElem?_push_size)
          have HB1 := hidK (HB.out.trans (((below1 _ _ : Below wr.heap.size wr (wr.alloc (.cells #[.string x.n, .int .i64 x.z, .string x.k, .bool x.x, .string x.v] 69))).trans (hb2.mono (by rw [hsz1]; omega))).mono HB.out.size))
          clear HB hb2 Bk hsz1
          have HB := HB1
          clear HB1
          have Bk := Ck
          clear Ck
          have Br := Cr
          clear Cr
          clear hb c0 c1 c2 c3 c4
          rcases hf with ⟨hh, rfl⟩ | ⟨hh, T, q, rfl⟩
          rotate_left
          · have HH := hidK hh
            clear hh
            have k0 : w1.cell? ⟨w.heap.size, 0, none⟩ = some (.slice a1 l1 y1) := cellK Bk.out 0
            have k1 : w1.cell? ⟨w.heap.size, 1, none⟩ = some (.slice a2 l2 y2) := cellK Bk.out 1
            have k2 : w1.cell? ⟨w.heap.size, 2, none⟩ = some (.slice a3 l3 y3) := cellK Bk.out 2
            have k3 : w1.cell? ⟨w.heap.size, 3, none⟩ = some (.slice (some ⟨b, o, none⟩) l4 y4) := cellK Bk.out 3
            have k4 : w1.cell? ⟨w.heap.size, 4, none⟩ = some (.slice a5 l5 y5) := cellK Bk.out 4
            have k5 : w1.cell? ⟨w.heap.size, 5, none⟩ = some (.int .i64 c.now) := cellK Bk.out 5
            have ltk_1 : w.heap.size < w1.heap.size := lt_of_some Bk.out
            have r0 : w1.cell? ⟨wr.heap.size, 0, none⟩ = some (.string x.n) := cellK Br.out 0
            have r1 : w1.cell? ⟨wr.heap.size, 1, none⟩ = some (.int .i64 x.z) := cellK Br.out 1
            have r2 : w1.cell? ⟨wr.heap.size, 2, none⟩ = some (.string x.k) := cellK Br.out 2
            have r3 : w1.cell? ⟨wr.heap.size, 3, none⟩ = some (.bool x.x) := cellK Br.out 3
            have r4 : w1.cell? ⟨wr.heap.size, 4, none⟩ = some (.string x.v) := cellK Br.out 4
            have ltr_1 : wr.heap.size < w1.heap.size := lt_of_some Br.out
            go_wp2
            go_ret
            exact BoolB.f (fun h => HH.out (h.2 k x HXx.out).1) HB.out
          have HH := hidK hh
          clear hh
          by_cases he : x.v = ⟨#[]⟩
          · have hq := isE_y he
            have HEm := hidK he
            clear he
            have k0 : w1.cell? ⟨w.heap.size, 0, none⟩ = some (.slice a1 l1 y1) := cellK Bk.out 0
            have k1 : w1.cell? ⟨w.heap.size, 1, none⟩ = some (.slice a2 l2 y2) := cellK Bk.out 1
            have k2 : w1.cell? ⟨w.heap.size, 2, none⟩ = some (.slice a3 l3 y3) := cellK Bk.out 2
            have k3 : w1.cell? ⟨w.heap.size, 3, none⟩ = some (.slice (some ⟨b, o, none⟩) l4 y4) := cellK Bk.out 3
            have k4 : w1.cell? ⟨w.heap.size, 4, none⟩ = some (.slice a5 l5 y5) := cellK Bk.out 4
            have k5 : w1.cell? ⟨w.heap.size, 5, none⟩ = some (.int .i64 c.now) := cellK Bk.out 5
            have ltk_1 : w.heap.size < w1.heap.size := lt_of_some Bk.out
            have r0 : w1.cell? ⟨wr.heap.size, 0, none⟩ = some (.string x.n) := cellK Br.out 0
            have r1 : w1.cell? ⟨wr.heap.size, 1, none⟩ = some (.int .i64 x.z) := cellK Br.out 1
            have r2 : w1.cell? ⟨wr.heap.size, 2, none⟩ = some (.string x.k) := cellK Br.out 2
            have r3 : w1.cell? ⟨wr.heap.size, 3, none⟩ = some (.bool x.x) := cellK Br.out 3
            have r4 : w1.cell? ⟨wr.heap.size, 4, none⟩ = some (.string x.v) := cellK Br.out 4
            have ltr_1 : wr.heap.size < w1.heap.size := lt_of_some Br.out
            go_wp2_with fail
            refine ⟨⟨k + 1, by omega, by go_num, fun j z hj hz => ?_, HB.out, Bk.out⟩, by simp [intOf]; omega⟩
            by_cases e : j = k
            · subst e
              rw [HXx.out] at hz
              obtain rfl := Option.some.inj hz
              exact ⟨HH.out, .inl HEm.out⟩
            · exact HQ.out j z (by omega) hz
          · have hq := isE_no he
            have HEm := hidK he
            clear he
            have k0 : w1.cell? ⟨w.heap.size, 0, none⟩ = some (.slice a1 l1 y1) := cellK Bk.out 0
            have k1 : w1.cell? ⟨w.heap.size, 1, none⟩ = some (.slice a2 l2 y2) := cellK Bk.out 1
            have k2 : w1.cell? ⟨w.heap.size, 2, none⟩ = some (.slice a3 l3 y3) := cellK Bk.out 2
            have k3 : w1.cell? ⟨w.heap.size, 3, none⟩ = some (.slice (some ⟨b, o, none⟩) l4 y4) := cellK Bk.out 3
            have k4 : w1.cell? ⟨w.heap.size, 4, none⟩ = some (.slice a5 l5 y5) := cellK Bk.out 4
            have k5 : w1.cell? ⟨w.heap.size, 5, none⟩ = some (.int .i64 c.now) := cellK Bk.out 5
            have ltk_1 : w.heap.size < w1.heap.size := lt_of_some Bk.out
            have r0 : w1.cell? ⟨wr.heap.size, 0, none⟩ = some (.string x.n) := cellK Br.out 0
            have r1 : w1.cell? ⟨wr.heap.size, 1, none⟩ = some (.int .i64 x.z) := cellK Br.out 1
            have r2 : w1.cell? ⟨wr.heap.size, 2, none⟩ = some (.string x.k) := cellK Br.out 2
            have r3 : w1.cell? ⟨wr.heap.size, 3, none⟩ = some (.bool x.x) := cellK Br.out 3
            have r4 : w1.cell? ⟨wr.heap.size, 4, none⟩ = some (.string x.v) := cellK Br.out 4
            have ltr_1 : wr.heap.size < w1.heap.size := lt_of_some Br.out
            go_wp2_with fail
            refine (ibond_any ⟨a1, l1, y1, a2, l2, y2, a3, l3, y3, (some ⟨b, o, none⟩), l4, y4, a5, l5, y5⟩ c x.n x.v _ (HR.out.below HB.out) HXR.out HVR.out).mono ?_
            rintro e w2 ⟨r, rfl, hi, hb3⟩
            clear k0 k1 k2 k3 k4 k5 ltk_1 r0 r1 r2 r3 r4 ltr_1
            have Ck := hidK ((hb3.block w.heap.size (by have := lt_of_some Bk.out; omega)).trans (Bk.out))
            have Cr := hidK ((hb3.block wr.heap.size (by have := lt_of_some Br.out; omega)).trans (Br.out))
            have HB2 := hidK (HB.out.trans (hb3.mono HB.out.size))
            clear HB hb3 Bk Br
            have HB := HB2
            clear HB2
            have Bk := Ck
            clear Ck
            have Br := Cr
            clear Cr
            have HI := hidK hi
            clear hi
            cases r
            · go_wp2
              go_ret
              refine BoolB.f (fun h => ?_) HB.out
              rcases (h.2 k x HXx.out).2 with h2 | h2
              · exact HEm.out h2
              · have := HI.out.2 h2
                cases this
            · go_wp2_with fail
              refine ⟨⟨k + 1, by omega, by go_num, fun j z hj hz => ?_, HB.out, Bk.out⟩, by simp [intOf]; omega⟩
              by_cases e : j = k
              · subst e
                rw [HXx.out] at hz
                obtain rfl := Option.some.inj hz
                exact ⟨HH.out, .inr (HI.out.1 (by first | trivial | rfl))⟩
              · exact HQ.out j z (by omega) hz
        · obtain rfl : l4 = k := by omega
          have HQ2 : Hid (∀ (j : Nat) z, c.xs[j]? = some z → QX c z) := fun j z hz => HQ.out j z (by have := (List.getElem?_eq_some_iff.1 hz).1; omega) hz
          clear HQ
          go_wp2
          go_ret
          exact BoolB.t ⟨HQ1.out, HQ2.out⟩ HB.out

end Rc
end Go.Proofs.YtcljghpfclegmaaGreatDoor
