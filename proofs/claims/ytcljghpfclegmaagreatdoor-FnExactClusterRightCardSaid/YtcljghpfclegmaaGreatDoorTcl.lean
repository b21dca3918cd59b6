/-
  The laws' measure and copy of a cluster.
-/
import Derived.Test.YtcljghpfclegmaaGreatDoorClu
import Derived.Test.YtcljghpfclegmaaGreatDoorTNode
import Derived.Test.YtcljghpfclegmaaGreatDoorTClass
import Derived.Test.YtcljghpfclegmaaGreatDoorTVolume
import Derived.Test.YtcljghpfclegmaaGreatDoorTClaim
import Derived.Test.YtcljghpfclegmaaGreatDoorTPod
namespace Go.Proofs.YtcljghpfclegmaaGreatDoor
open Go.RowKit
namespace Rc
open Mk

/-- No list is longer than may be. -/
structure ClFit (c : Cl) : Prop where
  l1 : c.ns.length ≤ 1048576
  f1 : ∀ (j : Nat) x, c.ns[j]? = some x → x.zs.length ≤ 1048576
  l2 : c.ks.length ≤ 1048576
  l3 : c.vs.length ≤ 1048576
  f3 : ∀ (j : Nat) x, c.vs[j]? = some x → x.zs.length ≤ 1048576
  l4 : c.xs.length ≤ 1048576
  l5 : c.ps.length ≤ 1048576
  f5 : ∀ (j : Nat) x, c.ps[j]? = some x → x.zs.length ≤ 1048576

set_option maxRecDepth 100000 in
set_option maxHeartbeats 3200000 in
theorem szCluster_any (d : Ad) (c : Cl) (w : World) (hr : ClRow w d c.raw) :
    Calls Tryz.prog 12 #[.agg #[.slice d.a1 d.l1 d.c1, .slice d.a2 d.l2 d.c2, .slice d.a3 d.l3 d.c3, .slice d.a4 d.l4 d.c4, .slice d.a5 d.l5 d.c5, .int .i64 c.now], .int .i64 1048576] w (SzB 1048576 (ClFit c) w) := by
  have HR := hidK hr
  have HB := hidK (Below.refl w.heap.size w)
  clear hr
  go_enter Tryz.func12, Tryz.ntmps12
  go_wp2_with fail
  refine (sznd_any d.a1 d.l1 d.c1 c.ns 1048576 _ (HR.out.n.below (HB.out.trans ((below1 _ _).mono HB.out.size))) (by omega) (by omega)).mono ?_
  rintro e w1 ⟨r1, rfl, hi, hb⟩
  have hsz1 : (w.alloc (.cells #[.slice d.a1 d.l1 d.c1, .slice d.a2 d.l2 d.c2, .slice d.a3 d.l3 d.c3, .slice d.a4 d.l4 d.c4, .slice d.a5 d.l5 d.c5, .int .i64 c.now] 28)).heap.size = w.heap.size + 1 := by simp
  have Ck : Hid (w1.heap[w.heap.size]? = some (.cells #[.slice d.a1 d.l1 d.c1, .slice d.a2 d.l2 d.c2, .slice d.a3 d.l3 d.c3, .slice d.a4 d.l4 d.c4, .slice d.a5 d.l5 d.c5, .int .i64 c.now] 28 (0, 0))) := (hb.block (w.heap.size) (by rw [hsz1]; omega)).trans (Array.getElem?_push_size)
  have HB1 := hidK (HB.out.trans (((below1 _ _ : Below w.heap.size w (w.alloc (.cells #[.slice d.a1 d.l1 d.c1, .slice d.a2 d.l2 d.c2, .slice d.a3 d.l3 d.c3, .slice d.a4 d.l4 d.c4, .slice d.a5 d.l5 d.c5, .int .i64 c.now] 28))).trans (hb.mono (by rw [hsz1]; omega))).mono HB.out.size))
  clear HB hb hsz1
  have HB := HB1
  clear HB1
  have Bk := Ck
  clear Ck
  rcases hi with rfl | ⟨hr10, hr11, hz1⟩
  · have k0 : w1.cell? ⟨w.heap.size, 0, none⟩ = some (.slice d.a1 d.l1 d.c1) := cellK Bk.out 0
    have k1 : w1.cell? ⟨w.heap.size, 1, none⟩ = some (.slice d.a2 d.l2 d.c2) := cellK Bk.out 1
    have k2 : w1.cell? ⟨w.heap.size, 2, none⟩ = some (.slice d.a3 d.l3 d.c3) := cellK Bk.out 2
    have k3 : w1.cell? ⟨w.heap.size, 3, none⟩ = some (.slice d.a4 d.l4 d.c4) := cellK Bk.out 3
    have k4 : w1.cell? ⟨w.heap.size, 4, none⟩ = some (.slice d.a5 d.l5 d.c5) := cellK Bk.out 4
    have k5 : w1.cell? ⟨w.heap.size, 5, none⟩ = some (.int .i64 c.now) := cellK Bk.out 5
    have ltk_1 : w.heap.size < w1.heap.size := lt_of_some Bk.out
    go_wp2
    go_ret
    exact ⟨-1, rfl, .inl rfl, HB.out⟩
  have HZ1 := hidK hz1
  clear hz1
  have k0 : w1.cell? ⟨w.heap.size, 0, none⟩ = some (.slice d.a1 d.l1 d.c1) := cellK Bk.out 0
  have k1 : w1.cell? ⟨w.heap.size, 1, none⟩ = some (.slice d.a2 d.l2 d.c2) := cellK Bk.out 1
  have k2 : w1.cell? ⟨w.heap.size, 2, none⟩ = some (.slice d.a3 d.l3 d.c3) := cellK Bk.out 2
  have k3 : w1.cell? ⟨w.heap.size, 3, none⟩ = some (.slice d.a4 d.l4 d.c4) := cellK Bk.out 3
  have k4 : w1.cell? ⟨w.heap.size, 4, none⟩ = some (.slice d.a5 d.l5 d.c5) := cellK Bk.out 4
  have k5 : w1.cell? ⟨w.heap.size, 5, none⟩ = some (.int .i64 c.now) := cellK Bk.out 5
  have ltk_1 : w.heap.size < w1.heap.size := lt_of_some Bk.out
  go_wp2_with fail
  refine (szkd_any d.a2 d.l2 d.c2 c.ks r1 _ (HR.out.k.below HB.out) (by omega) (by omega)).mono ?_
  rintro e w2 ⟨r2, rfl, hi, hb⟩
  clear k0 k1 k2 k3 k4 k5 ltk_1
  have Ck := hidK ((hb.block (w.heap.size) (by have := lt_of_some Bk.out; omega)).trans (Bk.out))
  have HB2 := hidK (HB.out.trans (hb.mono HB.out.size))
  clear HB hb Bk
  have HB := HB2
  clear HB2
  have Bk := Ck
  clear Ck
  rcases hi with rfl | ⟨hr20, hr21, hz2⟩
  · have k0 : w2.cell? ⟨w.heap.size, 0, none⟩ = some (.slice d.a1 d.l1 d.c1) := cellK Bk.out 0
    have k1 : w2.cell? ⟨w.heap.size, 1, none⟩ = some (.slice d.a2 d.l2 d.c2) := cellK Bk.out 1
    have k2 : w2.cell? ⟨w.heap.size, 2, none⟩ = some (.slice d.a3 d.l3 d.c3) := cellK Bk.out 2
    have k3 : w2.cell? ⟨w.heap.size, 3, none⟩ = some (.slice d.a4 d.l4 d.c4) := cellK Bk.out 3
    have k4 : w2.cell? ⟨w.heap.size, 4, none⟩ = some (.slice d.a5 d.l5 d.c5) := cellK Bk.out 4
    have k5 : w2.cell? ⟨w.heap.size, 5, none⟩ = some (.int .i64 c.now) := cellK Bk.out 5
    have ltk_2 : w.heap.size < w2.heap.size := lt_of_some Bk.out
    go_wp2
    go_ret
    exact ⟨-1, rfl, .inl rfl, HB.out⟩
  have HZ2 := hidK hz2
  clear hz2
  have k0 : w2.cell? ⟨w.heap.size, 0, none⟩ = some (.slice d.a1 d.l1 d.c1) := cellK Bk.out 0
  have k1 : w2.cell? ⟨w.heap.size, 1, none⟩ = some (.slice d.a2 d.l2 d.c2) := cellK Bk.out 1
  have k2 : w2.cell? ⟨w.heap.size, 2, none⟩ = some (.slice d.a3 d.l3 d.c3) := cellK Bk.out 2
  have k3 : w2.cell? ⟨w.heap.size, 3, none⟩ = some (.slice d.a4 d.l4 d.c4) := cellK Bk.out 3
  have k4 : w2.cell? ⟨w.heap.size, 4, none⟩ = some (.slice d.a5 d.l5 d.c5) := cellK Bk.out 4
  have k5 : w2.cell? ⟨w.heap.size, 5, none⟩ = some (.int .i64 c.now) := cellK Bk.out 5
  have ltk_2 : w.heap.size < w2.heap.size := lt_of_some Bk.out
  go_wp2_with fail
  refine (szvd_any d.a3 d.l3 d.c3 c.vs r2 _ (HR.out.v.below HB.out) (by omega) (by omega)).mono ?_
  rintro e w3 ⟨r3, rfl, hi, hb⟩
  clear k0 k1 k2 k3 k4 k5 ltk_2
  have Ck := hidK ((hb.block (w.heap.size) (by have := lt_of_some Bk.out; omega)).trans (Bk.out))
  have HB3 := hidK (HB.out.trans (hb.mono HB.out.size))
  clear HB hb Bk
  have HB := HB3
  clear HB3
  have Bk := Ck
  clear Ck
  rcases hi with rfl | ⟨hr30, hr31, hz3⟩
  · have k0 : w3.cell? ⟨w.heap.size, 0, none⟩ = some (.slice d.a1 d.l1 d.c1) := cellK Bk.out 0
    have k1 : w3.cell? ⟨w.heap.size, 1, none⟩ = some (.slice d.a2 d.l2 d.c2) := cellK Bk.out 1
    have k2 : w3.cell? ⟨w.heap.size, 2, none⟩ = some (.slice d.a3 d.l3 d.c3) := cellK Bk.out 2
    have k3 : w3.cell? ⟨w.heap.size, 3, none⟩ = some (.slice d.a4 d.l4 d.c4) := cellK Bk.out 3
    have k4 : w3.cell? ⟨w.heap.size, 4, none⟩ = some (.slice d.a5 d.l5 d.c5) := cellK Bk.out 4
    have k5 : w3.cell? ⟨w.heap.size, 5, none⟩ = some (.int .i64 c.now) := cellK Bk.out 5
    have ltk_3 : w.heap.size < w3.heap.size := lt_of_some Bk.out
    go_wp2
    go_ret
    exact ⟨-1, rfl, .inl rfl, HB.out⟩
  have HZ3 := hidK hz3
  clear hz3
  have k0 : w3.cell? ⟨w.heap.size, 0, none⟩ = some (.slice d.a1 d.l1 d.c1) := cellK Bk.out 0
  have k1 : w3.cell? ⟨w.heap.size, 1, none⟩ = some (.slice d.a2 d.l2 d.c2) := cellK Bk.out 1
  have k2 : w3.cell? ⟨w.heap.size, 2, none⟩ = some (.slice d.a3 d.l3 d.c3) := cellK Bk.out 2
  have k3 : w3.cell? ⟨w.heap.size, 3, none⟩ = some (.slice d.a4 d.l4 d.c4) := cellK Bk.out 3
  have k4 : w3.cell? ⟨w.heap.size, 4, none⟩ = some (.slice d.a5 d.l5 d.c5) := cellK Bk.out 4
  have k5 : w3.cell? ⟨w.heap.size, 5, none⟩ = some (.int .i64 c.now) := cellK Bk.out 5
  have ltk_3 : w.heap.size < w3.heap.size := lt_of_some Bk.out
  go_wp2_with fail
  refine (szxd_any d.a4 d.l4 d.c4 c.xs r3 _ (HR.out.x.below HB.out) (by omega) (by omega)).mono ?_
  rintro e w4 ⟨r4, rfl, hi, hb⟩
  clear k0 k1 k2 k3 k4 k5 ltk_3
  have Ck := hidK ((hb.block (w.heap.size) (by have := lt_of_some Bk.out; omega)).trans (Bk.out))
  have HB4 := hidK (HB.out.trans (hb.mono HB.out.size))
  clear HB hb Bk
  have HB := HB4
  clear HB4
  have Bk := Ck
  clear Ck
  rcases hi with rfl | ⟨hr40, hr41, hz4⟩
  · have k0 : w4.cell? ⟨w.heap.size, 0, none⟩ = some (.slice d.a1 d.l1 d.c1) := cellK Bk.out 0
    have k1 : w4.cell? ⟨w.heap.size, 1, none⟩ = some (.slice d.a2 d.l2 d.c2) := cellK Bk.out 1
    have k2 : w4.cell? ⟨w.heap.size, 2, none⟩ = some (.slice d.a3 d.l3 d.c3) := cellK Bk.out 2
    have k3 : w4.cell? ⟨w.heap.size, 3, none⟩ = some (.slice d.a4 d.l4 d.c4) := cellK Bk.out 3
    have k4 : w4.cell? ⟨w.heap.size, 4, none⟩ = some (.slice d.a5 d.l5 d.c5) := cellK Bk.out 4
    have k5 : w4.cell? ⟨w.heap.size, 5, none⟩ = some (.int .i64 c.now) := cellK Bk.out 5
    have ltk_4 : w.heap.size < w4.heap.size := lt_of_some Bk.out
    go_wp2
    go_ret
    exact ⟨-1, rfl, .inl rfl, HB.out⟩
  have HZ4 := hidK hz4
  clear hz4
  have k0 : w4.cell? ⟨w.heap.size, 0, none⟩ = some (.slice d.a1 d.l1 d.c1) := cellK Bk.out 0
  have k1 : w4.cell? ⟨w.heap.size, 1, none⟩ = some (.slice d.a2 d.l2 d.c2) := cellK Bk.out 1
  have k2 : w4.cell? ⟨w.heap.size, 2, none⟩ = some (.slice d.a3 d.l3 d.c3) := cellK Bk.out 2
  have k3 : w4.cell? ⟨w.heap.size, 3, none⟩ = some (.slice d.a4 d.l4 d.c4) := cellK Bk.out 3
  have k4 : w4.cell? ⟨w.heap.size, 4, none⟩ = some (.slice d.a5 d.l5 d.c5) := cellK Bk.out 4
  have k5 : w4.cell? ⟨w.heap.size, 5, none⟩ = some (.int .i64 c.now) := cellK Bk.out 5
  have ltk_4 : w.heap.size < w4.heap.size := lt_of_some Bk.out
  go_wp2_with fail
  refine (szpd_any d.a5 d.l5 d.c5 c.ps r4 _ (HR.out.p.below HB.out) (by omega) (by omega)).mono ?_
  rintro e w5 ⟨r5, rfl, hi, hb⟩
  clear k0 k1 k2 k3 k4 k5 ltk_4
  have Ck := hidK ((hb.block (w.heap.size) (by have := lt_of_some Bk.out; omega)).trans (Bk.out))
  have HB5 := hidK (HB.out.trans (hb.mono HB.out.size))
  clear HB hb Bk
  have HB := HB5
  clear HB5
  have Bk := Ck
  clear Ck
  rcases hi with rfl | ⟨hr50, hr51, hz5⟩
  · have k0 : w5.cell? ⟨w.heap.size, 0, none⟩ = some (.slice d.a1 d.l1 d.c1) := cellK Bk.out 0
    have k1 : w5.cell? ⟨w.heap.size, 1, none⟩ = some (.slice d.a2 d.l2 d.c2) := cellK Bk.out 1
    have k2 : w5.cell? ⟨w.heap.size, 2, none⟩ = some (.slice d.a3 d.l3 d.c3) := cellK Bk.out 2
    have k3 : w5.cell? ⟨w.heap.size, 3, none⟩ = some (.slice d.a4 d.l4 d.c4) := cellK Bk.out 3
    have k4 : w5.cell? ⟨w.heap.size, 4, none⟩ = some (.slice d.a5 d.l5 d.c5) := cellK Bk.out 4
    have k5 : w5.cell? ⟨w.heap.size, 5, none⟩ = some (.int .i64 c.now) := cellK Bk.out 5
    have ltk_5 : w.heap.size < w5.heap.size := lt_of_some Bk.out
    go_wp2
    go_ret
    exact ⟨-1, rfl, .inl rfl, HB.out⟩
  have HZ5 := hidK hz5
  clear hz5
  go_wp2
  go_ret
  refine ⟨r5, rfl, .inr ⟨by omega, by omega, ?_⟩, HB.out⟩
  have e1 : c.ns.length = d.l1 := by simpa using (show (c.ns.map ndF).length = d.l1 from HR.out.n.1)
  have e2 : c.ks.length = d.l2 := by simpa using (show (c.ks.map kdF).length = d.l2 from HR.out.k.1)
  have e3 : c.vs.length = d.l3 := by simpa using (show (c.vs.map vdF).length = d.l3 from HR.out.v.1)
  have e4 : c.xs.length = d.l4 := by simpa using (show (c.xs.map xdF).length = d.l4 from HR.out.x.1)
  have e5 : c.ps.length = d.l5 := by simpa using (show (c.ps.map pdF).length = d.l5 from HR.out.p.1)
  exact ⟨by rw [e1]; exact HZ1.out.1, HZ1.out.2, by rw [e2]; exact HZ2.out, by rw [e3]; exact HZ3.out.1, HZ3.out.2, by rw [e4]; exact HZ4.out, by rw [e5]; exact HZ5.out.1, HZ5.out.2⟩

set_option maxRecDepth 100000 in
set_option maxHeartbeats 6400000 in
theorem toCluster_any (d : Ad) (c : Cl) (w : World) (hr : ClRow w d c.raw) (hf : ClFit c) :
    Calls Tryz.prog 14 #[.agg #[.slice d.a1 d.l1 d.c1, .slice d.a2 d.l2 d.c2, .slice d.a3 d.l3 d.c3, .slice d.a4 d.l4 d.c4, .slice d.a5 d.l5 d.c5, .int .i64 c.now]] w fun e w' => ∃ d' : Ad, e = .returned (.agg #[.slice d'.a1 d'.l1 d'.c1, .slice d'.a2 d'.l2 d'.c2, .slice d'.a3 d'.l3 d'.c3, .slice d'.a4 d'.l4 d'.c4, .slice d'.a5 d'.l5 d'.c5, .int .i64 c.now]) ∧ ClOwn w' d' c.raw (fun k => w.heap.size ≤ k) ∧ Below w.heap.size w w' := by
  have HR := hidK hr
  have HF := hidK hf
  have e1 : c.ns.length = d.l1 := by simpa using (show (c.ns.map ndF).length = d.l1 from hr.n.1)
  have hL1 : d.l1 ≤ 1048576 := by rw [← e1]; exact hf.l1
  have e2 : c.ks.length = d.l2 := by simpa using (show (c.ks.map kdF).length = d.l2 from hr.k.1)
  have hL2 : d.l2 ≤ 1048576 := by rw [← e2]; exact hf.l2
  have e3 : c.vs.length = d.l3 := by simpa using (show (c.vs.map vdF).length = d.l3 from hr.v.1)
  have hL3 : d.l3 ≤ 1048576 := by rw [← e3]; exact hf.l3
  have e4 : c.xs.length = d.l4 := by simpa using (show (c.xs.map xdF).length = d.l4 from hr.x.1)
  have hL4 : d.l4 ≤ 1048576 := by rw [← e4]; exact hf.l4
  have e5 : c.ps.length = d.l5 := by simpa using (show (c.ps.map pdF).length = d.l5 from hr.p.1)
  have hL5 : d.l5 ≤ 1048576 := by rw [← e5]; exact hf.l5
  clear hr hf e1 e2 e3 e4 e5
  obtain ⟨X0, hX0⟩ : ∃ X, X = ((w.alloc (.cells #[.slice d.a1 d.l1 d.c1, .slice d.a2 d.l2 d.c2, .slice d.a3 d.l3 d.c3, .slice d.a4 d.l4 d.c4, .slice d.a5 d.l5 d.c5, .int .i64 c.now] 28)).alloc (.cells #[.slice none 0 0, .slice none 0 0, .slice none 0 0, .slice none 0 0, .slice none 0 0, .int .i64 0] 37)).alloc (.cells #[.slice none 0 0, .slice none 0 0, .slice none 0 0, .slice none 0 0, .slice none 0 0, .int .i64 0] 37) := ⟨_, rfl⟩
  have B0 : Hid (Below w.heap.size w X0) := by rw [hX0]; exact below3 _ _ _ _
  have bx0 : Hid (X0.heap[w.heap.size]? = some (.cells #[.slice d.a1 d.l1 d.c1, .slice d.a2 d.l2 d.c2, .slice d.a3 d.l3 d.c3, .slice d.a4 d.l4 d.c4, .slice d.a5 d.l5 d.c5, .int .i64 c.now] 28 (0, 0))) := by rw [hX0]; exact heap3_0 _ _ _ _
  have br0 : Hid (X0.heap[w.heap.size + 1]? = some (.cells #[.slice none 0 0, .slice none 0 0, .slice none 0 0, .slice none 0 0, .slice none 0 0, .int .i64 0] 37 (0, 0))) := by rw [hX0]; exact heap3_1 _ _ _ _
  have bl0 : Hid (X0.heap[w.heap.size + 1 + 1]? = some (.cells #[.slice none 0 0, .slice none 0 0, .slice none 0 0, .slice none 0 0, .slice none 0 0, .int .i64 0] 37 (0, 0))) := by rw [hX0]; exact heap3_2 _ _ _ _
  have hs0 : w.heap.size + 1 + 1 < X0.heap.size := lt_of_some bl0.out
  go_enter Tryz.func14, Tryz.ntmps14
  go_wp2_with fail
  rw [← hX0]
  clear hX0
  refine (tond_any d.a1 d.l1 d.c1 c.ns _ (HR.out.n.below B0.out) hL1 HF.out.f1).mono ?_
  rintro e w1 ⟨rfl, ho, hb⟩
  have hsz1 := hb.size
  have gx := (hb.block _ (lt_of_some bx0.out)).trans bx0.out
  have gr := (hb.block _ (lt_of_some br0.out)).trans br0.out
  have gl := (hb.block _ (lt_of_some bl0.out)).trans bl0.out
  have gB := B0.out.trans (hb.mono B0.out.size)
  have P1 := hidK ho
  clear ho hb bx0 br0 bl0 B0
  have pl : w1.cell? ⟨w.heap.size + 1 + 1, 0, none⟩ = some (.slice none 0 0) := cellK gl 0
  have fl : w1.frozen? ⟨w.heap.size + 1 + 1, 0, none⟩ = false := froK gl 0
  have px : w1.cell? ⟨w.heap.size, 1, none⟩ = some (.slice d.a2 d.l2 d.c2) := cellK gx 1
  obtain ⟨X1, hX1⟩ : ∃ X, X = w1.setCell ⟨w.heap.size + 1 + 1, 0, none⟩ (.slice (some ⟨X0.heap.size, 0, none⟩) d.l1 d.l1) := ⟨_, rfl⟩
  have hxa1 : X1.heap.size ≤ w1.heap.size := by rw [hX1]; simp [World.setCell]
  have hxb1 : w1.heap.size ≤ X1.heap.size := by rw [hX1]; simp [World.setCell]
  have bx1 : Hid (X1.heap[w.heap.size]? = some (.cells #[.slice d.a1 d.l1 d.c1, .slice d.a2 d.l2 d.c2, .slice d.a3 d.l3 d.c3, .slice d.a4 d.l4 d.c4, .slice d.a5 d.l5 d.c5, .int .i64 c.now] 28 (0, 0))) := by rw [hX1]; exact set_keeps (by omega) gx
  have br1 : Hid (X1.heap[w.heap.size + 1]? = some (.cells #[.slice none 0 0, .slice none 0 0, .slice none 0 0, .slice none 0 0, .slice none 0 0, .int .i64 0] 37 (0, 0))) := by rw [hX1]; exact set_keeps (by omega) gr
  have bl1 : Hid (X1.heap[w.heap.size + 1 + 1]? = some (.cells #[.slice (some ⟨X0.heap.size, 0, none⟩) d.l1 d.l1, .slice none 0 0, .slice none 0 0, .slice none 0 0, .slice none 0 0, .int .i64 0] 37 (0, 0))) := by rw [hX1]; have := block_set (i := 0) gl (.slice (some ⟨X0.heap.size, 0, none⟩) d.l1 d.l1); simpa [Hid] using this
  have B1 : Hid (Below w.heap.size w X1) := by rw [hX1]; exact set_below (by omega) gB
  have O1 := hidK (P1.out.keep (w' := X1) (fun k hk s => by rw [hX1]; exact Below.heap_setCell _ _ _ _ (show k ≠ w.heap.size + 1 + 1 by have h9 : X0.heap.size ≤ k := s; omega)) (fun k hk s => (⟨s, hk⟩ : X0.heap.size ≤ k ∧ k < w1.heap.size)))
  clear gx gr gl gB P1
  go_wp2_with fail
  rw [← hX1]
  clear hX1
  clear pl fl px
  refine (tokd_any d.a2 d.l2 d.c2 c.ks _ (HR.out.k.below B1.out) hL2).mono ?_
  rintro e w2 ⟨rfl, ho, hb⟩
  have hsz2 := hb.size
  have gx := (hb.block _ (lt_of_some bx1.out)).trans bx1.out
  have gr := (hb.block _ (lt_of_some br1.out)).trans br1.out
  have gl := (hb.block _ (lt_of_some bl1.out)).trans bl1.out
  have gB := B1.out.trans (hb.mono B1.out.size)
  have P2 := hidK ho
  have Q1 := hidK (O1.out.below hb)
  clear ho hb bx1 br1 bl1 B1 O1
  have pl : w2.cell? ⟨w.heap.size + 1 + 1, 1, none⟩ = some (.slice none 0 0) := cellK gl 1
  have fl : w2.frozen? ⟨w.heap.size + 1 + 1, 1, none⟩ = false := froK gl 1
  have px : w2.cell? ⟨w.heap.size, 2, none⟩ = some (.slice d.a3 d.l3 d.c3) := cellK gx 2
  obtain ⟨X2, hX2⟩ : ∃ X, X = w2.setCell ⟨w.heap.size + 1 + 1, 1, none⟩ (.slice (some ⟨X1.heap.size, 0, none⟩) d.l2 d.l2) := ⟨_, rfl⟩
  have hxa2 : X2.heap.size ≤ w2.heap.size := by rw [hX2]; simp [World.setCell]
  have hxb2 : w2.heap.size ≤ X2.heap.size := by rw [hX2]; simp [World.setCell]
  have bx2 : Hid (X2.heap[w.heap.size]? = some (.cells #[.slice d.a1 d.l1 d.c1, .slice d.a2 d.l2 d.c2, .slice d.a3 d.l3 d.c3, .slice d.a4 d.l4 d.c4, .slice d.a5 d.l5 d.c5, .int .i64 c.now] 28 (0, 0))) := by rw [hX2]; exact set_keeps (by omega) gx
  have br2 : Hid (X2.heap[w.heap.size + 1]? = some (.cells #[.slice none 0 0, .slice none 0 0, .slice none 0 0, .slice none 0 0, .slice none 0 0, .int .i64 0] 37 (0, 0))) := by rw [hX2]; exact set_keeps (by omega) gr
  have bl2 : Hid (X2.heap[w.heap.size + 1 + 1]? = some (.cells #[.slice (some ⟨X0.heap.size, 0, none⟩) d.l1 d.l1, .slice (some ⟨X1.heap.size, 0, none⟩) d.l2 d.l2, .slice none 0 0, .slice none 0 0, .slice none 0 0, .int .i64 0] 37 (0, 0))) := by rw [hX2]; have := block_set (i := 1) gl (.slice (some ⟨X1.heap.size, 0, none⟩) d.l2 d.l2); simpa [Hid] using this
  have B2 : Hid (Below w.heap.size w X2) := by rw [hX2]; exact set_below (by omega) gB
  have O1 := hidK (Q1.out.keep (w' := X2) (fun k hk s => by rw [hX2]; exact Below.heap_setCell _ _ _ _ (show k ≠ w.heap.size + 1 + 1 by have h9 : X0.heap.size ≤ k := s.1; omega)) (fun k hk s => s))
  have O2 := hidK (P2.out.keep (w' := X2) (fun k hk s => by rw [hX2]; exact Below.heap_setCell _ _ _ _ (show k ≠ w.heap.size + 1 + 1 by have h9 : X1.heap.size ≤ k := s; omega)) (fun k hk s => (⟨s, hk⟩ : X1.heap.size ≤ k ∧ k < w2.heap.size)))
  clear gx gr gl gB P2 Q1
  go_wp2_with fail
  rw [← hX2]
  clear hX2
  clear pl fl px
  refine (tovd_any d.a3 d.l3 d.c3 c.vs _ (HR.out.v.below B2.out) hL3 HF.out.f3).mono ?_
  rintro e w3 ⟨rfl, ho, hb⟩
  have hsz3 := hb.size
  have gx := (hb.block _ (lt_of_some bx2.out)).trans bx2.out
  have gr := (hb.block _ (lt_of_some br2.out)).trans br2.out
  have gl := (hb.block _ (lt_of_some bl2.out)).trans bl2.out
  have gB := B2.out.trans (hb.mono B2.out.size)
  have P3 := hidK ho
  have Q1 := hidK (O1.out.below hb)
  have Q2 := hidK (O2.out.below hb)
  clear ho hb bx2 br2 bl2 B2 O1 O2
  have pl : w3.cell? ⟨w.heap.size + 1 + 1, 2, none⟩ = some (.slice none 0 0) := cellK gl 2
  have fl : w3.frozen? ⟨w.heap.size + 1 + 1, 2, none⟩ = false := froK gl 2
  have px : w3.cell? ⟨w.heap.size, 3, none⟩ = some (.slice d.a4 d.l4 d.c4) := cellK gx 3
  obtain ⟨X3, hX3⟩ : ∃ X, X = w3.setCell ⟨w.heap.size + 1 + 1, 2, none⟩ (.slice (some ⟨X2.heap.size, 0, none⟩) d.l3 d.l3) := ⟨_, rfl⟩
  have hxa3 : X3.heap.size ≤ w3.heap.size := by rw [hX3]; simp [World.setCell]
  have hxb3 : w3.heap.size ≤ X3.heap.size := by rw [hX3]; simp [World.setCell]
  have bx3 : Hid (X3.heap[w.heap.size]? = some (.cells #[.slice d.a1 d.l1 d.c1, .slice d.a2 d.l2 d.c2, .slice d.a3 d.l3 d.c3, .slice d.a4 d.l4 d.c4, .slice d.a5 d.l5 d.c5, .int .i64 c.now] 28 (0, 0))) := by rw [hX3]; exact set_keeps (by omega) gx
  have br3 : Hid (X3.heap[w.heap.size + 1]? = some (.cells #[.slice none 0 0, .slice none 0 0, .slice none 0 0, .slice none 0 0, .slice none 0 0, .int .i64 0] 37 (0, 0))) := by rw [hX3]; exact set_keeps (by omega) gr
  have bl3 : Hid (X3.heap[w.heap.size + 1 + 1]? = some (.cells #[.slice (some ⟨X0.heap.size, 0, none⟩) d.l1 d.l1, .slice (some ⟨X1.heap.size, 0, none⟩) d.l2 d.l2, .slice (some ⟨X2.heap.size, 0, none⟩) d.l3 d.l3, .slice none 0 0, .slice none 0 0, .int .i64 0] 37 (0, 0))) := by rw [hX3]; have := block_set (i := 2) gl (.slice (some ⟨X2.heap.size, 0, none⟩) d.l3 d.l3); simpa [Hid] using this
  have B3 : Hid (Below w.heap.size w X3) := by rw [hX3]; exact set_below (by omega) gB
  have O1 := hidK (Q1.out.keep (w' := X3) (fun k hk s => by rw [hX3]; exact Below.heap_setCell _ _ _ _ (show k ≠ w.heap.size + 1 + 1 by have h9 : X0.heap.size ≤ k := s.1; omega)) (fun k hk s => s))
  have O2 := hidK (Q2.out.keep (w' := X3) (fun k hk s => by rw [hX3]; exact Below.heap_setCell _ _ _ _ (show k ≠ w.heap.size + 1 + 1 by have h9 : X1.heap.size ≤ k := s.1; omega)) (fun k hk s => s))
  have O3 := hidK (P3.out.keep (w' := X3) (fun k hk s => by rw [hX3]; exact Below.heap_setCell _ _ _ _ (show k ≠ w.heap.size + 1 + 1 by have h9 : X2.heap.size ≤ k := s; omega)) (fun k hk s => (⟨s, hk⟩ : X2.heap.size ≤ k ∧ k < w3.heap.size)))
  clear gx gr gl gB P3 Q1 Q2
  go_wp2_with fail
  rw [← hX3]
  clear hX3
  clear pl fl px
  refine (toxd_any d.a4 d.l4 d.c4 c.xs _ (HR.out.x.below B3.out) hL4).mono ?_
  rintro e w4 ⟨rfl, ho, hb⟩
  have hsz4 := hb.size
  have gx := (hb.block _ (lt_of_some bx3.out)).trans bx3.out
  have gr := (hb.block _ (lt_of_some br3.out)).trans br3.out
  have gl := (hb.block _ (lt_of_some bl3.out)).trans bl3.out
  have gB := B3.out.trans (hb.mono B3.out.size)
  have P4 := hidK ho
  have Q1 := hidK (O1.out.below hb)
  have Q2 := hidK (O2.out.below hb)
  have Q3 := hidK (O3.out.below hb)
  clear ho hb bx3 br3 bl3 B3 O1 O2 O3
  have pl : w4.cell? ⟨w.heap.size + 1 + 1, 3, none⟩ = some (.slice none 0 0) := cellK gl 3
  have fl : w4.frozen? ⟨w.heap.size + 1 + 1, 3, none⟩ = false := froK gl 3
  have px : w4.cell? ⟨w.heap.size, 4, none⟩ = some (.slice d.a5 d.l5 d.c5) := cellK gx 4
  obtain ⟨X4, hX4⟩ : ∃ X, X = w4.setCell ⟨w.heap.size + 1 + 1, 3, none⟩ (.slice (some ⟨X3.heap.size, 0, none⟩) d.l4 d.l4) := ⟨_, rfl⟩
  have hxa4 : X4.heap.size ≤ w4.heap.size := by rw [hX4]; simp [World.setCell]
  have hxb4 : w4.heap.size ≤ X4.heap.size := by rw [hX4]; simp [World.setCell]
  have bx4 : Hid (X4.heap[w.heap.size]? = some (.cells #[.slice d.a1 d.l1 d.c1, .slice d.a2 d.l2 d.c2, .slice d.a3 d.l3 d.c3, .slice d.a4 d.l4 d.c4, .slice d.a5 d.l5 d.c5, .int .i64 c.now] 28 (0, 0))) := by rw [hX4]; exact set_keeps (by omega) gx
  have br4 : Hid (X4.heap[w.heap.size + 1]? = some (.cells #[.slice none 0 0, .slice none 0 0, .slice none 0 0, .slice none 0 0, .slice none 0 0, .int .i64 0] 37 (0, 0))) := by rw [hX4]; exact set_keeps (by omega) gr
  have bl4 : Hid (X4.heap[w.heap.size + 1 + 1]? = some (.cells #[.slice (some ⟨X0.heap.size, 0, none⟩) d.l1 d.l1, .slice (some ⟨X1.heap.size, 0, none⟩) d.l2 d.l2, .slice (some ⟨X2.heap.size, 0, none⟩) d.l3 d.l3, .slice (some ⟨X3.heap.size, 0, none⟩) d.l4 d.l4, .slice none 0 0, .int .i64 0] 37 (0, 0))) := by rw [hX4]; have := block_set (i := 3) gl (.slice (some ⟨X3.heap.size, 0, none⟩) d.l4 d.l4); simpa [Hid] using this
  have B4 : Hid (Below w.heap.size w X4) := by rw [hX4]; exact set_below (by omega) gB
  have O1 := hidK (Q1.out.keep (w' := X4) (fun k hk s => by rw [hX4]; exact Below.heap_setCell _ _ _ _ (show k ≠ w.heap.size + 1 + 1 by have h9 : X0.heap.size ≤ k := s.1; omega)) (fun k hk s => s))
  have O2 := hidK (Q2.out.keep (w' := X4) (fun k hk s => by rw [hX4]; exact Below.heap_setCell _ _ _ _ (show k ≠ w.heap.size + 1 + 1 by have h9 : X1.heap.size ≤ k := s.1; omega)) (fun k hk s => s))
  have O3 := hidK (Q3.out.keep (w' := X4) (fun k hk s => by rw [hX4]; exact Below.heap_setCell _ _ _ _ (show k ≠ w.heap.size + 1 + 1 by have h9 : X2.heap.size ≤ k := s.1; omega)) (fun k hk s => s))
  have O4 := hidK (P4.out.keep (w' := X4) (fun k hk s => by rw [hX4]; exact Below.heap_setCell _ _ _ _ (show k ≠ w.heap.size + 1 + 1 by have h9 : X3.heap.size ≤ k := s; omega)) (fun k hk s => (⟨s, hk⟩ : X3.heap.size ≤ k ∧ k < w4.heap.size)))
  clear gx gr gl gB P4 Q1 Q2 Q3
  go_wp2_with fail
  rw [← hX4]
  clear hX4
  clear pl fl px
  refine (topd_any d.a5 d.l5 d.c5 c.ps _ (HR.out.p.below B4.out) hL5 HF.out.f5).mono ?_
  rintro e w5 ⟨rfl, ho, hb⟩
  have hsz5 := hb.size
  have gx := (hb.block _ (lt_of_some bx4.out)).trans bx4.out
  have gr := (hb.block _ (lt_of_some br4.out)).trans br4.out
  have gl := (hb.block _ (lt_of_some bl4.out)).trans bl4.out
  have gB := B4.out.trans (hb.mono B4.out.size)
  have P5 := hidK ho
  have Q1 := hidK (O1.out.below hb)
  have Q2 := hidK (O2.out.below hb)
  have Q3 := hidK (O3.out.below hb)
  have Q4 := hidK (O4.out.below hb)
  clear ho hb bx4 br4 bl4 B4 O1 O2 O3 O4
  have l4 : w5.cell? ⟨w.heap.size + 1 + 1, 4, none⟩ = some (.slice none 0 0) := cellK gl 4
  have l5 : w5.cell? ⟨w.heap.size + 1 + 1, 5, none⟩ = some (.int .i64 0) := cellK gl 5
  have l0 : w5.cell? ⟨w.heap.size + 1 + 1, 0, none⟩ = some (.slice (some ⟨X0.heap.size, 0, none⟩) d.l1 d.l1) := cellK gl 0
  have l1 : w5.cell? ⟨w.heap.size + 1 + 1, 1, none⟩ = some (.slice (some ⟨X1.heap.size, 0, none⟩) d.l2 d.l2) := cellK gl 1
  have l2 : w5.cell? ⟨w.heap.size + 1 + 1, 2, none⟩ = some (.slice (some ⟨X2.heap.size, 0, none⟩) d.l3 d.l3) := cellK gl 2
  have l3 : w5.cell? ⟨w.heap.size + 1 + 1, 3, none⟩ = some (.slice (some ⟨X3.heap.size, 0, none⟩) d.l4 d.l4) := cellK gl 3
  have fl0 : w5.frozen? ⟨w.heap.size + 1 + 1, 0, none⟩ = false := froK gl 0
  have r0 : w5.cell? ⟨w.heap.size + 1, 0, none⟩ = some (.slice none 0 0) := cellK gr 0
  have fr0 : w5.frozen? ⟨w.heap.size + 1, 0, none⟩ = false := froK gr 0
  have fl1 : w5.frozen? ⟨w.heap.size + 1 + 1, 1, none⟩ = false := froK gl 1
  have r1 : w5.cell? ⟨w.heap.size + 1, 1, none⟩ = some (.slice none 0 0) := cellK gr 1
  have fr1 : w5.frozen? ⟨w.heap.size + 1, 1, none⟩ = false := froK gr 1
  have fl2 : w5.frozen? ⟨w.heap.size + 1 + 1, 2, none⟩ = false := froK gl 2
  have r2 : w5.cell? ⟨w.heap.size + 1, 2, none⟩ = some (.slice none 0 0) := cellK gr 2
  have fr2 : w5.frozen? ⟨w.heap.size + 1, 2, none⟩ = false := froK gr 2
  have fl3 : w5.frozen? ⟨w.heap.size + 1 + 1, 3, none⟩ = false := froK gl 3
  have r3 : w5.cell? ⟨w.heap.size + 1, 3, none⟩ = some (.slice none 0 0) := cellK gr 3
  have fr3 : w5.frozen? ⟨w.heap.size + 1, 3, none⟩ = false := froK gr 3
  have fl4 : w5.frozen? ⟨w.heap.size + 1 + 1, 4, none⟩ = false := froK gl 4
  have r4 : w5.cell? ⟨w.heap.size + 1, 4, none⟩ = some (.slice none 0 0) := cellK gr 4
  have fr4 : w5.frozen? ⟨w.heap.size + 1, 4, none⟩ = false := froK gr 4
  have fl5 : w5.frozen? ⟨w.heap.size + 1 + 1, 5, none⟩ = false := froK gl 5
  have r5 : w5.cell? ⟨w.heap.size + 1, 5, none⟩ = some (.int .i64 0) := cellK gr 5
  have fr5 : w5.frozen? ⟨w.heap.size + 1, 5, none⟩ = false := froK gr 5
  have px : w5.cell? ⟨w.heap.size, 5, none⟩ = some (.int .i64 c.now) := cellK gx 5
  have GB := hidK gB
  clear gx gr gl gB
  go_wp2
  refine bodyPost_ret (v := .agg #[.slice (some ⟨X0.heap.size, 0, none⟩) d.l1 d.l1, .slice (some ⟨X1.heap.size, 0, none⟩) d.l2 d.l2, .slice (some ⟨X2.heap.size, 0, none⟩) d.l3 d.l3, .slice (some ⟨X3.heap.size, 0, none⟩) d.l4 d.l4, .slice (some ⟨X4.heap.size, 0, none⟩) d.l5 d.l5, .int .i64 c.now]) (by simp [results, Tryz.results14, go_sem, *]) rfl ⟨⟨some ⟨X0.heap.size, 0, none⟩, d.l1, d.l1, some ⟨X1.heap.size, 0, none⟩, d.l2, d.l2, some ⟨X2.heap.size, 0, none⟩, d.l3, d.l3, some ⟨X3.heap.size, 0, none⟩, d.l4, d.l4, some ⟨X4.heap.size, 0, none⟩, d.l5, d.l5⟩, rfl, ?_, set_below (show w.heap.size ≤ w.heap.size + 1 by omega) (set_below (show w.heap.size ≤ w.heap.size + 1 by omega) (set_below (show w.heap.size ≤ w.heap.size + 1 by omega) (set_below (show w.heap.size ≤ w.heap.size + 1 by omega) (set_below (show w.heap.size ≤ w.heap.size + 1 by omega) (set_below (show w.heap.size ≤ w.heap.size + 1 by omega) (set_below (show w.heap.size ≤ w.heap.size + 1 + 1 by omega) (set_below (show w.heap.size ≤ w.heap.size + 1 + 1 by omega) (GB.out))))))))⟩
  have keep : ∀ k, w.heap.size + 1 + 1 < k → ∀ (W : World), True → (W.heap[k]? = W.heap[k]?) := fun _ _ _ _ => rfl
  clear keep
  have same : ∀ k, w.heap.size + 1 + 1 < k → ((((((((w5.setCell ⟨w.heap.size + 1 + 1, 4, none⟩ (.slice (some ⟨X4.heap.size, 0, none⟩) d.l5 d.l5)).setCell ⟨w.heap.size + 1 + 1, 5, none⟩ (.int .i64 c.now)).setCell ⟨w.heap.size + 1, 0, none⟩ (.slice (some ⟨X0.heap.size, 0, none⟩) d.l1 d.l1)).setCell ⟨w.heap.size + 1, 1, none⟩ (.slice (some ⟨X1.heap.size, 0, none⟩) d.l2 d.l2)).setCell ⟨w.heap.size + 1, 2, none⟩ (.slice (some ⟨X2.heap.size, 0, none⟩) d.l3 d.l3)).setCell ⟨w.heap.size + 1, 3, none⟩ (.slice (some ⟨X3.heap.size, 0, none⟩) d.l4 d.l4)).setCell ⟨w.heap.size + 1, 4, none⟩ (.slice (some ⟨X4.heap.size, 0, none⟩) d.l5 d.l5)).setCell ⟨w.heap.size + 1, 5, none⟩ (.int .i64 c.now)).heap[k]? = w5.heap[k]? := fun k hk => by
    rw [Below.heap_setCell _ _ _ _ (show k ≠ w.heap.size + 1 by omega), Below.heap_setCell _ _ _ _ (show k ≠ w.heap.size + 1 by omega), Below.heap_setCell _ _ _ _ (show k ≠ w.heap.size + 1 by omega), Below.heap_setCell _ _ _ _ (show k ≠ w.heap.size + 1 by omega), Below.heap_setCell _ _ _ _ (show k ≠ w.heap.size + 1 by omega), Below.heap_setCell _ _ _ _ (show k ≠ w.heap.size + 1 by omega), Below.heap_setCell _ _ _ _ (show k ≠ w.heap.size + 1 + 1 by omega), Below.heap_setCell _ _ _ _ (show k ≠ w.heap.size + 1 + 1 by omega)]
  refine ⟨fun k => if k < w1.heap.size then 1 else if k < w2.heap.size then 2 else if k < w3.heap.size then 3 else if k < w4.heap.size then 4 else 5, ?_, ?_, ?_, ?_, ?_⟩
  · refine Q1.out.keep (fun k hk s => same k (by have h9 : X0.heap.size ≤ k := s.1; omega)) (fun k hk s => ⟨?_, ?_⟩)
    · have h9 : X0.heap.size ≤ k := s.1
      show w.heap.size ≤ k
      omega
    · have h9 : X0.heap.size ≤ k := s.1
      have h8 : k < w1.heap.size := s.2
      show (if k < w1.heap.size then 1 else if k < w2.heap.size then 2 else if k < w3.heap.size then 3 else if k < w4.heap.size then 4 else 5) = 1
      rw [if_pos h8]
  · refine Q2.out.keep (fun k hk s => same k (by have h9 : X1.heap.size ≤ k := s.1; omega)) (fun k hk s => ⟨?_, ?_⟩)
    · have h9 : X1.heap.size ≤ k := s.1
      show w.heap.size ≤ k
      omega
    · have h9 : X1.heap.size ≤ k := s.1
      have h8 : k < w2.heap.size := s.2
      show (if k < w1.heap.size then 1 else if k < w2.heap.size then 2 else if k < w3.heap.size then 3 else if k < w4.heap.size then 4 else 5) = 2
      rw [if_neg (by omega)]; rw [if_pos h8]
  · refine Q3.out.keep (fun k hk s => same k (by have h9 : X2.heap.size ≤ k := s.1; omega)) (fun k hk s => ⟨?_, ?_⟩)
    · have h9 : X2.heap.size ≤ k := s.1
      show w.heap.size ≤ k
      omega
    · have h9 : X2.heap.size ≤ k := s.1
      have h8 : k < w3.heap.size := s.2
      show (if k < w1.heap.size then 1 else if k < w2.heap.size then 2 else if k < w3.heap.size then 3 else if k < w4.heap.size then 4 else 5) = 3
      rw [if_neg (by omega)]; rw [if_neg (by omega)]; rw [if_pos h8]
  · refine Q4.out.keep (fun k hk s => same k (by have h9 : X3.heap.size ≤ k := s.1; omega)) (fun k hk s => ⟨?_, ?_⟩)
    · have h9 : X3.heap.size ≤ k := s.1
      show w.heap.size ≤ k
      omega
    · have h9 : X3.heap.size ≤ k := s.1
      have h8 : k < w4.heap.size := s.2
      show (if k < w1.heap.size then 1 else if k < w2.heap.size then 2 else if k < w3.heap.size then 3 else if k < w4.heap.size then 4 else 5) = 4
      rw [if_neg (by omega)]; rw [if_neg (by omega)]; rw [if_neg (by omega)]; rw [if_pos h8]
  · refine P5.out.keep (fun k hk s => same k (by have h9 : X4.heap.size ≤ k := s; omega)) (fun k hk s => ⟨?_, ?_⟩)
    · have h9 : X4.heap.size ≤ k := s
      show w.heap.size ≤ k
      omega
    · have h9 : X4.heap.size ≤ k := s
      show (if k < w1.heap.size then 1 else if k < w2.heap.size then 2 else if k < w3.heap.size then 3 else if k < w4.heap.size then 4 else 5) = 5
      rw [if_neg (by omega)]; rw [if_neg (by omega)]; rw [if_neg (by omega)]; rw [if_neg (by omega)]; skip

end Rc
end Go.Proofs.YtcljghpfclegmaaGreatDoor
