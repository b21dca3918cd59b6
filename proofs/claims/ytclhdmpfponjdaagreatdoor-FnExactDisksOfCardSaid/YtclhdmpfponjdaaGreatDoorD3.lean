import Derived.Test.YtclhdmpfponjdaaGreatDoorD2
import Derived.Laws.AppendOwn
import Derived.Laws.AppendOwnNone
import Derived.Deep.AppendLies
import Derived.Test.YtclhdmpfponjdaaGreatDoorRows
import Derived.WalkKit
import Derived.WalkSpells
/-
  The laws' measure and copy of a cluster.
-/
namespace Go.Proofs.YtclhdmpfponjdaaGreatDoor
open Go.RowKit
namespace Rc
open Mk

structure ClFit (c : Cl) : Prop where
  l1 : c.ns.length ≤ 1048576
  f1 : ∀ (j : Nat) x, c.ns[j]? = some x → x.zs.length ≤ 1048576
  l2 : c.ks.length ≤ 1048576
  l3 : c.vs.length ≤ 1048576
  f3 : ∀ (j : Nat) x, c.vs[j]? = some x → x.zs.length ≤ 1048576
  l4 : c.xs.length ≤ 1048576
  l5 : c.ps.length ≤ 1048576
  f5 : ∀ (j : Nat) x, c.ps[j]? = some x → x.zs.length ≤ 1048576

set_option maxRecDepth 100000 in
set_option maxHeartbeats 3200000 in
theorem szCluster_any (d : Ad) (c : Cl) (w : World) (hr : ClRow w d c.raw) :
    Calls Tryz.prog 4 #[.agg #[.slice d.a1 d.l1 d.c1, .slice d.a2 d.l2 d.c2, .slice d.a3 d.l3 d.c3, .slice d.a4 d.l4 d.c4, .slice d.a5 d.l5 d.c5, .int .i64 c.now], .int .i64 1048576] w (SzB 1048576 (ClFit c) w) := by
  have HR := hidK hr
  have HB := hidK (Below.refl w.heap.size w)
  clear hr
  go_enter Tryz.func4, Tryz.ntmps4
  go_wp2_with fail
  refine (sznd_any d.a1 d.l1 d.c1 c.ns 1048576 _ (HR.out.n.below (HB.out.trans ((below1 _ _).mono HB.out.size))) (by omega) (by omega)).mono ?_
  rintro e w1 ⟨r1, rfl, hi, hb⟩
  obtain ⟨HA0, hbx⟩ := slots1 hb
  have Bk := hidK HA0
  replace HB := upB HB hbx
  clear hb hbx HA0
  rcases hi with rfl | ⟨hr10, hr11, hz1⟩
  · obtain ⟨k0, k1, k2, k3, k4, k5⟩ := cs6 Bk.out
    have ltk_1 := lt_of_some Bk.out
    go_wp2
    go_ret
    exact ⟨-1, rfl, .inl rfl, HB.out⟩
  have HZ1 := hidK hz1
  clear hz1
  obtain ⟨k0, k1, k2, k3, k4, k5⟩ := cs6 Bk.out
  have ltk_1 := lt_of_some Bk.out
  go_wp2_with fail
  refine (szkd_any d.a2 d.l2 d.c2 c.ks r1 _ (HR.out.k.below HB.out) (by omega) (by omega)).mono ?_
  rintro e w2 ⟨r2, rfl, hi, hb⟩
  clear k0 k1 k2 k3 k4 k5 ltk_1
  replace Bk := upK Bk hb
  replace HB := upB HB hb
  clear hb
  rcases hi with rfl | ⟨hr20, hr21, hz2⟩
  · obtain ⟨k0, k1, k2, k3, k4, k5⟩ := cs6 Bk.out
    have ltk_2 := lt_of_some Bk.out
    go_wp2
    go_ret
    exact ⟨-1, rfl, .inl rfl, HB.out⟩
  have HZ2 := hidK hz2
  clear hz2
  obtain ⟨k0, k1, k2, k3, k4, k5⟩ := cs6 Bk.out
  have ltk_2 := lt_of_some Bk.out
  go_wp2_with fail
  refine (szvd_any d.a3 d.l3 d.c3 c.vs r2 _ (HR.out.v.below HB.out) (by omega) (by omega)).mono ?_
  rintro e w3 ⟨r3, rfl, hi, hb⟩
  clear k0 k1 k2 k3 k4 k5 ltk_2
  replace Bk := upK Bk hb
  replace HB := upB HB hb
  clear hb
  rcases hi with rfl | ⟨hr30, hr31, hz3⟩
  · obtain ⟨k0, k1, k2, k3, k4, k5⟩ := cs6 Bk.out
    have ltk_3 := lt_of_some Bk.out
    go_wp2
    go_ret
    exact ⟨-1, rfl, .inl rfl, HB.out⟩
  have HZ3 := hidK hz3
  clear hz3
  obtain ⟨k0, k1, k2, k3, k4, k5⟩ := cs6 Bk.out
  have ltk_3 := lt_of_some Bk.out
  go_wp2_with fail
  refine (szxd_any d.a4 d.l4 d.c4 c.xs r3 _ (HR.out.x.below HB.out) (by omega) (by omega)).mono ?_
  rintro e w4 ⟨r4, rfl, hi, hb⟩
  clear k0 k1 k2 k3 k4 k5 ltk_3
  replace Bk := upK Bk hb
  replace HB := upB HB hb
  clear hb
  rcases hi with rfl | ⟨hr40, hr41, hz4⟩
  · obtain ⟨k0, k1, k2, k3, k4, k5⟩ := cs6 Bk.out
    have ltk_4 := lt_of_some Bk.out
    go_wp2
    go_ret
    exact ⟨-1, rfl, .inl rfl, HB.out⟩
  have HZ4 := hidK hz4
  clear hz4
  obtain ⟨k0, k1, k2, k3, k4, k5⟩ := cs6 Bk.out
  have ltk_4 := lt_of_some Bk.out
  go_wp2_with fail
  refine (szpd_any d.a5 d.l5 d.c5 c.ps r4 _ (HR.out.p.below HB.out) (by omega) (by omega)).mono ?_
  rintro e w5 ⟨r5, rfl, hi, hb⟩
  clear k0 k1 k2 k3 k4 k5 ltk_4
  replace Bk := upK Bk hb
  replace HB := upB HB hb
  clear hb
  rcases hi with rfl | ⟨hr50, hr51, hz5⟩
  · obtain ⟨k0, k1, k2, k3, k4, k5⟩ := cs6 Bk.out
    have ltk_5 := lt_of_some Bk.out
    go_wp2
    go_ret
    exact ⟨-1, rfl, .inl rfl, HB.out⟩
  have HZ5 := hidK hz5
  clear hz5
  go_wp2
  go_ret
  refine ⟨r5, rfl, .inr ⟨by omega, by omega, ?_⟩, HB.out⟩
  have e1 : c.ns.length = d.l1 := by simpa using (show (c.ns.map ndF).length = d.l1 from HR.out.n.1)
  have e2 : c.ks.length = d.l2 := by simpa using (show (c.ks.map kdF).length = d.l2 from HR.out.k.1)
  have e3 : c.vs.length = d.l3 := by simpa using (show (c.vs.map vdF).length = d.l3 from HR.out.v.1)
  have e4 : c.xs.length = d.l4 := by simpa using (show (c.xs.map xdF).length = d.l4 from HR.out.x.1)
  have e5 : c.ps.length = d.l5 := by simpa using (show (c.ps.map pdF).length = d.l5 from HR.out.p.1)
  exact ⟨by rw [e1]; exact HZ1.out.1, HZ1.out.2, by rw [e2]; exact HZ2.out, by rw [e3]; exact HZ3.out.1, HZ3.out.2, by rw [e4]; exact HZ4.out, by rw [e5]; exact HZ5.out.1, HZ5.out.2⟩

set_option maxRecDepth 100000 in
set_option maxHeartbeats 6400000 in
theorem toCluster_any (d : Ad) (c : Cl) (w : World) (hr : ClRow w d c.raw) (hf : ClFit c) :
    Calls Tryz.prog 6 #[.agg #[.slice d.a1 d.l1 d.c1, .slice d.a2 d.l2 d.c2, .slice d.a3 d.l3 d.c3, .slice d.a4 d.l4 d.c4, .slice d.a5 d.l5 d.c5, .int .i64 c.now]] w fun e w' => ∃ d' : Ad, e = .returned (.agg #[.slice d'.a1 d'.l1 d'.c1, .slice d'.a2 d'.l2 d'.c2, .slice d'.a3 d'.l3 d'.c3, .slice d'.a4 d'.l4 d'.c4, .slice d'.a5 d'.l5 d'.c5, .int .i64 c.now]) ∧ ClOwn w' d' c.raw (fun k => w.heap.size ≤ k) ∧ Below w.heap.size w w' := by
  have HR := hidK hr
  have HF := hidK hf
  have e1 : c.ns.length = d.l1 := by simpa using (show (c.ns.map ndF).length = d.l1 from hr.n.1)
  have hL1 : d.l1 ≤ 1048576 := by rw [← e1]; exact hf.l1
  have e2 : c.ks.length = d.l2 := by simpa using (show (c.ks.map kdF).length = d.l2 from hr.k.1)
  have hL2 : d.l2 ≤ 1048576 := by rw [← e2]; exact hf.l2
  have e3 : c.vs.length = d.l3 := by simpa using (show (c.vs.map vdF).length = d.l3 from hr.v.1)
  have hL3 : d.l3 ≤ 1048576 := by rw [← e3]; exact hf.l3
  have e4 : c.xs.length = d.l4 := by simpa using (show (c.xs.map xdF).length = d.l4 from hr.x.1)
  have hL4 : d.l4 ≤ 1048576 := by rw [← e4]; exact hf.l4
  have e5 : c.ps.length = d.l5 := by simpa using (show (c.ps.map pdF).length = d.l5 from hr.p.1)
  have hL5 : d.l5 ≤ 1048576 := by rw [← e5]; exact hf.l5
  clear hr hf e1 e2 e3 e4 e5
  obtain ⟨X0, hX0⟩ : ∃ X, X = ((w.alloc (.cells #[.slice d.a1 d.l1 d.c1, .slice d.a2 d.l2 d.c2, .slice d.a3 d.l3 d.c3, .slice d.a4 d.l4 d.c4, .slice d.a5 d.l5 d.c5, .int .i64 c.now] 28)).alloc (.cells #[.slice none 0 0, .slice none 0 0, .slice none 0 0, .slice none 0 0, .slice none 0 0, .int .i64 0] 38)).alloc (.cells #[.slice none 0 0, .slice none 0 0, .slice none 0 0, .slice none 0 0, .slice none 0 0, .int .i64 0] 38) := ⟨_, rfl⟩
  have B0 : Hid (Below w.heap.size w X0) := by rw [hX0]; exact below3 _ _ _ _
  have bx0 : Hid (X0.heap[w.heap.size]? = some (.cells #[.slice d.a1 d.l1 d.c1, .slice d.a2 d.l2 d.c2, .slice d.a3 d.l3 d.c3, .slice d.a4 d.l4 d.c4, .slice d.a5 d.l5 d.c5, .int .i64 c.now] 28 (0, 0))) := by rw [hX0]; exact heap3_0 _ _ _ _
  have br0 : Hid (X0.heap[w.heap.size + 1]? = some (.cells #[.slice none 0 0, .slice none 0 0, .slice none 0 0, .slice none 0 0, .slice none 0 0, .int .i64 0] 38 (0, 0))) := by rw [hX0]; exact heap3_1 _ _ _ _
  have bl0 : Hid (X0.heap[w.heap.size + 1 + 1]? = some (.cells #[.slice none 0 0, .slice none 0 0, .slice none 0 0, .slice none 0 0, .slice none 0 0, .int .i64 0] 38 (0, 0))) := by rw [hX0]; exact heap3_2 _ _ _ _
  have hs0 : w.heap.size + 1 + 1 < X0.heap.size := lt_of_some bl0.out
  go_enter Tryz.func6, Tryz.ntmps6
  go_wp2_with fail
  rw [← hX0]
  clear hX0
  refine (tond_any d.a1 d.l1 d.c1 c.ns _ (HR.out.n.below B0.out) hL1 HF.out.f1).mono ?_
  rintro e w1 ⟨rfl, ho, hb⟩
  have hsz1 := hb.size
  have gx := (hb.block _ (lt_of_some bx0.out)).trans bx0.out
  have gr := (hb.block _ (lt_of_some br0.out)).trans br0.out
  have gl := (hb.block _ (lt_of_some bl0.out)).trans bl0.out
  have gB := B0.out.trans (hb.mono B0.out.size)
  have P1 := hidK ho
  clear ho hb bx0 br0 bl0 B0
  have pl : w1.cell? ⟨w.heap.size + 1 + 1, 0, none⟩ = some (.slice none 0 0) := cellK gl 0
  have fl : w1.frozen? ⟨w.heap.size + 1 + 1, 0, none⟩ = false := froK gl 0
  have px : w1.cell? ⟨w.heap.size, 1, none⟩ = some (.slice d.a2 d.l2 d.c2) := cellK gx 1
  obtain ⟨X1, hX1⟩ : ∃ X, X = w1.setCell ⟨w.heap.size + 1 + 1, 0, none⟩ (.slice (some ⟨X0.heap.size, 0, none⟩) d.l1 d.l1) := ⟨_, rfl⟩
  have hxa1 : X1.heap.size ≤ w1.heap.size := by rw [hX1]; simp [World.setCell]
  have hxb1 : w1.heap.size ≤ X1.heap.size := by rw [hX1]; simp [World.setCell]
  have bx1 : Hid (X1.heap[w.heap.size]? = some (.cells #[.slice d.a1 d.l1 d.c1, .slice d.a2 d.l2 d.c2, .slice d.a3 d.l3 d.c3, .slice d.a4 d.l4 d.c4, .slice d.a5 d.l5 d.c5, .int .i64 c.now] 28 (0, 0))) := by rw [hX1]; exact set_keeps (by omega) gx
  have br1 : Hid (X1.heap[w.heap.size + 1]? = some (.cells #[.slice none 0 0, .slice none 0 0, .slice none 0 0, .slice none 0 0, .slice none 0 0, .int .i64 0] 38 (0, 0))) := by rw [hX1]; exact set_keeps (by omega) gr
  have bl1 : Hid (X1.heap[w.heap.size + 1 + 1]? = some (.cells #[.slice (some ⟨X0.heap.size, 0, none⟩) d.l1 d.l1, .slice none 0 0, .slice none 0 0, .slice none 0 0, .slice none 0 0, .int .i64 0] 38 (0, 0))) := by rw [hX1]; have := block_set (i := 0) gl (.slice (some ⟨X0.heap.size, 0, none⟩) d.l1 d.l1); simpa [Hid] using this
  have B1 : Hid (Below w.heap.size w X1) := by rw [hX1]; exact set_below (by omega) gB
  have O1 := hidK (P1.out.keep (w' := X1) (fun k hk s => by rw [hX1]; exact Below.heap_setCell _ _ _ _ (show k ≠ w.heap.size + 1 + 1 by have h9 : X0.heap.size ≤ k := s; omega)) (fun k hk s => (⟨s, hk⟩ : X0.heap.size ≤ k ∧ k < w1.heap.size)))
  clear gx gr gl gB P1
  go_wp2_with fail
  rw [← hX1]
  clear hX1
  clear pl fl px
  refine (tokd_any d.a2 d.l2 d.c2 c.ks _ (HR.out.k.below B1.out) hL2).mono ?_
  rintro e w2 ⟨rfl, ho, hb⟩
  have hsz2 := hb.size
  have gx := (hb.block _ (lt_of_some bx1.out)).trans bx1.out
  have gr := (hb.block _ (lt_of_some br1.out)).trans br1.out
  have gl := (hb.block _ (lt_of_some bl1.out)).trans bl1.out
  have gB := B1.out.trans (hb.mono B1.out.size)
  have P2 := hidK ho
  have Q1 := hidK (O1.out.below hb)
  clear ho hb bx1 br1 bl1 B1 O1
  have pl : w2.cell? ⟨w.heap.size + 1 + 1, 1, none⟩ = some (.slice none 0 0) := cellK gl 1
  have fl : w2.frozen? ⟨w.heap.size + 1 + 1, 1, none⟩ = false := froK gl 1
  have px : w2.cell? ⟨w.heap.size, 2, none⟩ = some (.slice d.a3 d.l3 d.c3) := cellK gx 2
  obtain ⟨X2, hX2⟩ : ∃ X, X = w2.setCell ⟨w.heap.size + 1 + 1, 1, none⟩ (.slice (some ⟨X1.heap.size, 0, none⟩) d.l2 d.l2) := ⟨_, rfl⟩
  have hxa2 : X2.heap.size ≤ w2.heap.size := by rw [hX2]; simp [World.setCell]
  have hxb2 : w2.heap.size ≤ X2.heap.size := by rw [hX2]; simp [World.setCell]
  have bx2 : Hid (X2.heap[w.heap.size]? = some (.cells #[.slice d.a1 d.l1 d.c1, .slice d.a2 d.l2 d.c2, .slice d.a3 d.l3 d.c3, .slice d.a4 d.l4 d.c4, .slice d.a5 d.l5 d.c5, .int .i64 c.now] 28 (0, 0))) := by rw [hX2]; exact set_keeps (by omega) gx
  have br2 : Hid (X2.heap[w.heap.size + 1]? = some (.cells #[.slice none 0 0, .slice none 0 0, .slice none 0 0, .slice none 0 0, .slice none 0 0, .int .i64 0] 38 (0, 0))) := by rw [hX2]; exact set_keeps (by omega) gr
  have bl2 : Hid (X2.heap[w.heap.size + 1 + 1]? = some (.cells #[.slice (some ⟨X0.heap.size, 0, none⟩) d.l1 d.l1, .slice (some ⟨X1.heap.size, 0, none⟩) d.l2 d.l2, .slice none 0 0, .slice none 0 0, .slice none 0 0, .int .i64 0] 38 (0, 0))) := by rw [hX2]; have := block_set (i := 1) gl (.slice (some ⟨X1.heap.size, 0, none⟩) d.l2 d.l2); simpa [Hid] using this
  have B2 : Hid (Below w.heap.size w X2) := by rw [hX2]; exact set_below (by omega) gB
  have O1 := hidK (Q1.out.keep (w' := X2) (fun k hk s => by rw [hX2]; exact Below.heap_setCell _ _ _ _ (show k ≠ w.heap.size + 1 + 1 by have h9 : X0.heap.size ≤ k := s.1; omega)) (fun k hk s => s))
  have O2 := hidK (P2.out.keep (w' := X2) (fun k hk s => by rw [hX2]; exact Below.heap_setCell _ _ _ _ (show k ≠ w.heap.size + 1 + 1 by have h9 : X1.heap.size ≤ k := s; omega)) (fun k hk s => (⟨s, hk⟩ : X1.heap.size ≤ k ∧ k < w2.heap.size)))
  clear gx gr gl gB P2 Q1
  go_wp2_with fail
  rw [← hX2]
  clear hX2
  clear pl fl px
  refine (tovd_any d.a3 d.l3 d.c3 c.vs _ (HR.out.v.below B2.out) hL3 HF.out.f3).mono ?_
  rintro e w3 ⟨rfl, ho, hb⟩
  have hsz3 := hb.size
  have gx := (hb.block _ (lt_of_some bx2.out)).trans bx2.out
  have gr := (hb.block _ (lt_of_some br2.out)).trans br2.out
  have gl := (hb.block _ (lt_of_some bl2.out)).trans bl2.out
  have gB := B2.out.trans (hb.mono B2.out.size)
  have P3 := hidK ho
  have Q1 := hidK (O1.out.below hb)
  have Q2 := hidK (O2.out.below hb)
  clear ho hb bx2 br2 bl2 B2 O1 O2
  have pl : w3.cell? ⟨w.heap.size + 1 + 1, 2, none⟩ = some (.slice none 0 0) := cellK gl 2
  have fl : w3.frozen? ⟨w.heap.size + 1 + 1, 2, none⟩ = false := froK gl 2
  have px : w3.cell? ⟨w.heap.size, 3, none⟩ = some (.slice d.a4 d.l4 d.c4) := cellK gx 3
  obtain ⟨X3, hX3⟩ : ∃ X, X = w3.setCell ⟨w.heap.size + 1 + 1, 2, none⟩ (.slice (some ⟨X2.heap.size, 0, none⟩) d.l3 d.l3) := ⟨_, rfl⟩
  have hxa3 : X3.heap.size ≤ w3.heap.size := by rw [hX3]; simp [World.setCell]
  have hxb3 : w3.heap.size ≤ X3.heap.size := by rw [hX3]; simp [World.setCell]
  have bx3 : Hid (X3.heap[w.heap.size]? = some (.cells #[.slice d.a1 d.l1 d.c1, .slice d.a2 d.l2 d.c2, .slice d.a3 d.l3 d.c3, .slice d.a4 d.l4 d.c4, .slice d.a5 d.l5 d.c5, .int .i64 c.now] 28 (0, 0))) := by rw [hX3]; exact set_keeps (by omega) gx
  have br3 : Hid (X3.heap[w.heap.size + 1]? = some (.cells #[.slice none 0 0, .slice none 0 0, .slice none 0 0, .slice none 0 0, .slice none 0 0, .int .i64 0] 38 (0, 0))) := by rw [hX3]; exact set_keeps (by omega) gr
  have bl3 : Hid (X3.heap[w.heap.size + 1 + 1]? = some (.cells #[.slice (some ⟨X0.heap.size, 0, none⟩) d.l1 d.l1, .slice (some ⟨X1.heap.size, 0, none⟩) d.l2 d.l2, .slice (some ⟨X2.heap.size, 0, none⟩) d.l3 d.l3, .slice none 0 0, .slice none 0 0, .int .i64 0] 38 (0, 0))) := by rw [hX3]; have := block_set (i := 2) gl (.slice (some ⟨X2.heap.size, 0, none⟩) d.l3 d.l3); simpa [Hid] using this
  have B3 : Hid (Below w.heap.size w X3) := by rw [hX3]; exact set_below (by omega) gB
  have O1 := hidK (Q1.out.keep (w' := X3) (fun k hk s => by rw [hX3]; exact Below.heap_setCell _ _ _ _ (show k ≠ w.heap.size + 1 + 1 by have h9 : X0.heap.size ≤ k := s.1; omega)) (fun k hk s => s))
  have O2 := hidK (Q2.out.keep (w' := X3) (fun k hk s => by rw [hX3]; exact Below.heap_setCell _ _ _ _ (show k ≠ w.heap.size + 1 + 1 by have h9 : X1.heap.size ≤ k := s.1; omega)) (fun k hk s => s))
  have O3 := hidK (P3.out.keep (w' := X3) (fun k hk s => by rw [hX3]; exact Below.heap_setCell _ _ _ _ (show k ≠ w.heap.size + 1 + 1 by have h9 : X2.heap.size ≤ k := s; omega)) (fun k hk s => (⟨s, hk⟩ : X2.heap.size ≤ k ∧ k < w3.heap.size)))
  clear gx gr gl gB P3 Q1 Q2
  go_wp2_with fail
  rw [← hX3]
  clear hX3
  clear pl fl px
  refine (toxd_any d.a4 d.l4 d.c4 c.xs _ (HR.out.x.below B3.out) hL4).mono ?_
  rintro e w4 ⟨rfl, ho, hb⟩
  have hsz4 := hb.size
  have gx := (hb.block _ (lt_of_some bx3.out)).trans bx3.out
  have gr := (hb.block _ (lt_of_some br3.out)).trans br3.out
  have gl := (hb.block _ (lt_of_some bl3.out)).trans bl3.out
  have gB := B3.out.trans (hb.mono B3.out.size)
  have P4 := hidK ho
  have Q1 := hidK (O1.out.below hb)
  have Q2 := hidK (O2.out.below hb)
  have Q3 := hidK (O3.out.below hb)
  clear ho hb bx3 br3 bl3 B3 O1 O2 O3
  have pl : w4.cell? ⟨w.heap.size + 1 + 1, 3, none⟩ = some (.slice none 0 0) := cellK gl 3
  have fl : w4.frozen? ⟨w.heap.size + 1 + 1, 3, none⟩ = false := froK gl 3
  have px : w4.cell? ⟨w.heap.size, 4, none⟩ = some (.slice d.a5 d.l5 d.c5) := cellK gx 4
  obtain ⟨X4, hX4⟩ : ∃ X, X = w4.setCell ⟨w.heap.size + 1 + 1, 3, none⟩ (.slice (some ⟨X3.heap.size, 0, none⟩) d.l4 d.l4) := ⟨_, rfl⟩
  have hxa4 : X4.heap.size ≤ w4.heap.size := by rw [hX4]; simp [World.setCell]
  have hxb4 : w4.heap.size ≤ X4.heap.size := by rw [hX4]; simp [World.setCell]
  have bx4 : Hid (X4.heap[w.heap.size]? = some (.cells #[.slice d.a1 d.l1 d.c1, .slice d.a2 d.l2 d.c2, .slice d.a3 d.l3 d.c3, .slice d.a4 d.l4 d.c4, .slice d.a5 d.l5 d.c5, .int .i64 c.now] 28 (0, 0))) := by rw [hX4]; exact set_keeps (by omega) gx
  have br4 : Hid (X4.heap[w.heap.size + 1]? = some (.cells #[.slice none 0 0, .slice none 0 0, .slice none 0 0, .slice none 0 0, .slice none 0 0, .int .i64 0] 38 (0, 0))) := by rw [hX4]; exact set_keeps (by omega) gr
  have bl4 : Hid (X4.heap[w.heap.size + 1 + 1]? = some (.cells #[.slice (some ⟨X0.heap.size, 0, none⟩) d.l1 d.l1, .slice (some ⟨X1.heap.size, 0, none⟩) d.l2 d.l2, .slice (some ⟨X2.heap.size, 0, none⟩) d.l3 d.l3, .slice (some ⟨X3.heap.size, 0, none⟩) d.l4 d.l4, .slice none 0 0, .int .i64 0] 38 (0, 0))) := by rw [hX4]; have := block_set (i := 3) gl (.slice (some ⟨X3.heap.size, 0, none⟩) d.l4 d.l4); simpa [Hid] using this
  have B4 : Hid (Below w.heap.size w X4) := by rw [hX4]; exact set_below (by omega) gB
  have O1 := hidK (Q1.out.keep (w' := X4) (fun k hk s => by rw [hX4]; exact Below.heap_setCell _ _ _ _ (show k ≠ w.heap.size + 1 + 1 by have h9 : X0.heap.size ≤ k := s.1; omega)) (fun k hk s => s))
  have O2 := hidK (Q2.out.keep (w' := X4) (fun k hk s => by rw [hX4]; exact Below.heap_setCell _ _ _ _ (show k ≠ w.heap.size + 1 + 1 by have h9 : X1.heap.size ≤ k := s.1; omega)) (fun k hk s => s))
  have O3 := hidK (Q3.out.keep (w' := X4) (fun k hk s => by rw [hX4]; exact Below.heap_setCell _ _ _ _ (show k ≠ w.heap.size + 1 + 1 by have h9 : X2.heap.size ≤ k := s.1; omega)) (fun k hk s => s))
  have O4 := hidK (P4.out.keep (w' := X4) (fun k hk s => by rw [hX4]; exact Below.heap_setCell _ _ _ _ (show k ≠ w.heap.size + 1 + 1 by have h9 : X3.heap.size ≤ k := s; omega)) (fun k hk s => (⟨s, hk⟩ : X3.heap.size ≤ k ∧ k < w4.heap.size)))
  clear gx gr gl gB P4 Q1 Q2 Q3
  go_wp2_with fail
  rw [← hX4]
  clear hX4
  clear pl fl px
  refine (topd_any d.a5 d.l5 d.c5 c.ps _ (HR.out.p.below B4.out) hL5 HF.out.f5).mono ?_
  rintro e w5 ⟨rfl, ho, hb⟩
  have hsz5 := hb.size
  have gx := (hb.block _ (lt_of_some bx4.out)).trans bx4.out
  have gr := (hb.block _ (lt_of_some br4.out)).trans br4.out
  have gl := (hb.block _ (lt_of_some bl4.out)).trans bl4.out
  have gB := B4.out.trans (hb.mono B4.out.size)
  have P5 := hidK ho
  have Q1 := hidK (O1.out.below hb)
  have Q2 := hidK (O2.out.below hb)
  have Q3 := hidK (O3.out.below hb)
  have Q4 := hidK (O4.out.below hb)
  clear ho hb bx4 br4 bl4 B4 O1 O2 O3 O4
  have l4 : w5.cell? ⟨w.heap.size + 1 + 1, 4, none⟩ = some (.slice none 0 0) := cellK gl 4
  have l5 : w5.cell? ⟨w.heap.size + 1 + 1, 5, none⟩ = some (.int .i64 0) := cellK gl 5
  have l0 : w5.cell? ⟨w.heap.size + 1 + 1, 0, none⟩ = some (.slice (some ⟨X0.heap.size, 0, none⟩) d.l1 d.l1) := cellK gl 0
  have l1 : w5.cell? ⟨w.heap.size + 1 + 1, 1, none⟩ = some (.slice (some ⟨X1.heap.size, 0, none⟩) d.l2 d.l2) := cellK gl 1
  have l2 : w5.cell? ⟨w.heap.size + 1 + 1, 2, none⟩ = some (.slice (some ⟨X2.heap.size, 0, none⟩) d.l3 d.l3) := cellK gl 2
  have l3 : w5.cell? ⟨w.heap.size + 1 + 1, 3, none⟩ = some (.slice (some ⟨X3.heap.size, 0, none⟩) d.l4 d.l4) := cellK gl 3
  have fl0 : w5.frozen? ⟨w.heap.size + 1 + 1, 0, none⟩ = false := froK gl 0
  have r0 : w5.cell? ⟨w.heap.size + 1, 0, none⟩ = some (.slice none 0 0) := cellK gr 0
  have fr0 : w5.frozen? ⟨w.heap.size + 1, 0, none⟩ = false := froK gr 0
  have fl1 : w5.frozen? ⟨w.heap.size + 1 + 1, 1, none⟩ = false := froK gl 1
  have r1 : w5.cell? ⟨w.heap.size + 1, 1, none⟩ = some (.slice none 0 0) := cellK gr 1
  have fr1 : w5.frozen? ⟨w.heap.size + 1, 1, none⟩ = false := froK gr 1
  have fl2 : w5.frozen? ⟨w.heap.size + 1 + 1, 2, none⟩ = false := froK gl 2
  have r2 : w5.cell? ⟨w.heap.size + 1, 2, none⟩ = some (.slice none 0 0) := cellK gr 2
  have fr2 : w5.frozen? ⟨w.heap.size + 1, 2, none⟩ = false := froK gr 2
  have fl3 : w5.frozen? ⟨w.heap.size + 1 + 1, 3, none⟩ = false := froK gl 3
  have r3 : w5.cell? ⟨w.heap.size + 1, 3, none⟩ = some (.slice none 0 0) := cellK gr 3
  have fr3 : w5.frozen? ⟨w.heap.size + 1, 3, none⟩ = false := froK gr 3
  have fl4 : w5.frozen? ⟨w.heap.size + 1 + 1, 4, none⟩ = false := froK gl 4
  have r4 : w5.cell? ⟨w.heap.size + 1, 4, none⟩ = some (.slice none 0 0) := cellK gr 4
  have fr4 : w5.frozen? ⟨w.heap.size + 1, 4, none⟩ = false := froK gr 4
  have fl5 : w5.frozen? ⟨w.heap.size + 1 + 1, 5, none⟩ = false := froK gl 5
  have r5 : w5.cell? ⟨w.heap.size + 1, 5, none⟩ = some (.int .i64 0) := cellK gr 5
  have fr5 : w5.frozen? ⟨w.heap.size + 1, 5, none⟩ = false := froK gr 5
  have px : w5.cell? ⟨w.heap.size, 5, none⟩ = some (.int .i64 c.now) := cellK gx 5
  have GB := hidK gB
  clear gx gr gl gB
  go_wp2
  refine bodyPost_ret (v := .agg #[.slice (some ⟨X0.heap.size, 0, none⟩) d.l1 d.l1, .slice (some ⟨X1.heap.size, 0, none⟩) d.l2 d.l2, .slice (some ⟨X2.heap.size, 0, none⟩) d.l3 d.l3, .slice (some ⟨X3.heap.size, 0, none⟩) d.l4 d.l4, .slice (some ⟨X4.heap.size, 0, none⟩) d.l5 d.l5, .int .i64 c.now]) (by simp [results, Tryz.results6, go_sem, *]) rfl ⟨⟨some ⟨X0.heap.size, 0, none⟩, d.l1, d.l1, some ⟨X1.heap.size, 0, none⟩, d.l2, d.l2, some ⟨X2.heap.size, 0, none⟩, d.l3, d.l3, some ⟨X3.heap.size, 0, none⟩, d.l4, d.l4, some ⟨X4.heap.size, 0, none⟩, d.l5, d.l5⟩, rfl, ?_, set_below (show w.heap.size ≤ w.heap.size + 1 by omega) (set_below (show w.heap.size ≤ w.heap.size + 1 by omega) (set_below (show w.heap.size ≤ w.heap.size + 1 by omega) (set_below (show w.heap.size ≤ w.heap.size + 1 by omega) (set_below (show w.heap.size ≤ w.heap.size + 1 by omega) (set_below (show w.heap.size ≤ w.heap.size + 1 by omega) (set_below (show w.heap.size ≤ w.heap.size + 1 + 1 by omega) (set_below (show w.heap.size ≤ w.heap.size + 1 + 1 by omega) (GB.out))))))))⟩
  have keep : ∀ k, w.heap.size + 1 + 1 < k → ∀ (W : World), True → (W.heap[k]? = W.heap[k]?) := fun _ _ _ _ => rfl
  clear keep
  have same : ∀ k, w.heap.size + 1 + 1 < k → ((((((((w5.setCell ⟨w.heap.size + 1 + 1, 4, none⟩ (.slice (some ⟨X4.heap.size, 0, none⟩) d.l5 d.l5)).setCell ⟨w.heap.size + 1 + 1, 5, none⟩ (.int .i64 c.now)).setCell ⟨w.heap.size + 1, 0, none⟩ (.slice (some ⟨X0.heap.size, 0, none⟩) d.l1 d.l1)).setCell ⟨w.heap.size + 1, 1, none⟩ (.slice (some ⟨X1.heap.size, 0, none⟩) d.l2 d.l2)).setCell ⟨w.heap.size + 1, 2, none⟩ (.slice (some ⟨X2.heap.size, 0, none⟩) d.l3 d.l3)).setCell ⟨w.heap.size + 1, 3, none⟩ (.slice (some ⟨X3.heap.size, 0, none⟩) d.l4 d.l4)).setCell ⟨w.heap.size + 1, 4, none⟩ (.slice (some ⟨X4.heap.size, 0, none⟩) d.l5 d.l5)).setCell ⟨w.heap.size + 1, 5, none⟩ (.int .i64 c.now)).heap[k]? = w5.heap[k]? := fun k hk => by
    rw [Below.heap_setCell _ _ _ _ (show k ≠ w.heap.size + 1 by omega), Below.heap_setCell _ _ _ _ (show k ≠ w.heap.size + 1 by omega), Below.heap_setCell _ _ _ _ (show k ≠ w.heap.size + 1 by omega), Below.heap_setCell _ _ _ _ (show k ≠ w.heap.size + 1 by omega), Below.heap_setCell _ _ _ _ (show k ≠ w.heap.size + 1 by omega), Below.heap_setCell _ _ _ _ (show k ≠ w.heap.size + 1 by omega), Below.heap_setCell _ _ _ _ (show k ≠ w.heap.size + 1 + 1 by omega), Below.heap_setCell _ _ _ _ (show k ≠ w.heap.size + 1 + 1 by omega)]
  refine ⟨fun k => if k < w1.heap.size then 1 else if k < w2.heap.size then 2 else if k < w3.heap.size then 3 else if k < w4.heap.size then 4 else 5, ?_, ?_, ?_, ?_, ?_⟩
  · refine Q1.out.keep (fun k hk s => same k (by have h9 : X0.heap.size ≤ k := s.1; omega)) (fun k hk s => ⟨?_, ?_⟩)
    · have h9 : X0.heap.size ≤ k := s.1
      show w.heap.size ≤ k
      omega
    · have h9 : X0.heap.size ≤ k := s.1
      have h8 : k < w1.heap.size := s.2
      show (if k < w1.heap.size then 1 else if k < w2.heap.size then 2 else if k < w3.heap.size then 3 else if k < w4.heap.size then 4 else 5) = 1
      rw [if_pos h8]
  · refine Q2.out.keep (fun k hk s => same k (by have h9 : X1.heap.size ≤ k := s.1; omega)) (fun k hk s => ⟨?_, ?_⟩)
    · have h9 : X1.heap.size ≤ k := s.1
      show w.heap.size ≤ k
      omega
    · have h9 : X1.heap.size ≤ k := s.1
      have h8 : k < w2.heap.size := s.2
      show (if k < w1.heap.size then 1 else if k < w2.heap.size then 2 else if k < w3.heap.size then 3 else if k < w4.heap.size then 4 else 5) = 2
      rw [if_neg (by omega)]; rw [if_pos h8]
  · refine Q3.out.keep (fun k hk s => same k (by have h9 : X2.heap.size ≤ k := s.1; omega)) (fun k hk s => ⟨?_, ?_⟩)
    · have h9 : X2.heap.size ≤ k := s.1
      show w.heap.size ≤ k
      omega
    · have h9 : X2.heap.size ≤ k := s.1
      have h8 : k < w3.heap.size := s.2
      show (if k < w1.heap.size then 1 else if k < w2.heap.size then 2 else if k < w3.heap.size then 3 else if k < w4.heap.size then 4 else 5) = 3
      rw [if_neg (by omega)]; rw [if_neg (by omega)]; rw [if_pos h8]
  · refine Q4.out.keep (fun k hk s => same k (by have h9 : X3.heap.size ≤ k := s.1; omega)) (fun k hk s => ⟨?_, ?_⟩)
    · have h9 : X3.heap.size ≤ k := s.1
      show w.heap.size ≤ k
      omega
    · have h9 : X3.heap.size ≤ k := s.1
      have h8 : k < w4.heap.size := s.2
      show (if k < w1.heap.size then 1 else if k < w2.heap.size then 2 else if k < w3.heap.size then 3 else if k < w4.heap.size then 4 else 5) = 4
      rw [if_neg (by omega)]; rw [if_neg (by omega)]; rw [if_neg (by omega)]; rw [if_pos h8]
  · refine P5.out.keep (fun k hk s => same k (by have h9 : X4.heap.size ≤ k := s; omega)) (fun k hk s => ⟨?_, ?_⟩)
    · have h9 : X4.heap.size ≤ k := s
      show w.heap.size ≤ k
      omega
    · have h9 : X4.heap.size ≤ k := s
      show (if k < w1.heap.size then 1 else if k < w2.heap.size then 2 else if k < w3.heap.size then 3 else if k < w4.heap.size then 4 else 5) = 5
      rw [if_neg (by omega)]; rw [if_neg (by omega)]; rw [if_neg (by omega)]; rw [if_neg (by omega)]; skip

def LFr (w : World) (h : Nat) (S : Nat → Prop) (zs : List ByteArray) (v : Value) : Prop :=
  ∃ a len cap, v = .slice a len cap ∧ zs.length = len ∧ len ≤ cap ∧ cap ≤ 9223372036854775807 ∧ (∀ (j : Nat) x, zs[j]? = some x → x.size ≤ 9223372036854775807) ∧
    (zs = [] ∨ (a = some ⟨h, 0, none⟩ ∧ S h ∧ ∃ cu, w.heap[h]? = some (.cells cu 9 (0, 0)) ∧ ∀ (j : Nat) x, zs[j]? = some x → cu[j]? = some (.string x)))
theorem LFr.keep {w w' : World} {h : Nat} {S S' : Nat → Prop} {zs : List ByteArray} {v : Value} (k : LFr w h S zs v) (hk : ∀ cu, S h → w.heap[h]? = some (.cells cu 9 (0, 0)) → w'.heap[h]? = w.heap[h]?) (hs : h < w.heap.size → S h → S' h) : LFr w' h S' zs v := by
  obtain ⟨a', l', c', h1, h2, h3, h4, h5, h6⟩ := k
  refine ⟨a', l', c', h1, h2, h3, h4, h5, h6.imp id ?_⟩
  rintro ⟨q1, q2, cu, q4, q5⟩
  exact ⟨q1, hs (lt_of_some q4) q2, cu, (hk cu q2 q4).trans q4, q5⟩
theorem LFr.row {w : World} {h : Nat} {S : Nat → Prop} {zs : List ByteArray} {a : Option Addr} {len cap : Nat} (k : LFr w h S zs (.slice a len cap)) : TxRow w a len cap zs := by
  obtain ⟨a', l', c', h1, h2, h3, h4, h5, h6⟩ := k
  cases h1
  refine ⟨h2, h3, h4, h5, h6.imp id ?_⟩
  rintro ⟨q1, q2, cu, q4, q5⟩
  exact ⟨h, 0, q1, lt_of_some q4, fun j x hx => by rw [Nat.zero_add, cellK q4]; exact q5 j x hx⟩
def Fv.Fr (w : World) (h : Nat) (S : Nat → Prop) : Fv → Value → Prop
  | .s t, v => v = .string t ∧ t.size ≤ 9223372036854775807
  | .i n, v => v = .int .i64 n
  | .b x, v => v = .bool x
  | .l zs, v => LFr w h S zs v
theorem Fv.Fr.keep {w w' : World} {h : Nat} {S S' : Nat → Prop} {f : Fv} {v : Value} (k : f.Fr w h S v) (hk : ∀ cu, S h → w.heap[h]? = some (.cells cu 9 (0, 0)) → w'.heap[h]? = w.heap[h]?) (hs : h < w.heap.size → S h → S' h) : f.Fr w' h S' v := by
  cases f with
  | l zs => exact LFr.keep k hk hs
  | _ => exact k
theorem Fv.Fr.own {w : World} {h g : Nat} {S : Nat → Prop} {f : Fv} {v : Value} {cur : Array Value} {T : TypeId} (k : f.Fr w h S v) (hg : w.heap[g]? = some (.cells cur T (0, 0))) (hT : ¬ T = 9) : f.Own w h S g v := by
  cases f with
  | l zs =>
    obtain ⟨a', l', c', h1, h2, h3, h4, h5, h6⟩ := k
    refine ⟨a', l', c', h1, h2, h3, h4, h5, h6.imp id ?_⟩
    rintro ⟨q1, q2, cu, q4, q5⟩
    refine ⟨q1, q2, ?_, cu, q4, q5⟩
    rintro rfl
    rw [hg] at q4
    cases q4
    exact hT rfl
  | _ => exact k
theorem Fv.Own.fr {w : World} {h g : Nat} {S : Nat → Prop} {f : Fv} {v : Value} (k : f.Own w h S g v) : f.Fr w h S v := by
  cases f with
  | l zs =>
    obtain ⟨a', l', c', h1, h2, h3, h4, h5, h6⟩ := k
    refine ⟨a', l', c', h1, h2, h3, h4, h5, h6.imp id ?_⟩
    rintro ⟨q1, q2, q3, cu, q4, q5⟩
    exact ⟨q1, q2, cu, q4, q5⟩
  | _ => exact k
theorem Fv.Fr.one {w : World} {h : Nat} {S : Nat → Prop} {f : Fv} {v : Value} (k : f.Fr w h S v) : v.oneCell' = true := by
  cases f with
  | l zs => obtain ⟨a', l', c', rfl, _⟩ := k; rfl
  | s t => obtain ⟨rfl, _⟩ := k; rfl
  | i n => cases (show v = .int .i64 n from k); rfl
  | b x => cases (show v = .bool x from k); rfl

structure VRecs (w : World) (S : Nat → Prop) (m : Nat) (rs : List (List Fv)) (vss : List (List Value)) (H : Nat → Nat → Nat) : Prop where
  len : vss.length = rs.length
  all : ∀ (j : Nat) vs, vss[j]? = some vs → vs.length = m
  rl : ∀ (j : Nat) r, rs[j]? = some r → r.length = m
  cell : ∀ (j : Nat) r vs, rs[j]? = some r → vss[j]? = some vs → ∀ (i : Nat) f, r[i]? = some f → ∃ v, vs[i]? = some v ∧ f.Fr w (H j i) S v
  inj : ∀ (j : Nat) r (i : Nat) zs (j' : Nat) r' (i' : Nat) zs', rs[j]? = some r → r[i]? = some (.l zs) → zs ≠ [] → rs[j']? = some r' → r'[i']? = some (.l zs') → zs' ≠ [] → H j i = H j' i' → j = j' ∧ i = i'

section
variable {w w' : World} {S S' : Nat → Prop} {m : Nat} {rs : List (List Fv)} {vss : List (List Value)} {H : Nat → Nat → Nat}
theorem VRecs.nil (w : World) (S : Nat → Prop) (m : Nat) (H : Nat → Nat → Nat) : VRecs w S m [] [] H := ⟨rfl, fun j vs h => by simp at h, fun j r h => by simp at h, fun j r vs h => by simp at h, fun j r i zs j' r' i' zs' h => by simp at h⟩
theorem VRecs.keep (h : VRecs w S m rs vss H) (hk : ∀ k cu, S k → w.heap[k]? = some (.cells cu 9 (0, 0)) → w'.heap[k]? = w.heap[k]?) (hs : ∀ k, k < w.heap.size → S k → S' k) : VRecs w' S' m rs vss H :=
  ⟨h.len, h.all, h.rl, fun j r vs h1 h2 i f h3 => by
    obtain ⟨v, h4, h5⟩ := h.cell j r vs h1 h2 i f h3
    exact ⟨v, h4, h5.keep (hk _) (hs _)⟩, h.inj⟩
theorem VRecs.below (h : VRecs w S m rs vss H) (hb : Below w.heap.size w w') : VRecs w' S m rs vss H := h.keep (fun k _ _ q => hb.block k (lt_of_some q)) (fun _ _ s => s)
theorem VRecs.grown (h : VRecs w S m rs vss H) {base n : Nat} {T : TypeId} {v : Value} {xs : List Value} (ho : w.ownsRow base T m v n xs) (hT : ¬ T = 9) (hg : w.grownBy w' v.ownBlock) : VRecs w' S m rs vss H := by
  refine h.keep (fun k cu _ q => hg.block k (lt_of_some q) (fun e => ?_)) (fun _ _ s => s)
  rcases ho.2 with ⟨rfl, _⟩ | ⟨g, cap, cur, rfl, _, hgg, _⟩
  · cases e
  · cases e
    simp only [] at q
    rw [hgg] at q
    cases q
    exact hT rfl
theorem VRecs.push (h : VRecs w S m rs vss H) {r : List Fv} {vs : List Value} {hh : Nat → Nat} (hr : r.length = m) (hvs : vs.length = m) (hc : ∀ (i : Nat) f, r[i]? = some f → ∃ v, vs[i]? = some v ∧ f.Fr w (hh i) S v)
    (hn : ∀ (i : Nat) zs, r[i]? = some (.l zs) → zs ≠ [] → ∀ (j : Nat) r' (i' : Nat) zs', rs[j]? = some r' → r'[i']? = some (.l zs') → zs' ≠ [] → ¬ H j i' = hh i)
    (h1 : ∀ (i i' : Nat) zs zs', r[i]? = some (.l zs) → zs ≠ [] → r[i']? = some (.l zs') → zs' ≠ [] → i = i') :
    VRecs w S m (rs ++ [r]) (vss ++ [vs]) (fun j => if j = rs.length then hh else H j) := by
  have at1 : ∀ {α : Type} {l : List α} {x y : α} {j : Nat}, (l ++ [x])[j]? = some y → (j = l.length ∧ y = x) ∨ (j < l.length ∧ l[j]? = some y) := by
    intro α l x y j hj
    by_cases e : j < l.length
    · rw [List.getElem?_append_left e] at hj; exact .inr ⟨e, hj⟩
    · rw [List.getElem?_append_right (by omega)] at hj
      rcases Nat.eq_zero_or_pos (j - l.length) with e0 | e0
      · rw [e0] at hj; exact .inl ⟨by omega, by simpa using hj.symm⟩
      · rw [List.getElem?_eq_none (by simp; omega)] at hj; cases hj
  refine ⟨by simp [h.len], fun j v hv => ?_, fun j r' hj => ?_, fun j r' v hj hv i f hf => ?_, fun j r1 i zs j' r2 i' zs' a1 a2 a3 b1 b2 b3 e => ?_⟩
  · rcases at1 hv with ⟨_, rfl⟩ | ⟨_, hv⟩
    · exact hvs
    · exact h.all j v hv
  · rcases at1 hj with ⟨_, rfl⟩ | ⟨_, hj⟩
    · exact hr
    · exact h.rl j r' hj
  · rcases at1 hj with ⟨e1, rfl⟩ | ⟨e1, hj⟩
    · rcases at1 hv with ⟨_, rfl⟩ | ⟨e2, hv⟩
      · simp only [e1, if_true]; exact hc i f hf
      · have := h.len; omega
    · rcases at1 hv with ⟨e2, rfl⟩ | ⟨e2, hv⟩
      · have := h.len; omega
      · simp only [if_neg (show ¬ j = rs.length by omega)]
        exact h.cell j r' v hj hv i f hf
  · rcases at1 a1 with ⟨e1, rfl⟩ | ⟨e1, a4⟩ <;> rcases at1 b1 with ⟨e2, rfl⟩ | ⟨e2, b4⟩
    · exact ⟨by omega, h1 _ _ _ _ a2 a3 b2 b3⟩
    · simp only [e1, if_true, if_neg (show ¬ j' = rs.length by omega)] at e
      exact absurd e.symm (hn i zs a2 a3 j' r2 i' zs' b4 b2 b3)
    · simp only [e2, if_true, if_neg (show ¬ j = rs.length by omega)] at e
      exact absurd e (hn i' zs' b2 b3 j r1 i zs a4 a2 a3)
    · simp only [if_neg (show ¬ j = rs.length by omega), if_neg (show ¬ j' = rs.length by omega)] at e
      exact h.inj j r1 i zs j' r2 i' zs' a4 a2 a3 b4 b2 b3 e
end

theorem flat_at {α : Type} {m : Nat} : ∀ {vss : List (List α)}, (∀ (j : Nat) vs, vss[j]? = some vs → vs.length = m) → ∀ {j : Nat} {vs : List α} {i : Nat} {u : α}, vss[j]? = some vs → vs[i]? = some u → vss.flatten[j * m + i]? = some u
  | [], _, j, vs, i, u, h, _ => by simp at h
  | x :: vss, hl, 0, vs, i, u, h, hu => by
    obtain rfl : x = vs := by simpa using h
    have hx := hl 0 x rfl
    have hi := (List.getElem?_eq_some_iff.1 hu).1
    rw [List.flatten_cons, List.getElem?_append_left (by omega), Nat.zero_mul, Nat.zero_add]
    exact hu
  | x :: vss, hl, j + 1, vs, i, u, h, hu => by
    have hx := hl 0 x rfl
    rw [List.flatten_cons, List.getElem?_append_right (by rw [hx, Nat.succ_mul]; omega), hx, show (j + 1) * m + i - m = j * m + i by rw [Nat.succ_mul]; omega]
    exact flat_at (fun j' vs' h' => hl (j' + 1) vs' (by simpa using h')) (by simpa using h) hu
theorem flat_inv {α : Type} {m : Nat} : ∀ {vss : List (List α)}, (∀ (j : Nat) vs, vss[j]? = some vs → vs.length = m) → ∀ {k : Nat} {u : α}, vss.flatten[k]? = some u → ∃ (j i : Nat) (vs : List α), vss[j]? = some vs ∧ vs[i]? = some u ∧ k = j * m + i
  | [], _, k, u, h => by simp at h
  | x :: vss, hl, k, u, h => by
    have hx := hl 0 x rfl
    rw [List.flatten_cons] at h
    by_cases e : k < m
    · rw [List.getElem?_append_left (by omega)] at h
      exact ⟨0, k, x, rfl, h, by omega⟩
    · rw [List.getElem?_append_right (by omega), hx] at h
      obtain ⟨j, i, vs, h1, h2, h3⟩ := flat_inv (fun j' vs' h' => hl (j' + 1) vs' (by simpa using h')) h
      exact ⟨j + 1, i, vs, by simpa using h1, h2, by rw [Nat.succ_mul]; omega⟩
theorem VRecs.one {w : World} {S : Nat → Prop} {m : Nat} {rs : List (List Fv)} {vss : List (List Value)} {H : Nat → Nat → Nat} (h : VRecs w S m rs vss H) : ∀ u ∈ vss.flatten, u.oneCell' = true := by
  intro u hu
  obtain ⟨k, hk, rfl⟩ := List.mem_iff_getElem.1 hu
  obtain ⟨j, i, vs, h1, h2, _⟩ := flat_inv h.all (List.getElem?_eq_getElem hk)
  have hj : j < rs.length := by rw [← h.len]; exact (List.getElem?_eq_some_iff.1 h1).1
  have hr := List.getElem?_eq_getElem hj
  have hi : i < (rs[j]).length := by rw [h.rl j _ hr, ← h.all j vs h1]; exact (List.getElem?_eq_some_iff.1 h2).1
  obtain ⟨v, h3, h4⟩ := h.cell j _ vs hr h1 i _ (List.getElem?_eq_getElem hi)
  rw [h2] at h3
  cases h3
  exact h4.one

theorem VRecs.own {w : World} {S : Nat → Prop} {m : Nat} {T : TypeId} {rs : List (List Fv)} {vss : List (List Value)} {H : Nat → Nat → Nat} (h : VRecs w S m rs vss H) {base n : Nat} {v : Value} (ho : w.ownsRow base T m v n vss.flatten) (hn : n = rs.length) (hT : ¬ T = 9) (hS : ∀ g, v.ownBlock = some g → S g) :
    ∃ a cap, v = .slice a rs.length cap ∧ ROwn w a rs.length cap m T rs S := by
  subst hn
  rcases ho.2 with ⟨rfl, h0⟩ | ⟨g, cap, cur, rfl, _, hgg, h1, h2, h3, h4⟩
  · obtain rfl : rs = [] := List.eq_nil_of_length_eq_zero h0
    exact ⟨none, 0, rfl, ROwn.nil _ _ _ _ _ (by omega)⟩
  · refine ⟨_, cap, rfl, rfl, h1, by unfold maxLen at h2; omega, .inr ⟨g, cur, H, rfl, hgg, hS g rfl, h.rl, fun j r hj i f hi => ?_, h.inj⟩⟩
    have hjl : j < vss.length := by rw [h.len]; exact (List.getElem?_eq_some_iff.1 hj).1
    have hv := List.getElem?_eq_getElem hjl
    obtain ⟨u, h5, h6⟩ := h.cell j r _ hj hv i f hi
    have h7 := flat_at h.all hv h5
    rw [← h4, List.getElem?_take] at h7
    split at h7
    · exact ⟨u, by simpa using h7, h6.own hgg hT⟩
    · cases h7

def Bw (y W : World) : Prop := Below y.heap.size y W
theorem Bw.refl (y : World) : Bw y y := Below.refl _ _
theorem Bw.below {y W W' : World} (h : Bw y W) (hb : Below W.heap.size W W') : Bw y W' := Below.trans h (hb.mono (Below.size h))
theorem Bw.kept {y W W' : World} {S : Nat → Prop} (h : Bw y W) (hk : KeptS S W W') (hs : ∀ k, S k → y.heap.size ≤ k) : Bw y W' := Below.trans h (hk.low (Below.size h) hs)
theorem Bw.out {y W : World} (h : Bw y W) : Below y.heap.size y W := h
theorem Bw.le {y W : World} (h : Bw y W) : y.heap.size ≤ W.heap.size := Below.size h

def TOwn (w : World) (a : Option Addr) (l c : Nat) (zs : List ByteArray) (S : Nat → Prop) : Prop :=
  TxRow w a l c zs ∧ (zs = [] ∨ ∃ g cur, a = some ⟨g, 0, none⟩ ∧ S g ∧ w.heap[g]? = some (.cells cur 9 (0, 0)))
theorem TOwn.keep {w w' : World} {a : Option Addr} {l c : Nat} {zs : List ByteArray} {S S' : Nat → Prop} (h : TOwn w a l c zs S) (hk : ∀ k, k < w.heap.size → S k → w'.heap[k]? = w.heap[k]?) (hs : ∀ k, k < w.heap.size → S k → S' k) : TOwn w' a l c zs S' := by
  obtain ⟨⟨h1, h2, h3, h4, h5⟩, h6⟩ := h
  rcases h6 with rfl | ⟨g, cur, rfl, hS, hg⟩
  · exact ⟨⟨h1, h2, h3, h4, .inl rfl⟩, .inl rfl⟩
  · have hg' := (hk g (lt_of_some hg) hS).trans hg
    refine ⟨⟨h1, h2, h3, h4, h5.imp id ?_⟩, .inr ⟨g, cur, rfl, hs g (lt_of_some hg) hS, hg'⟩⟩
    rintro ⟨b, o, e, hlt, hc⟩
    cases e
    exact ⟨g, 0, rfl, lt_of_some hg', fun j x hx => by have := hc j x hx; rw [cellK hg] at this; rw [cellK hg']; exact this⟩
theorem TOwn.below {w w' : World} {a : Option Addr} {l c : Nat} {zs : List ByteArray} {S : Nat → Prop} (h : TOwn w a l c zs S) (hb : Below w.heap.size w w') : TOwn w' a l c zs S := h.keep (fun k hk _ => hb.block k hk) (fun _ _ s => s)
theorem TOwn.kept {w w' : World} {a : Option Addr} {l c : Nat} {zs : List ByteArray} {S S' : Nat → Prop} (h : TOwn w a l c zs S) (hb : KeptS S' w w') (hd : ∀ k, S k → ¬ S' k) : TOwn w' a l c zs S := h.keep (fun k hk s => hb.block k hk (hd k s)) (fun _ _ s => s)
theorem TOwn.into {w : World} {a : Option Addr} {l c : Nat} {zs : List ByteArray} {S S' : Nat → Prop} (h : TOwn w a l c zs S) (hs : ∀ k, k < w.heap.size → S k → S' k) : TOwn w a l c zs S' := h.keep (fun _ _ _ => rfl) hs
theorem TOwn.row {w : World} {a : Option Addr} {l c : Nat} {zs : List ByteArray} {S : Nat → Prop} (h : TOwn w a l c zs S) : TxRow w a l c zs := h.1
theorem markTexts {w : World} {a : Option Addr} {l c : Nat} {zs : List ByteArray} {S : Nat → Prop} (h : TOwn w a l c zs S) (hl : l ≤ 1048576) :
    Calls Tryz.prog 11 #[.slice a l c, .int .i64 1] w fun e w' => e = .returned (.int .i64 (1 + l)) ∧ TOwn w' a l c (marksU 1 l) S ∧ KeptS S w w' := by
  obtain ⟨⟨h1, h2, h3, h4, h5⟩, h6⟩ := h
  by_cases hz : zs = []
  · subst hz
    obtain rfl : l = 0 := by simpa using h1.symm
    refine (markZn_any a c 1 w).mono ?_
    rintro e w' ⟨rfl, hb⟩
    exact ⟨by simp, ⟨⟨rfl, h2, h3, fun j x hx => by simp [marksU] at hx, .inl rfl⟩, .inl rfl⟩, KeptS.of_below hb⟩
  rcases h6 with h6 | ⟨g, cur, rfl, hS, hg⟩
  · exact absurd h6 hz
  rcases h5 with h5 | ⟨b, o, e, hlt, hc⟩
  · exact absurd h5 hz
  cases e
  have hls : l ≤ cur.size := by
    rcases Nat.eq_zero_or_pos l with e | e
    · omega
    · have hx : zs[l - 1]? = some (zs[l - 1]'(by omega)) := List.getElem?_eq_getElem _
      have h7 := hc _ _ hx
      rw [cellK hg] at h7
      have := (Array.getElem?_eq_some_iff.1 h7).1
      omega
  refine (markS_any g l c 1 cur w hg hls (by omega) (by omega)).mono ?_
  rintro e w' ⟨rfl, hk, cu', hg', hm, hsz⟩
  refine ⟨by simp, ⟨⟨marksU_length _ _, h2, h3, fun t x hx => ?_, .inr ⟨g, 0, rfl, lt_of_some hg', fun t x hx => ?_⟩⟩, .inr ⟨g, cu', rfl, hS, hg'⟩⟩, (KeptS.refl S w).kept hS hk⟩
  · obtain ⟨rfl, ht⟩ := marksU_at hx
    exact markT_size (by simp; omega)
  · obtain ⟨rfl, ht⟩ := marksU_at hx
    rw [cellK hg', Nat.zero_add]
    have := hm t ht
    simpa using this
theorem heldTexts {w : World} {a : Option Addr} {l c : Nat} (hr : TxRow w a l c (marksU 1 l)) (hl : l ≤ 1048576) :
    Calls Tryz.prog 12 #[.slice a l c, .int .i64 1] w fun e w' => e = .returned (.int .i64 (1 + l)) ∧ Below w.heap.size w w' := heldP a l c 1 w hr (by omega) (by omega)
theorem eqTexts {w : World} {a a' : Option Addr} {l c l' c' : Nat} {zs : List ByteArray} (hr : TxRow w a l c zs) (hr' : TxRow w a' l' c' zs) :
    Calls Tryz.prog 8 #[.slice a l c, .slice a' l' c'] w fun e w' => e = .returned (.bool true) ∧ Below w.heap.size w w' := by
  refine (eqS_any a a' l l' c c' zs zs w hr hr').mono ?_
  intro e w' h
  exact BoolB.yes h rfl

theorem TOwn.of_row {w : World} {base n : Nat} {v : Value} {zs : List ByteArray} (h : w.ownsRow base 9 1 v n (zs.map Value.string)) (hs : ∀ (j : Nat) x, zs[j]? = some x → x.size ≤ 9223372036854775807) : ∃ a c, v = .slice a n c ∧ TOwn w a n c zs (fun k => base ≤ k) := by
  obtain ⟨hl, h⟩ := h
  have hl' : zs.length = n := by simpa using hl
  rcases h with ⟨rfl, rfl⟩ | ⟨g, cap, cur, rfl, hbg, hg, hnc, hcm, hsz, htk⟩
  · obtain rfl : zs = [] := List.eq_nil_of_length_eq_zero hl'
    exact ⟨none, 0, rfl, ⟨rfl, Nat.le_refl _, by omega, fun j x hx => by simp at hx, .inl rfl⟩, .inl rfl⟩
  · refine ⟨some ⟨g, 0, none⟩, cap, rfl, ⟨hl', hnc, by unfold maxLen at hcm; omega, hs, .inr ⟨g, 0, rfl, lt_of_some hg, fun j x hx => ?_⟩⟩, .inr ⟨g, cur, rfl, hbg, hg⟩⟩
    rw [Nat.zero_add, cellK hg]
    have hj : j < n := by have := (List.getElem?_eq_some_iff.1 hx).1; omega
    have e1 : (cur.toList.take (n * 1))[j]? = some (.string x) := by rw [htk]; simp [hx]
    rw [List.getElem?_take, if_pos (by omega)] at e1
    simpa using e1
theorem owns_below {w w' : World} {base n m : Nat} {T : TypeId} {v : Value} {xs : List Value} (h : w.ownsRow base T m v n xs) (hb : Below w.heap.size w w') : w'.ownsRow base T m v n xs := by
  refine ⟨h.1, h.2.imp id ?_⟩
  rintro ⟨g, cap, cur, h1, h2, h3, h4⟩
  exact ⟨g, cap, cur, h1, h2, (hb.block _ (lt_of_some h3)).trans h3, h4⟩

theorem mkN_up : ∀ (r : List Fv) (k : Int), (∀ (i : Nat) zs, r[i]? = some (.l zs) → zs.length ≤ 1048576) → mkN k r ≤ k + r.length * 1048577
  | [], k, _ => by simp [mkN]
  | f :: r, k, h => by
    have h1 := mkN_up r (mkN1 k f) (fun i zs hi => h (i + 1) zs (by simpa using hi))
    have h2 : mkN1 k f ≤ k + 1048577 := by
      cases f with
      | l zs => have := h 0 zs rfl; simp only [mkN1]; omega
      | _ => simp only [mkN1]; omega
    simp only [mkN, List.length_cons]
    omega
theorem mkNs_up {m : Nat} : ∀ (rs : List (List Fv)) (k : Int), (∀ (j : Nat) r, rs[j]? = some r → r.length ≤ m ∧ ∀ (i : Nat) zs, r[i]? = some (.l zs) → zs.length ≤ 1048576) → mkNs k rs ≤ k + rs.length * (m * 1048577)
  | [], k, _ => by simp [mkNs]
  | r :: rs, k, h => by
    have h1 := mkNs_up rs (mkN k r) (fun j r' hj => h (j + 1) r' (by simpa using hj))
    obtain ⟨h2, h3⟩ := h 0 r rfl
    have h4 := mkN_up r k h3
    have h5 : r.length * 1048577 ≤ m * 1048577 := Nat.mul_le_mul_right _ h2
    have h6 : ((rs.length + 1 : Nat) : Int) * (m * 1048577) = rs.length * (m * 1048577) + m * 1048577 := by
      rw [Int.natCast_add]
      simp [Int.add_mul]
    simp only [mkNs, List.length_cons]
    rw [h6]
    omega
theorem flat_fit {α : Type} {F : α → List Fv} {xs : List α} {m : Nat} (hm : ∀ x, (F x).length ≤ m) (hl : ∀ (j : Nat) x, xs[j]? = some x → ∀ (i : Nat) zs, (F x)[i]? = some (.l zs) → zs.length ≤ 1048576) (hx : xs.length ≤ 1048576) (hm8 : m ≤ 8) (k : Int) : mkNs k (xs.map F) ≤ k + 8796101410816 := by
  have h := mkNs_up (m := m) (xs.map F) k (fun j r hj => by
    rw [List.getElem?_map] at hj
    obtain ⟨x, h1, rfl⟩ := Option.map_eq_some_iff.1 hj
    exact ⟨hm x, hl j x h1⟩)
  rw [List.length_map] at h
  have h2 : xs.length * (m * 1048577) ≤ 1048576 * (8 * 1048577) := Nat.mul_le_mul hx (Nat.mul_le_mul_right _ hm8)
  have h3 : ((xs.length * (m * 1048577) : Nat) : Int) = (xs.length : Int) * ((m : Int) * 1048577) := by rw [Int.natCast_mul, Int.natCast_mul]; rfl
  rw [← h3] at h
  omega
theorem ClFit.marks2 {c : Cl} (h : ClFit c) : mkCn 1 c.raw ≤ 1000000000000000 := by
  have one : ∀ {zs zs' : List ByteArray}, zs.length ≤ 1048576 → some (Fv.l zs) = some (.l zs') → zs'.length ≤ 1048576 := fun h e => by cases e; exact h
  have a1 := fun k => flat_fit (F := ndF) (m := 7) (xs := c.ns) (fun _ => Nat.le_refl _) (fun j x hx i zs hi => by
    rcases i with _ | _ | _ | _ | _ | _ | _ | i <;> first | (simp [ndF] at hi; done) | exact one (h.f1 j x hx) hi) h.l1 (by decide) k
  have a2 := fun k => flat_fit (F := kdF) (m := 4) (xs := c.ks) (fun _ => Nat.le_refl _) (fun j x hx i zs hi => by
    rcases i with _ | _ | _ | _ | i <;> (simp [kdF] at hi)) h.l2 (by decide) k
  have a3 := fun k => flat_fit (F := vdF) (m := 8) (xs := c.vs) (fun _ => Nat.le_refl _) (fun j x hx i zs hi => by
    rcases i with _ | _ | _ | _ | _ | _ | _ | _ | i <;> first | (simp [vdF] at hi; done) | exact one (h.f3 j x hx) hi) h.l3 (by decide) k
  have a4 := fun k => flat_fit (F := xdF) (m := 5) (xs := c.xs) (fun _ => Nat.le_refl _) (fun j x hx i zs hi => by
    rcases i with _ | _ | _ | _ | _ | i <;> (simp [xdF] at hi)) h.l4 (by decide) k
  have a5 := fun k => flat_fit (F := pdF) (m := 6) (xs := c.ps) (fun _ => Nat.le_refl _) (fun j x hx i zs hi => by
    rcases i with _ | _ | _ | _ | _ | _ | i <;> first | (simp [pdF] at hi; done) | exact one (h.f5 j x hx) hi) h.l5 (by decide) k
  unfold mkCn Cl.raw
  have b1 := a1 1
  have b2 := a2 (mkNs 1 (c.ns.map ndF))
  have b3 := a3 (mkNs (mkNs 1 (c.ns.map ndF)) (c.ks.map kdF))
  have b4 := a4 (mkNs (mkNs (mkNs 1 (c.ns.map ndF)) (c.ks.map kdF)) (c.vs.map vdF))
  have b5 := a5 (mkNs (mkNs (mkNs (mkNs 1 (c.ns.map ndF)) (c.ks.map kdF)) (c.vs.map vdF)) (c.xs.map xdF))
  simp only []
  omega
theorem ClFit.marks {c : Cl} (h : ClFit c) : mkCn 1 c.raw ≤ 1152921504606846976 := Int.le_trans h.marks2 (by decide)

def PwHeld (W : World) (nb vb : Nat) (t : ByteArray) (v : Vd) (ua : Option Addr) (ul uc : Nat) : Prop := W.heap[nb]? = some (.cells #[.string t] 9 (0, 0)) ∧ W.heap[vb]? = some (.cells #[.string v.n, .int .i64 v.c, .string v.z, .string v.k, .bool v.x, .string v.m, .bool v.y, .slice ua ul uc] 92 (0, 0))
theorem PwHeld.below {W W' : World} {nb vb : Nat} {t : ByteArray} {v : Vd} {ua : Option Addr} {ul uc : Nat} (h : PwHeld W nb vb t v ua ul uc) (hb : Below W.heap.size W W') : PwHeld W' nb vb t v ua ul uc :=
  ⟨(hb.block _ (lt_of_some h.1)).trans h.1, (hb.block _ (lt_of_some h.2)).trans h.2⟩
def Wants (p : Pd) (t m : ByteArray) : Prop := p.d = t ∧ InL p.zs m

set_option maxRecDepth 100000 in
set_option maxHeartbeats 3200000 in
theorem pw1_any (p : Pd) (va : Option Addr) (vl vc nb vb : Nat) (t : ByteArray) (v : Vd) (ua : Option Addr) (ul uc : Nat) (w : World) (hr : TxRow w va vl vc p.zs) (hh : PwHeld w nb vb t v ua ul uc) :
    Calls Tryz.prog 93 #[.agg #[.string p.n, .int .i64 p.c, .string p.z, .slice va vl vc, .string p.d, .int .i64 p.p], .pointer (some ⟨nb, 0, none⟩), .pointer (some ⟨vb, 0, none⟩)] w (BoolB (Wants p t v.m) w) := by
  have HR := hidK hr
  obtain ⟨h1, h2⟩ := hh
  have n0 := cs1 h1
  have hnl := lt_of_some h1
  obtain ⟨v0, v1, v2, v3, v4, v5, v6, v7⟩ := cs8 h2
  have hvl := lt_of_some h2
  clear hr h1 h2
  by_cases he : p.d = t
  · have hq := tl_yes he
    have HE := hidK he
    clear he
    go_enter Tryz.func93, Tryz.ntmps93
    go_wp2_with fail
    refine (icontains_any va vl vc p.zs v.m _ (HR.out.below (below1 _ _))).mono ?_
    rintro e w1 ⟨r, rfl, hi, hb⟩
    have HB := hidK ((below1 w _).trans (hb.mono (by simp)))
    clear hb
    go_wp2
    go_ret
    exact ⟨r, rfl, ⟨fun h => ⟨HE.out, hi.1 h⟩, fun h => hi.2 h.2⟩, HB.out⟩
  · have hq := tl_no he
    have HE := hidK he
    clear he
    go_enter Tryz.func93, Tryz.ntmps93
    go_wp2
    go_ret
    exact BoolB.f (fun h => HE.out h.1) (below1 _ _)

set_option maxRecDepth 100000 in
set_option maxHeartbeats 3200000 in
theorem pwx_any (a : Option Addr) (len cap : Nat) (ps : List Pd) (nb vb : Nat) (t : ByteArray) (v : Vd) (ua : Option Addr) (ul uc : Nat) (w : World) (hr : RRow w a len cap 6 (ps.map pdF)) (hh : PwHeld w nb vb t v ua ul uc) :
    Calls Tryz.prog 114 #[.slice a len cap, .func (.func 93) #[] #[.pointer (some ⟨nb, 0, none⟩), .pointer (some ⟨vb, 0, none⟩)]] w fun e w' => (∃ r : Int, e = .returned (.int .i64 r) ∧ ((0 ≤ r ∧ ∃ (j : Nat) (p : Pd), ps[j]? = some p ∧ Wants p t v.m) ∨ (r = -1 ∧ ∀ (j : Nat) (p : Pd), ps[j]? = some p → ¬ Wants p t v.m))) ∧ Below w.heap.size w w' := by
  have HR := hidK hr
  have HH := hidK hh
  have hlc : len ≤ 9223372036854775807 := Nat.le_trans hr.2.1 hr.2.2.1
  have hxl : ps.length = len := by simpa using hr.1
  clear hr hh
  go_enter Tryz.func114, Tryz.ntmps114
  go_wp2
  go_loopw [8] (fun i wr => ∃ k : Nat, k ≤ len ∧ i = .int .i64 k ∧ Hid (∀ (j : Nat) p, j < k → ps[j]? = some p → ¬ Wants p t v.m) ∧ Hid (Below w.heap.size w wr)) (fun i _ => len - (intOf i).toNat)
  case atStart => exact ⟨0, by omega, rfl, fun _ _ h => absurd h (by omega), Below.refl _ _⟩
  case round =>
    obtain ⟨k, hk, rfl, HE, HB⟩ := hrel
    by_cases hlt : k < len
    · obtain ⟨b, o, p, rfl, hb, hx, hat⟩ := pd_at (HR.out.below HB.out) hlt
      obtain ⟨va, vl, vc, hvr, z0, z2, z4, c0, c1, c2, c3, c4, c5⟩ := pd_cells hat
      have HX := hidK hx
      have HV := hidK hvr
      clear hat hx hvr z0 z2 z4
      go_wp2_with fail
      refine (pw1_any p va vl vc nb vb t v ua ul uc _ HV.out (HH.out.below HB.out)).mono ?_
      rintro e w1 ⟨r, rfl, hi, hb1⟩
      have HI := hidK hi
      have HB1 := upB HB hb1
      clear hi hb1 c0 c1 c2 c3 c4 c5
      cases r
      · go_wp2
        refine ⟨⟨k + 1, by omega, by go_num, fun j z hj hz => ?_, HB1.out⟩, by simp [intOf]; omega⟩
        by_cases e : j = k
        · subst e
          rw [HX.out] at hz
          obtain rfl := Option.some.inj hz
          exact fun q => (by have := HI.out.2 q; cases this)
        · exact HE.out j z (by omega) hz
      · go_wp2
        go_ret
        exact ⟨⟨k, rfl, .inl ⟨by omega, k, p, HX.out, HI.out.1 (by first | trivial | rfl)⟩⟩, HB1.out⟩
    · obtain rfl : len = k := by omega
      go_wp2
      go_ret
      exact ⟨⟨-1, rfl, .inr ⟨rfl, fun j p hj => HE.out j p (by have := (List.getElem?_eq_some_iff.1 hj).1; omega) hj⟩⟩, HB.out⟩

set_option maxRecDepth 100000 in
set_option maxHeartbeats 3200000 in
theorem pwc_any (a : Option Addr) (len cap : Nat) (ps : List Pd) (nb vb : Nat) (t : ByteArray) (v : Vd) (ua : Option Addr) (ul uc : Nat) (w : World) (hr : RRow w a len cap 6 (ps.map pdF)) (hh : PwHeld w nb vb t v ua ul uc) :
    Calls Tryz.prog 92 #[.slice a len cap, .func (.func 93) #[] #[.pointer (some ⟨nb, 0, none⟩), .pointer (some ⟨vb, 0, none⟩)]] w (BoolB (∃ (j : Nat) (p : Pd), ps[j]? = some p ∧ Wants p t v.m) w) := by
  have HR := hidK hr
  have HH := hidK hh
  clear hr hh
  go_enter Tryz.func92, Tryz.ntmps92
  go_wp2_with fail
  refine (pwx_any a len cap ps nb vb t v ua ul uc _ HR.out HH.out).mono ?_
  rintro e w1 ⟨⟨r, rfl, hi⟩, hb⟩
  have HB := hidK hb
  clear hb
  rcases hi with ⟨h0, h1⟩ | ⟨rfl, h1⟩
  · have H1 := hidK h1
    clear h1
    go_wp2
    go_ret
    exact BoolB.t H1.out HB.out
  · have H1 := hidK h1
    clear h1
    go_wp2
    go_ret
    exact BoolB.f (fun ⟨j, p, h2, h3⟩ => H1.out j p h2 h3) HB.out

set_option maxRecDepth 100000 in
set_option maxHeartbeats 3200000 in
theorem ipw_any (d : Ad) (c : Cl) (v : Vd) (ua : Option Addr) (ul uc : Nat) (t : ByteArray) (w : World) (hr : ClRow w d c.raw) :
    Calls Tryz.prog 62 #[.agg #[.slice d.a1 d.l1 d.c1, .slice d.a2 d.l2 d.c2, .slice d.a3 d.l3 d.c3, .slice d.a4 d.l4 d.c4, .slice d.a5 d.l5 d.c5, .int .i64 c.now], .agg #[.string v.n, .int .i64 v.c, .string v.z, .string v.k, .bool v.x, .string v.m, .bool v.y, .slice ua ul uc], .string t] w (BoolB (∃ (j : Nat) (p : Pd), c.ps[j]? = some p ∧ Wants p t v.m) w) := by
  have HR := hidK hr
  have HB := hidK (Below.refl w.heap.size w)
  clear hr
  go_enter Tryz.func62, Tryz.ntmps62
  go_wp2_with fail
  refine (pwc_any d.a5 d.l5 d.c5 c.ps (w.heap.size + 1 + 1) (w.heap.size + 1) t v ua ul uc _ (HR.out.p.below (HB.out.trans ((below3 _ _ _ _).mono HB.out.size))) ⟨heap3_2 _ _ _ _, heap3_1 _ _ _ _⟩).mono ?_
  rintro e w1 ⟨r, rfl, hi, hb⟩
  obtain ⟨HA0, HA1, HA2, hbx⟩ := slots3 hb
  have Bk := hidK HA0
  have Bv := hidK HA1
  have Bn := hidK HA2
  replace HB := upB HB hbx
  clear hb hbx HA0 HA1 HA2
  have HI := hidK hi
  clear hi
  go_wp2
  go_ret
  exact ⟨r, rfl, HI.out, HB.out⟩

end Rc
end Go.Proofs.YtclhdmpfponjdaaGreatDoor

namespace Go.Proofs.YtclhdmpfponjdaaGreatDoor
open Go.RowKit
namespace Ap

end Ap
end Go.Proofs.YtclhdmpfponjdaaGreatDoor

namespace Go.Proofs.YtclhdmpfponjdaaGreatDoor
open Go.RowKit
namespace Rc
open Mk

theorem TOwn.fr {w : World} {a : Option Addr} {l c : Nat} {zs : List ByteArray} {S : Nat → Prop} (h : TOwn w a l c zs S) : ∃ g, LFr w g S zs (.slice a l c) := by
  obtain ⟨⟨h1, h2, h3, h4, h5⟩, h6⟩ := h
  rcases h6 with rfl | ⟨g, cur, rfl, hS, hg⟩
  · exact ⟨0, _, _, _, rfl, h1, h2, h3, h4, .inl rfl⟩
  · refine ⟨g, _, _, _, rfl, h1, h2, h3, h4, h5.imp id ?_⟩
    rintro ⟨b, o, e, hlt, hc⟩
    cases e
    exact ⟨rfl, hS, cur, hg, fun j x hx => by have := hc j x hx; rw [cellK hg, Nat.zero_add] at this; exact this⟩
end Rc
end Go.Proofs.YtclhdmpfponjdaaGreatDoor

namespace Go.Proofs.YtclhdmpfponjdaaGreatDoor
open Go.RowKit
namespace Gi

abbrev Rs := Option Tmp → World → World → Prop
structure Rel (R : Rs) (sp : Tmp) : Prop where
  refl : ∀ w, R none w w
  trans : ∀ {a b c}, R none a b → R none b c → R none a c
  size : ∀ {a b}, R none a b → a.heap.size ≤ b.heap.size
  drew : ∀ w, R none w w.drew
  sub : ∀ s {a b}, R s a b → R none a b
  low : ∀ s {a b}, ¬ s = none → ¬ s = some sp → R s a b → Below a.heap.size a b
abbrev Fact := Value → World → Nat → Nat → Prop
abbrev Ex := Tmp → Option Tmp
def Fact.Mono (R : Rs) (ex : Ex) (d : Option Tmp) (φ : Fact) : Prop := ∀ s, ¬ s = none → ¬ s = d → (∀ t e, d = some t → ex t = some e → ¬ s = some e) → ∀ v w w' l h, φ v w l h → R s w w' → φ v w' l h
section
variable {R : Rs} {sp : Tmp} {ex : Ex} {P : Program} {ops : Array Oper} {Q : Exit → Act → World → Prop} {W : World} {a0 : Act} {back : Option Oper}

structure At (R : Rs) (sp : Tmp) (ex : Ex) (front : List Oper) (φs : List Fact) (W : World) (a0 : Act) (listed : Array Bool) (a : Act) (w : World) (lo hi : Tmp → Nat) : Prop where
  size : a.tmps.size = a0.tmps.size
  defers : a.defers = a0.defers
  below : R none W w
  pre : (∀ (i : Nat) (p : Oper), front[i]? = some p → p.dst = some sp → listed.getD i false = false) → Below W.heap.size W w
  known : ∀ (i : Nat) (o : Oper) (φ : Fact), front[i]? = some o → φs[i]? = some φ → ∀ t, o.dst = some t → listed.getD i false = true → (∀ e, ex t = some e → ∀ (i' : Nat) (p' : Oper), front[i']? = some p' → p'.dst = some e → listed.getD i' false = false) → φ (a.tmps.getD t undef) w (lo t) (hi t)
  top : ∀ (i : Nat) (o : Oper), front[i]? = some o → ∀ t, o.dst = some t → listed.getD i false = true → hi t ≤ w.heap.size
  apart : ∀ (i : Nat) (o : Oper) (i' : Nat) (o' : Oper), front[i]? = some o → front[i']? = some o' → ∀ t t', o.dst = some t → o'.dst = some t' → listed.getD i false = true → listed.getD i' false = true → ¬ t = t' → hi t ≤ lo t' ∨ hi t' ≤ lo t
  other : ∀ t, (∀ (i : Nat) (o : Oper), front[i]? = some o → o.dst = some t → listed.getD i false = false) → a.tmps.getD t undef = a0.tmps.getD t undef

end

def Bel (w w' : World) : Prop := Below w.heap.size w w'
theorem Bel.rel (sp : Tmp) : Rel (fun _ => Bel) sp := ⟨fun _ => Below.refl _ _, fun h k => Below.trans h (Below.mono k (Below.size h)), fun h => Below.size h, fun _ => (Below.refl _ _).drew, fun _ _ _ h => h, fun _ _ _ _ _ h => h⟩
end Gi
end Go.Proofs.YtclhdmpfponjdaaGreatDoor

namespace Go.Proofs.YtclhdmpfponjdaaGreatDoor
open Go.RowKit
namespace Rc
open Mk

structure Sm (c : Cl) : Prop where
  n : c.ns.length ≤ 8
  ns : ∀ (j : Nat) x, c.ns[j]? = some x → x.zs.length ≤ 8001
  k : c.ks.length ≤ 8
  v : c.vs.length ≤ 8
  vs : ∀ (j : Nat) x, c.vs[j]? = some x → x.zs.length ≤ 8001
  x : c.xs.length ≤ 8
  p : c.ps.length ≤ 8
  ps : ∀ (j : Nat) x, c.ps[j]? = some x → x.zs.length ≤ 8001
theorem RightI.sm {c : Cl} (h : RightI c) : Sm c := by
  obtain ⟨_, ⟨⟨h1, h2, _⟩, ⟨h3, _⟩, ⟨h4, h5, _⟩, ⟨h6, _⟩, ⟨h7, h8, _⟩⟩, _⟩ := h
  refine ⟨by omega, fun j x hj => ?_, by omega, by omega, fun j x hj => ?_, by omega, by omega, fun j x hj => ?_⟩
  · have := (h2 j x hj).2.2.2.2.2.1; omega
  · have := (names_six (h5 j x hj).2.2.2.2.2.2).1; omega
  · have := (h8 j x hj).2.2.2.1.1; omega

theorem Fv.Is.val {w : World} {f : Fv} {v u : Value} (h : f.Is w v) (hu : f.val = some u) : v = u ∧ f.Fr w 0 (fun _ => False) v := by
  cases f with
  | s t => cases hu; exact ⟨h.1, h⟩
  | i n => cases hu; exact ⟨h, h⟩
  | b x => cases hu; exact ⟨h, h⟩
  | l zs => cases hu
theorem Fv.Fr.any {w w' : World} {f : Fv} {v u : Value} {h h' : Nat} {S S' : Nat → Prop} (k : f.Fr w h S v) (hu : f.val = some u) : f.Fr w' h' S' v := by
  cases f with
  | l zs => cases hu
  | _ => exact k
section
variable {w : World} {a : Option Addr} {len cap m : Nat} {rs : List (List Fv)}
end
def OwnF (B : Nat) (len m : Nat) (T : TypeId) (rs : List (List Fv)) : Gi.Fact := fun v w l h => ∃ a c, v = .slice a len c ∧ ROwn w a len c m T rs (fun k => l ≤ k ∧ k < h) ∧ B ≤ l
theorem OwnF.mono (ex : Gi.Ex) (s : Option Tmp) (B len m : Nat) (T : TypeId) (rs : List (List Fv)) : Gi.Fact.Mono (fun _ => Gi.Bel) ex s (OwnF B len m T rs) := by
  rintro s' _ _ _ v w w' l h ⟨a, c, h1, h2, h3⟩ hb
  exact ⟨a, c, h1, h2.below hb, h3⟩
def ClF (B : Nat) (c : Cl) : Gi.Fact := fun v w _ _ => ∃ d : Ad, v = .agg #[.slice d.a1 d.l1 d.c1, .slice d.a2 d.l2 d.c2, .slice d.a3 d.l3 d.c3, .slice d.a4 d.l4 d.c4, .slice d.a5 d.l5 d.c5, .int .i64 c.now] ∧ ClOwn w d c.raw (fun k => B ≤ k)
theorem ClF.mono (ex : Gi.Ex) (s : Option Tmp) (B : Nat) (c : Cl) : Gi.Fact.Mono (fun _ => Gi.Bel) ex s (ClF B c) := by
  rintro s' _ _ _ v w w' l h ⟨d, h1, h2⟩ hb
  exact ⟨d, h1, h2.below hb⟩

theorem owns_slice {w : World} {base n m : Nat} {T : TypeId} {v : Value} {xs : List Value} (h : w.ownsRow base T m v n xs) : ∃ a l c, v = .slice a l c := by
  rcases h.2 with ⟨rfl, _⟩ | ⟨g, cap, cur, rfl, _⟩
  · exact ⟨_, _, _, rfl⟩
  · exact ⟨_, _, _, rfl⟩
structure ClFr (w : World) (d : Ad) (c : Cr) (S : Nat → Prop) : Prop where
  n : ROwn w d.a1 d.l1 d.c1 7 58 c.n S
  k : ROwn w d.a2 d.l2 d.c2 4 95 c.k S
  v : ROwn w d.a3 d.l3 d.c3 8 92 c.v S
  x : ROwn w d.a4 d.l4 d.c4 5 98 c.x S
  p : ROwn w d.a5 d.l5 d.c5 6 89 c.p S
theorem ClFr.row {w : World} {d : Ad} {c : Cr} {S : Nat → Prop} (h : ClFr w d c S) : ClRow w d c := ⟨h.n.row, h.k.row, h.v.row, h.x.row, h.p.row⟩
def EmF (B : Nat) (T : TypeId) : Fact := fun v w => ∃ b, v = .slice (some ⟨b, 0, none⟩) 0 0 ∧ B ≤ b ∧ w.heap[b]? = some (.cells #[] T (0, 0))
theorem EmF.mono (B : Nat) (T : TypeId) : Fact.Mono (EmF B T) := by
  rintro v w w' ⟨b, h1, h2, h3⟩ hb
  exact ⟨b, h1, h2, (hb.block _ (lt_of_some h3)).trans h3⟩
def RwF (B len m : Nat) (T : TypeId) (rs : List (List Fv)) : Fact := fun v w => ∃ a c, v = .slice a len c ∧ ROwn w a len c m T rs (fun k => B ≤ k)
theorem RwF.mono (B len m : Nat) (T : TypeId) (rs : List (List Fv)) : Fact.Mono (RwF B len m T rs) := by
  rintro v w w' ⟨a, c, h1, h2⟩ hb
  exact ⟨a, c, h1, h2.below hb⟩
def CpF (B l2 l4 : Nat) (c : Cl) : Fact := fun v w => ∃ a2 c2 a4 c4, v = .agg #[.slice none 0 0, .slice a2 l2 c2, .slice none 0 0, .slice a4 l4 c4, .slice none 0 0, .int .i64 c.now] ∧ ROwn w a2 l2 c2 4 95 (c.ks.map kdF) (fun k => B ≤ k) ∧ ROwn w a4 l4 c4 5 98 (c.xs.map xdF) (fun k => B ≤ k)
theorem CpF.mono (B l2 l4 : Nat) (c : Cl) : Fact.Mono (CpF B l2 l4 c) := by
  rintro v w w' ⟨a2, c2, a4, c4, h1, h2, h3⟩ hb
  exact ⟨a2, c2, a4, c4, h1, h2.below hb, h3.below hb⟩
def FrF (B : Nat) : Fact := fun v w => ∃ b, v = .pointer (some ⟨b, 0, none⟩) ∧ B ≤ b ∧ w.heap[b]? = some (.cells #[.slice none 0 0, .slice none 0 0, .slice none 0 0, .slice none 0 0, .slice none 0 0, .int .i64 0] 38 (0, 0))
theorem FrF.mono (B : Nat) : Fact.Mono (FrF B) := by
  rintro v w w' ⟨b, h1, h2, h3⟩ hb
  exact ⟨b, h1, h2, (hb.block _ (lt_of_some h3)).trans h3⟩

def Rv (vb : Option Nat) (sp : Tmp) : Gi.Rs := fun s w w' => match s with
  | none => w.grownBy w' vb
  | some t => if t = sp then w.grownBy w' vb else Below w.heap.size w w'
theorem grown_of_below {w w' : World} (vb : Option Nat) (h : Below w.heap.size w w') : w.grownBy w' vb := ⟨h.os, h.tape, h.output, h.size, fun k hk _ => h.block k hk⟩
theorem Rv.below {vb : Option Nat} {sp : Tmp} {s : Option Tmp} {w w' : World} (h : Rv vb sp s w w') (h1 : ¬ s = none) (h2 : ¬ s = some sp) : Below w.heap.size w w' := by
  cases s with
  | none => exact absurd rfl h1
  | some t =>
    simp only [Rv] at h
    rw [if_neg (fun e => h2 (by rw [e]))] at h
    exact h
theorem Rv.rel (vb : Option Nat) (sp : Tmp) : Gi.Rel (Rv vb sp) sp := by
  refine ⟨fun w => grown_of_below vb (Below.refl _ _), fun {a b c} h k => ?_, fun h => World.grownBy.size h, fun w => grown_of_below vb (Below.refl _ _).drew, fun s {a b} h => ?_, fun s {a b} h1 h2 h => Rv.below h h1 h2⟩
  · have h : World.grownBy a b vb := h
    have k : World.grownBy b c vb := k
    exact ⟨k.os.trans h.os, k.tape.trans h.tape, k.output.trans h.output, Nat.le_trans h.size k.size, fun i hi hn => (k.block i (Nat.lt_of_lt_of_le hi h.size) hn).trans (h.block i hi hn)⟩
  · cases s with
    | none => exact h
    | some t =>
      show World.grownBy a b vb
      simp only [Rv] at h
      split at h
      · exact h
      · exact grown_of_below vb h
theorem Rv.other {vb : Option Nat} {sp t : Tmp} {w w' : World} (ht : ¬ t = sp) (h : Below w.heap.size w w') : Rv vb sp (some t) w w' := by
  show (if t = sp then w.grownBy w' vb else Below w.heap.size w w')
  rw [if_neg ht]
  exact h
theorem Rv.this {vb : Option Nat} {sp : Tmp} {w w' : World} (h : w.grownBy w' vb) : Rv vb sp (some sp) w w' := by
  show (if sp = sp then w.grownBy w' vb else Below w.heap.size w w')
  rw [if_pos rfl]
  exact h
theorem Rv.any {vb : Option Nat} {sp : Tmp} {s : Option Tmp} {w w' : World} (h : Rv vb sp s w w') : w.grownBy w' vb := (Rv.rel vb sp).sub s h

def TvF (B : Nat) (x : Vd) : Gi.Fact := fun u w _ _ => ∃ a l c, u = .agg #[.string x.n, .int .i64 x.c, .string x.z, .string x.k, .bool x.x, .string x.m, .bool x.y, .slice a l c] ∧ TOwn w a l c x.zs (fun k => B ≤ k)
def BsF (B : Nat) (x : Vd) : Gi.Fact := fun u w _ _ => ∃ b a l c, u = .slice (some ⟨b, 0, none⟩) 1 1 ∧ B ≤ b ∧ w.heap[b]? = some (.cells #[.string x.n, .int .i64 x.c, .string x.z, .string x.k, .bool x.x, .string x.m, .bool x.y, .slice a l c] 92 (0, 0)) ∧ TOwn w a l c x.zs (fun k => B ≤ k)
def ApF (B k : Nat) (rs : List (List Fv)) (vss : List (List Value)) : Gi.Fact := fun u w _ _ => ∃ H' vs, w.ownsRow B 92 8 u (k + 1) (vss ++ [vs]).flatten ∧ VRecs w (fun k => B ≤ k) 8 rs (vss ++ [vs]) H'
theorem TvF.mono {vb : Option Nat} {sp : Tmp} {ex : Gi.Ex} {d : Option Tmp} {B : Nat} {x : Vd} (hv : ∀ g, vb = some g → g < B) : Gi.Fact.Mono (Rv vb sp) ex d (TvF B x) := by
  rintro s _ _ _ v w w' l h ⟨a, l, c, h1, h2⟩ hb
  have hb : w.grownBy w' vb := (Rv.rel vb sp).sub s hb
  exact ⟨a, l, c, h1, h2.keep (fun k hk s => hb.block k hk (fun e => by have s1 : B ≤ k := s; have := hv k e.symm; omega)) (fun _ _ s => s)⟩
theorem BsF.mono {vb : Option Nat} {sp : Tmp} {ex : Gi.Ex} {d : Option Tmp} {B : Nat} {x : Vd} (hv : ∀ g, vb = some g → g < B) : Gi.Fact.Mono (Rv vb sp) ex d (BsF B x) := by
  rintro s _ _ _ v w w' l h ⟨b, a, l, c, h1, h2, h3, h4⟩ hb
  have hb : w.grownBy w' vb := (Rv.rel vb sp).sub s hb
  exact ⟨b, a, l, c, h1, h2, (hb.block _ (lt_of_some h3) (fun e => by have := hv b e.symm; omega)).trans h3, h4.keep (fun k hk s => hb.block k hk (fun e => by have s1 : B ≤ k := s; have := hv k e.symm; omega)) (fun _ _ s => s)⟩
theorem ApF.mono {vb : Option Nat} {sp : Tmp} {ex : Gi.Ex} {B k : Nat} {rs : List (List Fv)} {vss : List (List Value)} : Gi.Fact.Mono (Rv vb sp) ex (some sp) (ApF B k rs vss) := by
  rintro s h1 h2 _ v w w' l h ⟨H', vs, h3, h4⟩ hb
  have hb := Rv.below hb h1 h2
  exact ⟨H', vs, owns_below h3 hb, h4.below hb⟩

def inB (zs : List ByteArray) (t : ByteArray) : Bool := zs.any fun z => z.toList == t.toList
theorem inB_iff {zs : List ByteArray} {t : ByteArray} : inB zs t = true ↔ InL zs t := by
  unfold inB
  rw [List.any_eq_true]
  constructor
  · rintro ⟨z, hz, he⟩
    obtain ⟨j, hj⟩ := List.getElem?_of_mem hz
    exact ⟨j, by rw [hj, tl_inj he]⟩
  · rintro ⟨j, hj⟩
    exact ⟨t, List.mem_of_getElem? hj, tl_yes rfl⟩
def wantB (c : Cl) (t m : ByteArray) : Bool := c.ps.any fun p => (p.d.toList == t.toList) && inB p.zs m
theorem wantB_iff {c : Cl} {t m : ByteArray} : wantB c t m = true ↔ ∃ (j : Nat) (p : Pd), c.ps[j]? = some p ∧ Wants p t m := by
  unfold wantB
  rw [List.any_eq_true]
  constructor
  · rintro ⟨p, hp, he⟩
    obtain ⟨j, hj⟩ := List.getElem?_of_mem hp
    rw [Bool.and_eq_true] at he
    exact ⟨j, p, hj, tl_inj he.1, inB_iff.1 he.2⟩
  · rintro ⟨j, p, hj, h1, h2⟩
    exact ⟨p, List.mem_of_getElem? hj, by rw [Bool.and_eq_true]; exact ⟨tl_yes h1, inB_iff.2 h2⟩⟩
def onB (c : Cl) (t : ByteArray) (v : Vd) : Bool := inB v.zs t || wantB c t v.m
def dskL (c : Cl) (t : ByteArray) (vs : List Vd) : List ByteArray := (vs.filter (onB c t)).map Vd.n
theorem dsk_yes {c : Cl} {t : ByteArray} {xs : List Vd} {k : Nat} {x : Vd} (h : xs[k]? = some x) (hv : onB c t x = true) : dskL c t (xs.take (k + 1)) = dskL c t (xs.take k) ++ [x.n] := by
  unfold dskL
  rw [List.take_add_one, h, List.filter_append, List.map_append]
  simp [hv]
theorem dsk_no {c : Cl} {t : ByteArray} {xs : List Vd} {k : Nat} {x : Vd} (h : xs[k]? = some x) (hv : onB c t x = false) : dskL c t (xs.take (k + 1)) = dskL c t (xs.take k) := by
  unfold dskL
  rw [List.take_add_one, h, List.filter_append, List.map_append]
  simp [hv]
theorem dsk_size {c : Cl} {t : ByteArray} {w : World} {a : Option Addr} {len cap : Nat} {xs : List Vd} (h : RRow w a len cap 8 (xs.map vdF)) (j : Nat) (z : ByteArray) (hz : (dskL c t xs)[j]? = some z) : z.size ≤ 9223372036854775807 := by
  have hm := List.mem_of_getElem? hz
  obtain ⟨x, hx, rfl⟩ := List.mem_map.1 hm
  obtain ⟨i, hi⟩ := List.getElem?_of_mem ((List.mem_filter.1 hx).1)
  have hl : xs.length = len := by simpa using h.1
  obtain ⟨b, o, y, -, -, hy, hat⟩ := vd_at h (j := i) (by have := (List.getElem?_eq_some_iff.1 hi).1; omega)
  rw [hi] at hy
  cases hy
  obtain ⟨_, _, _, _, z0, _⟩ := vd_cells hat
  exact z0

set_option maxRecDepth 100000 in
set_option maxHeartbeats 6400000 in
theorem idsk_any (d : Ad) (c : Cl) (t : ByteArray) (w : World) (hr : ClRow w d c.raw) (h8 : c.vs.length ≤ 8) :
    Calls Tryz.prog 27 #[.agg #[.slice d.a1 d.l1 d.c1, .slice d.a2 d.l2 d.c2, .slice d.a3 d.l3 d.c3, .slice d.a4 d.l4 d.c4, .slice d.a5 d.l5 d.c5, .int .i64 c.now], .string t] w fun e w' => ∃ a l p, e = .returned (.slice a l p) ∧ TOwn w' a l p (dskL c t c.vs) (fun k => w.heap.size ≤ k) ∧ Below w.heap.size w w' := by
  obtain ⟨a1, l1, y1, a2, l2, y2, a3, l3, y3, a4, l4, y4, a5, l5, y5⟩ := d
  dsimp only
  have HR := hidK hr
  have hl1 : c.ns.length = l1 := by simpa using (show (c.ns.map ndF).length = l1 from hr.n.1)
  have hm1 : l1 ≤ 9223372036854775807 := Nat.le_trans hr.n.2.1 hr.n.2.2.1
  have hl2 : c.ks.length = l2 := by simpa using (show (c.ks.map kdF).length = l2 from hr.k.1)
  have hm2 : l2 ≤ 9223372036854775807 := Nat.le_trans hr.k.2.1 hr.k.2.2.1
  have hl3 : c.vs.length = l3 := by simpa using (show (c.vs.map vdF).length = l3 from hr.v.1)
  have hm3 : l3 ≤ 9223372036854775807 := Nat.le_trans hr.v.2.1 hr.v.2.2.1
  have hl4 : c.xs.length = l4 := by simpa using (show (c.xs.map xdF).length = l4 from hr.x.1)
  have hm4 : l4 ≤ 9223372036854775807 := Nat.le_trans hr.x.2.1 hr.x.2.2.1
  have hl5 : c.ps.length = l5 := by simpa using (show (c.ps.map pdF).length = l5 from hr.p.1)
  have hm5 : l5 ≤ 9223372036854775807 := Nat.le_trans hr.p.2.1 hr.p.2.2.1
  clear hr
  obtain ⟨i0, hi, hz0, hz1, hz2⟩ := info_parts infoStr
  have HI0 := hidK (And.intro hi (And.intro hz0 (And.intro hz1 hz2)))
  clear hi hz0 hz1 hz2
  have h83 : l3 ≤ 8 := by omega
  go_enter Tryz.func27, Tryz.ntmps27
  go_wp2
  go_loopw [5, 11] (fun vo vi wr => ∃ k n : Nat, k ≤ l3 ∧ n ≤ k ∧ vi = .int .i64 k ∧ Hid (wr.ownsRow (w.heap.size + 1) 9 1 vo n ((dskL c t (c.vs.take k)).map Value.string)) ∧ Hid (Below w.heap.size w wr) ∧ Hid (wr.heap[w.heap.size]? = some (.cells #[.slice a1 l1 y1, .slice a2 l2 y2, .slice a3 l3 y3, .slice a4 l4 y4, .slice a5 l5 y5, .int .i64 c.now] 38 (0, 0)))) (fun _ vi _ => l3 - (intOf vi).toNat)
  case atStart => exact ⟨0, 0, by omega, by omega, rfl, World.ownsRow_nil _ _ _ _, below1 w _, heap_alloc_new w _⟩
  case round =>
    obtain ⟨k, n, hk, hn, rfl, HO, HB, Bk⟩ := hrel
    have hBs := HB.out.size
    by_cases hlt : k < l3
    · obtain ⟨b, o, v, rfl, hb, hx, hat⟩ := vd_at (HR.out.v.below HB.out) hlt
      obtain ⟨va, vl, vc, hvr, z0, z2, z3, z5, c0, c1, c2, c3, c4, c5, c6, c7⟩ := vd_cells hat
      have HXv := hidK hx
      have HTv := hidK hvr
      have HZv0 := hidK z0
      have HZv2 := hidK z2
      have HZv3 := hidK z3
      have HZv5 := hidK z5
      clear hat hx z0 z2 z3 z5 hvr
      obtain ⟨k0, k1, k2, k3, k4, k5⟩ := cs6 Bk.out
      have ltk_0 := lt_of_some Bk.out
      have hkb : w.heap.size < wr.heap.size := lt_of_some Bk.out
      have HY := hidK (Bw.refl wr)
      go_wp2_with fail
      refine (icontains_any va vl vc v.zs t _ (HTv.out.below (below1 _ _))).mono ?_
      rintro e w1 ⟨r, rfl, hi, hb⟩
      clear k0 k1 k2 k3 k4 k5 ltk_0
      obtain ⟨HA0, hbx⟩ := slots1 hb
      replace Bk := upK Bk hbx
      have Bg := hidK HA0
      replace HY := hidK (HY.out.below hbx)
      replace HB := upB HB hbx
      clear hb hbx HA0
      have HI := hidK hi
      clear hi c0 c1 c2 c3 c4 c5 c6 c7
      cases r
      · obtain ⟨k0, k1, k2, k3, k4, k5⟩ := cs6 Bk.out
        have ltk_1 := lt_of_some Bk.out
        obtain ⟨g0, g1, g2, g3, g4, g5, g6, g7⟩ := cs8 Bg.out
        have ltg_1 := lt_of_some Bg.out
        go_wp2_with fail
        refine (ipw_any ⟨a1, l1, y1, a2, l2, y2, (some ⟨b, o, none⟩), l3, y3, a4, l4, y4, a5, l5, y5⟩ c v va vl vc t _ (HR.out.below HB.out)).mono ?_
        rintro e w2 ⟨r, rfl, hi2, hb⟩
        clear k0 k1 k2 k3 k4 k5 ltk_1 g0 g1 g2 g3 g4 g5 g6 g7 ltg_1
        replace Bk := upK Bk hb
        replace Bg := upK Bg hb
        replace HY := hidK (HY.out.below hb)
        replace HB := upB HB hb
        clear hb
        have HI2 := hidK hi2
        clear hi2
        cases r
        · have hon : onB c t v = false := by
            unfold onB
            rw [Bool.or_eq_false_iff]
            exact ⟨by cases h : inB v.zs t; rfl; (have := HI.out.2 (inB_iff.1 h); cases this), by cases h : wantB c t v.m; rfl; (have := HI2.out.2 (wantB_iff.1 h); cases this)⟩
          have HO3 := hidK (owns_below HO.out HY.out.out)
          rw [← dsk_no HXv.out hon] at HO3
          obtain ⟨k0, k1, k2, k3, k4, k5⟩ := cs6 Bk.out
          have ltk_2 := lt_of_some Bk.out
          obtain ⟨g0, g1, g2, g3, g4, g5, g6, g7⟩ := cs8 Bg.out
          have ltg_2 := lt_of_some Bg.out
          go_wp2
          exact ⟨⟨k + 1, n, by omega, by omega, by go_num, HO3, HB, Bk⟩, by simp [intOf]; omega⟩
        · have hon : onB c t v = true := by unfold onB; rw [wantB_iff.2 (HI2.out.1 (by first | trivial | rfl))]; simp
          have HO1 := hidK (owns_below HO.out HY.out.out)
          have hBs1 := HB.out.size
          have hwl := HY.out.le
          obtain ⟨k0, k1, k2, k3, k4, k5⟩ := cs6 Bk.out
          have ltk_2 := lt_of_some Bk.out
          obtain ⟨g0, g1, g2, g3, g4, g5, g6, g7⟩ := cs8 Bg.out
          have ltg_2 := lt_of_some Bg.out
          go_wp2_with (first | (at_builtin; refine wpList_append_own _ rfl _ _ 30 rfl (w.heap.size + 1) 9 i0 (.string ⟨#[]⟩) 1 16 Tryz.underlying30 HI0.out.1 HI0.out.2.1 HI0.out.2.2.1 HI0.out.2.2.2 rfl (by decide) _ _ _ rfl (HO1.out.alloc _) ⟨w2.heap.size, 0, none⟩ 1 1 [.string v.n] rfl rfl ?c1 ?c2 ?c3 ?c4 ?c5 ?_))
          case c1 =>
            intro j u hu
            cases j with
            | zero =>
              simp only [List.getElem?_cons_zero, Option.some.injEq] at hu
              subst hu
              rw [Addr.add_lit]
              exact cellK (heap_alloc_new _ _) 0
            | succ j => simp at hu
          case c2 => intro u hu; rw [List.mem_singleton.1 hu]; rfl
          case c3 => unfold maxLen; omega
          case c4 => omega
          case c5 => simp; omega
          rintro v' w3 hown3 hgrow -
          have HO3 : Hid (w3.ownsRow (w.heap.size + 1) 9 1 v' (n + 1) ((dskL c t (c.vs.take (k + 1))).map Value.string)) := by
            show World.ownsRow _ _ _ _ _ _ _
            rw [dsk_yes HXv.out hon, List.map_append]
            exact hown3
          have HB3 := hidK ((HB.out.trans ((below1 w2 _).mono hBs1)).grown hgrow (by simp; omega) (fun g hg => by have := (HO1.out.lt g hg).1; omega))
          have Bk3 : Hid (w3.heap[w.heap.size]? = some (.cells #[.slice a1 l1 y1, .slice a2 l2 y2, .slice (some ⟨b, o, none⟩) l3 y3, .slice a4 l4 y4, .slice a5 l5 y5, .int .i64 c.now] 38 (0, 0))) := by
            exact (hgrow.block _ (by simp; omega) (fun e => by have := (HO1.out.lt _ e.symm).1; omega)).trans ((Below.heap_alloc _ _ _ (lt_of_some Bk.out)).trans Bk.out)
          clear hown3 hgrow
          go_wp2
          exact ⟨⟨k + 1, n + 1, by omega, by omega, by go_num, HO3, HB3, Bk3⟩, by simp [intOf]; omega⟩
      · have hon : onB c t v = true := by unfold onB; rw [inB_iff.2 (HI.out.1 (by first | trivial | rfl))]; rfl
        have HO1 := hidK (owns_below HO.out HY.out.out)
        have hBs1 := HB.out.size
        have hwl := HY.out.le
        obtain ⟨k0, k1, k2, k3, k4, k5⟩ := cs6 Bk.out
        have ltk_1 := lt_of_some Bk.out
        obtain ⟨g0, g1, g2, g3, g4, g5, g6, g7⟩ := cs8 Bg.out
        have ltg_1 := lt_of_some Bg.out
        go_wp2_with (first | (at_builtin; refine wpList_append_own _ rfl _ _ 30 rfl (w.heap.size + 1) 9 i0 (.string ⟨#[]⟩) 1 16 Tryz.underlying30 HI0.out.1 HI0.out.2.1 HI0.out.2.2.1 HI0.out.2.2.2 rfl (by decide) _ _ _ rfl (HO1.out.alloc _) ⟨w1.heap.size, 0, none⟩ 1 1 [.string v.n] rfl rfl ?c1 ?c2 ?c3 ?c4 ?c5 ?_))
        case c1 =>
          intro j u hu
          cases j with
          | zero =>
            simp only [List.getElem?_cons_zero, Option.some.injEq] at hu
            subst hu
            rw [Addr.add_lit]
            exact cellK (heap_alloc_new _ _) 0
          | succ j => simp at hu
        case c2 => intro u hu; rw [List.mem_singleton.1 hu]; rfl
        case c3 => unfold maxLen; omega
        case c4 => omega
        case c5 => simp; omega
        rintro v' w3 hown3 hgrow -
        have HO3 : Hid (w3.ownsRow (w.heap.size + 1) 9 1 v' (n + 1) ((dskL c t (c.vs.take (k + 1))).map Value.string)) := by
          show World.ownsRow _ _ _ _ _ _ _
          rw [dsk_yes HXv.out hon, List.map_append]
          exact hown3
        have HB3 := hidK ((HB.out.trans ((below1 w1 _).mono hBs1)).grown hgrow (by simp; omega) (fun g hg => by have := (HO1.out.lt g hg).1; omega))
        have Bk3 : Hid (w3.heap[w.heap.size]? = some (.cells #[.slice a1 l1 y1, .slice a2 l2 y2, .slice (some ⟨b, o, none⟩) l3 y3, .slice a4 l4 y4, .slice a5 l5 y5, .int .i64 c.now] 38 (0, 0))) := by
          exact (hgrow.block _ (by simp; omega) (fun e => by have := (HO1.out.lt _ e.symm).1; omega)).trans ((Below.heap_alloc _ _ _ (lt_of_some Bk.out)).trans Bk.out)
        clear hown3 hgrow
        go_wp2
        exact ⟨⟨k + 1, n + 1, by omega, by omega, by go_num, HO3, HB3, Bk3⟩, by simp [intOf]; omega⟩
    · have hkl : k = l3 := by omega
      have HO3 := HO
      rw [List.take_of_length_le (by omega)] at HO3
      obtain ⟨a', p', rfl, hT⟩ := TOwn.of_row HO3.out (dsk_size HR.out.v)
      have HTO := hidK hT
      clear HO3 hT HO
      go_wp2
      go_ret
      exact ⟨_, _, _, rfl, HTO.out.into (fun k _ s => by have : w.heap.size + 1 ≤ k := s; show w.heap.size ≤ k; omega), HB.out⟩

end Rc
end Go.Proofs.YtclhdmpfponjdaaGreatDoor

namespace Go.Proofs.YtclhdmpfponjdaaGreatDoor
open Go.RowKit

set_option maxHeartbeats 400000 in
theorem long_any (s : ByteArray) (w : World) :
    Calls Tryz.prog 58 #[.string s] w fun e w' => e = .returned (.bool (decide (8000 < s.size))) ∧ w = w' := by
  go_enter Tryz.func58, Tryz.ntmps58
  go_wp2
  go_ret
  exact ⟨by simp; omega, rfl⟩
theorem long_yes (s : ByteArray) (w : World) (h : 8000 < s.size) :
    Calls Tryz.prog 58 #[.string s] w fun e w' => e = .returned (.bool true) ∧ w = w' := by
  have := long_any s w; rw [decide_eq_true h] at this; exact this
theorem long_no (s : ByteArray) (w : World) (h : ¬ 8000 < s.size) :
    Calls Tryz.prog 58 #[.string s] w fun e w' => e = .returned (.bool false) ∧ w = w' := by
  have := long_any s w; rw [decide_eq_false h] at this; exact this

end Go.Proofs.YtclhdmpfponjdaaGreatDoor

namespace Go.Proofs.YtclhdmpfponjdaaGreatDoor
open Go.RowKit
namespace Rc
open Mk

set_option maxRecDepth 100000 in
set_option maxHeartbeats 3200000 in
theorem shas_any (a : Option Addr) (len cap : Nat) (zs : List ByteArray) (t : ByteArray) (w : World) (hr : TxRow w a len cap zs) :
    Calls Tryz.prog 51 #[.slice a len cap, .string t] w (BoolB (InL zs t) w) := by
  have HR := hidK hr
  have hlc : len ≤ 9223372036854775807 := Nat.le_trans hr.2.1 hr.2.2.1
  have hzl : zs.length = len := hr.1
  clear hr
  go_enter Tryz.func51, Tryz.ntmps51
  go_wp2
  go_loop [5] (fun i => ∃ k : Nat, k ≤ len ∧ i = .int .i64 k ∧ Hid (∀ (j : Nat) x, j < k → zs[j]? = some x → ¬ x = t)) (fun i => len - (intOf i).toNat)
  case atStart => exact ⟨0, by omega, rfl, fun _ _ h => absurd h (by omega)⟩
  case round =>
    obtain ⟨k, hk, rfl, HE⟩ := hrel
    by_cases hlt : k < len
    · obtain ⟨b, o, x, rfl, hb, hx, hc, hsz⟩ := HR.out.at hlt
      have HX := hidK hx
      clear hx
      by_cases hn : x = t
      · have hq := tl_yes hn
        have HN := hidK hn
        clear hn
        go_wp2
        go_ret
        exact BoolB.t ⟨k, by rw [HX.out, HN.out]⟩ (Below.refl _ _)
      · have hq := tl_no hn
        have HN := hidK hn
        clear hn
        go_wp2
        refine ⟨⟨k + 1, by omega, by go_num, fun j z hj hz => ?_⟩, by simp [intOf]; omega⟩
        by_cases e : j = k
        · subst e
          rw [HX.out] at hz
          obtain rfl := Option.some.inj hz
          exact HN.out
        · exact HE.out j z (by omega) hz
    · obtain rfl : len = k := by omega
      go_wp2
      go_ret
      exact BoolB.f (fun ⟨j, hj⟩ => HE.out j t (by have := (List.getElem?_eq_some_iff.1 hj).1; omega) hj rfl) (Below.refl _ _)

theorem sxnd_hit (d : Ad) (now : Int) (xs : List Nd) (t : ByteArray) (w : World) (hr : RRow w d.a1 d.l1 d.c1 7 (xs.map ndF)) (hs : RisBy Nd.n xs) {j : Nat} {x : Nd} (hx : xs[j]? = some x) (hn : x.n = t) :
    Calls Tryz.prog 19 #[.agg #[.slice d.a1 d.l1 d.c1, .slice d.a2 d.l2 d.c2, .slice d.a3 d.l3 d.c3, .slice d.a4 d.l4 d.c4, .slice d.a5 d.l5 d.c5, .int .i64 now], .string t] w fun e w' => e = .returned (.int .i64 j) ∧ Below w.heap.size w w' := by
  refine (sxnd_any d now xs t w hr).mono ?_
  rintro e w' ⟨hb, h⟩
  rcases h with ⟨i, y, h1, h2, rfl⟩ | ⟨h1, rfl⟩
  · obtain ⟨rfl, _⟩ := hs.inj h1 hx (h2.trans hn.symm)
    exact ⟨rfl, hb⟩
  · exact absurd hn (h1 j x hx)
theorem sxnd_miss (d : Ad) (now : Int) (xs : List Nd) (t : ByteArray) (w : World) (hr : RRow w d.a1 d.l1 d.c1 7 (xs.map ndF)) (hn : ∀ (j : Nat) x, xs[j]? = some x → ¬ x.n = t) :
    Calls Tryz.prog 19 #[.agg #[.slice d.a1 d.l1 d.c1, .slice d.a2 d.l2 d.c2, .slice d.a3 d.l3 d.c3, .slice d.a4 d.l4 d.c4, .slice d.a5 d.l5 d.c5, .int .i64 now], .string t] w fun e w' => e = .returned (.int .i64 (-1)) ∧ Below w.heap.size w w' := by
  refine (sxnd_any d now xs t w hr).mono ?_
  rintro e w' ⟨hb, h⟩
  rcases h with ⟨i, y, h1, h2, rfl⟩ | ⟨h1, rfl⟩
  · exact absurd h2 (hn i y h1)
  · exact ⟨rfl, hb⟩

theorem sxkd_hit (d : Ad) (now : Int) (xs : List Kd) (t : ByteArray) (w : World) (hr : RRow w d.a2 d.l2 d.c2 4 (xs.map kdF)) (hs : RisBy Kd.n xs) {j : Nat} {x : Kd} (hx : xs[j]? = some x) (hn : x.n = t) :
    Calls Tryz.prog 76 #[.agg #[.slice d.a1 d.l1 d.c1, .slice d.a2 d.l2 d.c2, .slice d.a3 d.l3 d.c3, .slice d.a4 d.l4 d.c4, .slice d.a5 d.l5 d.c5, .int .i64 now], .string t] w fun e w' => e = .returned (.int .i64 j) ∧ Below w.heap.size w w' := by
  refine (sxkd_any d now xs t w hr).mono ?_
  rintro e w' ⟨hb, h⟩
  rcases h with ⟨i, y, h1, h2, rfl⟩ | ⟨h1, rfl⟩
  · obtain ⟨rfl, _⟩ := hs.inj h1 hx (h2.trans hn.symm)
    exact ⟨rfl, hb⟩
  · exact absurd hn (h1 j x hx)
theorem sxkd_miss (d : Ad) (now : Int) (xs : List Kd) (t : ByteArray) (w : World) (hr : RRow w d.a2 d.l2 d.c2 4 (xs.map kdF)) (hn : ∀ (j : Nat) x, xs[j]? = some x → ¬ x.n = t) :
    Calls Tryz.prog 76 #[.agg #[.slice d.a1 d.l1 d.c1, .slice d.a2 d.l2 d.c2, .slice d.a3 d.l3 d.c3, .slice d.a4 d.l4 d.c4, .slice d.a5 d.l5 d.c5, .int .i64 now], .string t] w fun e w' => e = .returned (.int .i64 (-1)) ∧ Below w.heap.size w w' := by
  refine (sxkd_any d now xs t w hr).mono ?_
  rintro e w' ⟨hb, h⟩
  rcases h with ⟨i, y, h1, h2, rfl⟩ | ⟨h1, rfl⟩
  · exact absurd h2 (hn i y h1)
  · exact ⟨rfl, hb⟩

theorem sxvd_hit (d : Ad) (now : Int) (xs : List Vd) (t : ByteArray) (w : World) (hr : RRow w d.a3 d.l3 d.c3 8 (xs.map vdF)) (hs : RisBy Vd.n xs) {j : Nat} {x : Vd} (hx : xs[j]? = some x) (hn : x.n = t) :
    Calls Tryz.prog 77 #[.agg #[.slice d.a1 d.l1 d.c1, .slice d.a2 d.l2 d.c2, .slice d.a3 d.l3 d.c3, .slice d.a4 d.l4 d.c4, .slice d.a5 d.l5 d.c5, .int .i64 now], .string t] w fun e w' => e = .returned (.int .i64 j) ∧ Below w.heap.size w w' := by
  refine (sxvd_any d now xs t w hr).mono ?_
  rintro e w' ⟨hb, h⟩
  rcases h with ⟨i, y, h1, h2, rfl⟩ | ⟨h1, rfl⟩
  · obtain ⟨rfl, _⟩ := hs.inj h1 hx (h2.trans hn.symm)
    exact ⟨rfl, hb⟩
  · exact absurd hn (h1 j x hx)
theorem sxvd_miss (d : Ad) (now : Int) (xs : List Vd) (t : ByteArray) (w : World) (hr : RRow w d.a3 d.l3 d.c3 8 (xs.map vdF)) (hn : ∀ (j : Nat) x, xs[j]? = some x → ¬ x.n = t) :
    Calls Tryz.prog 77 #[.agg #[.slice d.a1 d.l1 d.c1, .slice d.a2 d.l2 d.c2, .slice d.a3 d.l3 d.c3, .slice d.a4 d.l4 d.c4, .slice d.a5 d.l5 d.c5, .int .i64 now], .string t] w fun e w' => e = .returned (.int .i64 (-1)) ∧ Below w.heap.size w w' := by
  refine (sxvd_any d now xs t w hr).mono ?_
  rintro e w' ⟨hb, h⟩
  rcases h with ⟨i, y, h1, h2, rfl⟩ | ⟨h1, rfl⟩
  · exact absurd h2 (hn i y h1)
  · exact ⟨rfl, hb⟩

theorem sxxd_hit (d : Ad) (now : Int) (xs : List Xd) (t : ByteArray) (w : World) (hr : RRow w d.a4 d.l4 d.c4 5 (xs.map xdF)) (hs : RisBy Xd.n xs) {j : Nat} {x : Xd} (hx : xs[j]? = some x) (hn : x.n = t) :
    Calls Tryz.prog 75 #[.agg #[.slice d.a1 d.l1 d.c1, .slice d.a2 d.l2 d.c2, .slice d.a3 d.l3 d.c3, .slice d.a4 d.l4 d.c4, .slice d.a5 d.l5 d.c5, .int .i64 now], .string t] w fun e w' => e = .returned (.int .i64 j) ∧ Below w.heap.size w w' := by
  refine (sxxd_any d now xs t w hr).mono ?_
  rintro e w' ⟨hb, h⟩
  rcases h with ⟨i, y, h1, h2, rfl⟩ | ⟨h1, rfl⟩
  · obtain ⟨rfl, _⟩ := hs.inj h1 hx (h2.trans hn.symm)
    exact ⟨rfl, hb⟩
  · exact absurd hn (h1 j x hx)
theorem sxxd_miss (d : Ad) (now : Int) (xs : List Xd) (t : ByteArray) (w : World) (hr : RRow w d.a4 d.l4 d.c4 5 (xs.map xdF)) (hn : ∀ (j : Nat) x, xs[j]? = some x → ¬ x.n = t) :
    Calls Tryz.prog 75 #[.agg #[.slice d.a1 d.l1 d.c1, .slice d.a2 d.l2 d.c2, .slice d.a3 d.l3 d.c3, .slice d.a4 d.l4 d.c4, .slice d.a5 d.l5 d.c5, .int .i64 now], .string t] w fun e w' => e = .returned (.int .i64 (-1)) ∧ Below w.heap.size w w' := by
  refine (sxxd_any d now xs t w hr).mono ?_
  rintro e w' ⟨hb, h⟩
  rcases h with ⟨i, y, h1, h2, rfl⟩ | ⟨h1, rfl⟩
  · exact absurd h2 (hn i y h1)
  · exact ⟨rfl, hb⟩

def SbAns (c : Cl) (t : ByteArray) (w : World) (e : Ending) (w' : World) : Prop :=
  Below w.heap.size w w' ∧ ((∃ (j : Nat) (v : Vd), c.vs[j]? = some v ∧ IsBd c t v ∧ e = .returned (.int .i64 j)) ∨ ((∀ v, ¬ IsBd c t v) ∧ e = .returned (.int .i64 (-1))))

set_option maxRecDepth 100000 in
set_option maxHeartbeats 3200000 in
theorem sbind_any (d : Ad) (c : Cl) (t : ByteArray) (w : World) (hr : ClRow w d c.raw) (hx : RisBy Xd.n c.xs) (hv : RisBy Vd.n c.vs) (hne : ∀ (j : Nat) v, c.vs[j]? = some v → ¬ v.n = ⟨#[]⟩) :
    Calls Tryz.prog 78 #[.agg #[.slice d.a1 d.l1 d.c1, .slice d.a2 d.l2 d.c2, .slice d.a3 d.l3 d.c3, .slice d.a4 d.l4 d.c4, .slice d.a5 d.l5 d.c5, .int .i64 c.now], .string t] w (SbAns c t w) := by
  obtain ⟨a1, l1, y1, a2, l2, y2, a3, l3, y3, a4, l4, y4, a5, l5, y5⟩ := d
  dsimp only
  have HR := hidK hr
  have hl1 : c.ns.length = l1 := by simpa using (show (c.ns.map ndF).length = l1 from hr.n.1)
  have hm1 : l1 ≤ 9223372036854775807 := Nat.le_trans hr.n.2.1 hr.n.2.2.1
  have hl2 : c.ks.length = l2 := by simpa using (show (c.ks.map kdF).length = l2 from hr.k.1)
  have hm2 : l2 ≤ 9223372036854775807 := Nat.le_trans hr.k.2.1 hr.k.2.2.1
  have hl3 : c.vs.length = l3 := by simpa using (show (c.vs.map vdF).length = l3 from hr.v.1)
  have hm3 : l3 ≤ 9223372036854775807 := Nat.le_trans hr.v.2.1 hr.v.2.2.1
  have hl4 : c.xs.length = l4 := by simpa using (show (c.xs.map xdF).length = l4 from hr.x.1)
  have hm4 : l4 ≤ 9223372036854775807 := Nat.le_trans hr.x.2.1 hr.x.2.2.1
  have hl5 : c.ps.length = l5 := by simpa using (show (c.ps.map pdF).length = l5 from hr.p.1)
  have hm5 : l5 ≤ 9223372036854775807 := Nat.le_trans hr.p.2.1 hr.p.2.2.1
  clear hr
  have HX := hidK hx
  have HV := hidK hv
  have HNE := hidK hne
  have HB := hidK (Below.refl w.heap.size w)
  clear hx hv hne
  go_enter Tryz.func78, Tryz.ntmps78
  go_wp2_with fail
  refine (sxxd_any ⟨a1, l1, y1, a2, l2, y2, a3, l3, y3, a4, l4, y4, a5, l5, y5⟩ c.now c.xs t _ (HR.out.x.below (below1 _ _))).mono ?_
  rintro e w1 ⟨hb, hf⟩
  obtain ⟨HA0, hbx⟩ := slots1 hb
  have Bk := hidK HA0
  replace HB := upB HB hbx
  clear hb hbx HA0
  rcases hf with ⟨j, x, hx, hn, rfl⟩ | ⟨hh, rfl⟩
  rotate_left
  · have HH := hidK hh
    clear hh
    obtain ⟨k0, k1, k2, k3, k4, k5⟩ := cs6 Bk.out
    have ltk_1 := lt_of_some Bk.out
    go_wp2
    go_ret
    exact ⟨HB.out, .inr ⟨fun v ⟨i, j, x, e1, e2, _⟩ => HH.out i x e1 e2, rfl⟩⟩
  have hj : j < l4 := by have h1 := (List.getElem?_eq_some_iff.1 hx).1; omega
  obtain ⟨b, o, y, rfl, hbb, hy, hat⟩ := xd_at HR.out.x hj
  rw [hx] at hy
  obtain rfl := Option.some.inj hy
  obtain ⟨z0, z2, z4, c0, c1, c2, c3, c4⟩ := xd_cells hat
  have HX1 := hidK hx
  have HN1 := hidK hn
  have e4 := (cell_below HB.out hbb).trans c4
  have hb1 : b < w1.heap.size := Nat.lt_of_lt_of_le hbb HB.out.size
  have hj0 : (0 : Int) ≤ j := by omega
  clear hx hn hy hat z0 z2 z4 c0 c1 c2 c3
  by_cases he : x.v = ⟨#[]⟩
  · have hq := isE_y he
    have HEm := hidK he
    clear he
    obtain ⟨k0, k1, k2, k3, k4, k5⟩ := cs6 Bk.out
    have ltk_1 := lt_of_some Bk.out
    go_wp2
    go_ret
    refine ⟨HB.out, .inr ⟨fun v ⟨i, j2, x2, e1, e2, e3, e5⟩ => ?_, rfl⟩⟩
    obtain ⟨_, rfl⟩ := HX.out.inj e1 HX1.out (e2.trans HN1.out.symm)
    exact HNE.out j2 v e3 (e5.trans HEm.out)
  · have hq := isE_no he
    have HEm := hidK he
    clear he
    obtain ⟨k0, k1, k2, k3, k4, k5⟩ := cs6 Bk.out
    have ltk_1 := lt_of_some Bk.out
    go_wp2_with fail
    by_cases hf : ∃ (j2 : Nat) (v : Vd), c.vs[j2]? = some v ∧ v.n = x.v
    · obtain ⟨j2, v, h1, h2⟩ := hf
      have HF1 := hidK h1
      have HF2 := hidK h2
      clear h1 h2
      clear k0 k1 k2 k3 k4 k5 ltk_1
      have Gk : Hid (w1.heap[w.heap.size]? = some (.cells #[.slice a1 l1 y1, .slice a2 l2 y2, .slice a3 l3 y3, .slice (some ⟨b, o, none⟩) l4 y4, .slice a5 l5 y5, .int .i64 c.now] 38 (0, 0))) := Bk.out
      have HW : Hid (Below w.heap.size w w1) := HB.out
      have k0 := fun q : Wd w1 => q.slot (o := 0) Gk.out rfl
      have k1 := fun q : Wd w1 => q.slot (o := 1) Gk.out rfl
      have k2 := fun q : Wd w1 => q.slot (o := 2) Gk.out rfl
      have k3 := fun q : Wd w1 => q.slot (o := 3) Gk.out rfl
      have k4 := fun q : Wd w1 => q.slot (o := 4) Gk.out rfl
      have k5 := fun q : Wd w1 => q.slot (o := 5) Gk.out rfl
      have e4w : ∀ q : Wd w1, q.w.cell? ⟨b, o + j * 5 + 4, none⟩ = some (.string x.v) := fun q => (q.cell (hb1)).trans (e4)
      have hne0 := Wd.ne w1
      have HC0 := hidK (fun q : Wd w1 => sxvd_hit ⟨a1, l1, y1, a2, l2, y2, a3, l3, y3, (some ⟨b, o, none⟩), l4, y4, a5, l5, y5⟩ c.now c.vs x.v q.w (HR.out.v.below (HW.out.trans (q.b.mono HW.out.size))) HV.out HF1.out HF2.out)
      go_wp2_with fail
      refine wp_region_wide (by kernel_rfl) (by kernel_rfl) ?_
      repeat (go_big_quiet_step (first | (go_at_call 77; exact Calls.wide (HC0.out _)) | fail))
      refine wpQuiet_nil ?_
      rintro _ ⟨q, rfl⟩
      have HB2 := upB HW q.b
      have Ck := upK Gk q.b
      clear hne0 HW HB HC0 k0 k1 k2 k3 k4 k5 e4w Gk Bk
      have HB := HB2
      clear HB2
      have Bk := Ck
      clear Ck
      go_wp2_with fail
      go_ret
      exact ⟨HB.out, .inl ⟨j2, v, HF1.out, ⟨_, _, x, HX1.out, HN1.out, HF1.out, HF2.out⟩, rfl⟩⟩
    · have HF := hidK hf
      clear hf
      clear k0 k1 k2 k3 k4 k5 ltk_1
      have Gk : Hid (w1.heap[w.heap.size]? = some (.cells #[.slice a1 l1 y1, .slice a2 l2 y2, .slice a3 l3 y3, .slice (some ⟨b, o, none⟩) l4 y4, .slice a5 l5 y5, .int .i64 c.now] 38 (0, 0))) := Bk.out
      have HW : Hid (Below w.heap.size w w1) := HB.out
      have k0 := fun q : Wd w1 => q.slot (o := 0) Gk.out rfl
      have k1 := fun q : Wd w1 => q.slot (o := 1) Gk.out rfl
      have k2 := fun q : Wd w1 => q.slot (o := 2) Gk.out rfl
      have k3 := fun q : Wd w1 => q.slot (o := 3) Gk.out rfl
      have k4 := fun q : Wd w1 => q.slot (o := 4) Gk.out rfl
      have k5 := fun q : Wd w1 => q.slot (o := 5) Gk.out rfl
      have e4w : ∀ q : Wd w1, q.w.cell? ⟨b, o + j * 5 + 4, none⟩ = some (.string x.v) := fun q => (q.cell (hb1)).trans (e4)
      have hne0 := Wd.ne w1
      have HC0 := hidK (fun q : Wd w1 => sxvd_miss ⟨a1, l1, y1, a2, l2, y2, a3, l3, y3, (some ⟨b, o, none⟩), l4, y4, a5, l5, y5⟩ c.now c.vs x.v q.w (HR.out.v.below (HW.out.trans (q.b.mono HW.out.size))) (fun j2 v h1 h2 => HF.out ⟨j2, v, h1, h2⟩))
      go_wp2_with fail
      refine wp_region_wide (by kernel_rfl) (by kernel_rfl) ?_
      repeat (go_big_quiet_step (first | (go_at_call 77; exact Calls.wide (HC0.out _)) | fail))
      refine wpQuiet_nil ?_
      rintro _ ⟨q, rfl⟩
      have HB2 := upB HW q.b
      have Ck := upK Gk q.b
      clear hne0 HW HB HC0 k0 k1 k2 k3 k4 k5 e4w Gk Bk
      have HB := HB2
      clear HB2
      have Bk := Ck
      clear Ck
      go_wp2_with fail
      go_ret
      refine ⟨HB.out, .inr ⟨fun v ⟨i, j2, x2, e1, e2, e3, e5⟩ => ?_, rfl⟩⟩
      obtain ⟨_, rfl⟩ := HX.out.inj e1 HX1.out (e2.trans HN1.out.symm)
      exact HF.out ⟨j2, v, e3, e5⟩

theorem sbind_hit (d : Ad) (c : Cl) (t : ByteArray) (w : World) (hr : ClRow w d c.raw) (hx : RisBy Xd.n c.xs) (hv : RisBy Vd.n c.vs) (hne : ∀ (j : Nat) v, c.vs[j]? = some v → ¬ v.n = ⟨#[]⟩) {j : Nat} {v : Vd} (hj : c.vs[j]? = some v) (hb : IsBd c t v) :
    Calls Tryz.prog 78 #[.agg #[.slice d.a1 d.l1 d.c1, .slice d.a2 d.l2 d.c2, .slice d.a3 d.l3 d.c3, .slice d.a4 d.l4 d.c4, .slice d.a5 d.l5 d.c5, .int .i64 c.now], .string t] w fun e w' => e = .returned (.int .i64 j) ∧ Below w.heap.size w w' := by
  refine (sbind_any d c t w hr hx hv hne).mono ?_
  rintro e w' ⟨hw, h⟩
  rcases h with ⟨i, u, h1, h2, rfl⟩ | ⟨h1, rfl⟩
  · obtain rfl := IsBd.inj hx hv h2 hb
    obtain ⟨rfl, _⟩ := hv.inj h1 hj rfl
    exact ⟨rfl, hw⟩
  · exact absurd hb (h1 v)
theorem sbind_miss (d : Ad) (c : Cl) (t : ByteArray) (w : World) (hr : ClRow w d c.raw) (hx : RisBy Xd.n c.xs) (hv : RisBy Vd.n c.vs) (hne : ∀ (j : Nat) v, c.vs[j]? = some v → ¬ v.n = ⟨#[]⟩) (hb : ∀ v, ¬ IsBd c t v) :
    Calls Tryz.prog 78 #[.agg #[.slice d.a1 d.l1 d.c1, .slice d.a2 d.l2 d.c2, .slice d.a3 d.l3 d.c3, .slice d.a4 d.l4 d.c4, .slice d.a5 d.l5 d.c5, .int .i64 c.now], .string t] w fun e w' => e = .returned (.int .i64 (-1)) ∧ Below w.heap.size w w' := by
  refine (sbind_any d c t w hr hx hv hne).mono ?_
  rintro e w' ⟨hw, h⟩
  rcases h with ⟨i, u, h1, h2, rfl⟩ | ⟨h1, rfl⟩
  · exact absurd h2 (hb u)
  · exact ⟨rfl, hw⟩
theorem IsBd.at {c : Cl} {t : ByteArray} {v : Vd} (h : IsBd c t v) : ∃ j : Nat, c.vs[j]? = some v := by
  obtain ⟨_, j, _, _, _, h, _⟩ := h
  exact ⟨j, h⟩

set_option maxRecDepth 100000 in
set_option maxHeartbeats 3200000 in
theorem sused_any (d : Ad) (now : Int) (ps : List Pd) (t : ByteArray) (w : World) (hr : RRow w d.a5 d.l5 d.c5 6 (ps.map pdF)) (hl : ps.length ≤ 8) (hp : ∀ (j : Nat) p, ps[j]? = some p → 0 ≤ p.c ∧ p.c ≤ 1000000) :
    Calls Tryz.prog 80 #[.agg #[.slice d.a1 d.l1 d.c1, .slice d.a2 d.l2 d.c2, .slice d.a3 d.l3 d.c3, .slice d.a4 d.l4 d.c4, .slice d.a5 d.l5 d.c5, .int .i64 now], .string t] w fun e w' => e = .returned (.int .i64 (cpuOf t ps)) ∧ Below w.heap.size w w' := by
  obtain ⟨a1, l1, y1, a2, l2, y2, a3, l3, y3, a4, l4, y4, a5, l5, y5⟩ := d
  dsimp only at hr ⊢
  have HR := hidK hr
  have hxl : ps.length = l5 := by simpa using hr.1
  have HP := hidK hp
  clear hr hp
  go_enter Tryz.func80, Tryz.ntmps80
  go_wp2
  go_loopw [5, 6] (fun q i wr => ∃ (k : Nat) (s : Int), k ≤ l5 ∧ q = .int .i64 s ∧ i = .int .i64 k ∧ Hid (s = cpuOf t (ps.take k)) ∧ 0 ≤ s ∧ s ≤ k * 1000000 ∧ wr = w.alloc (.cells #[.slice a1 l1 y1, .slice a2 l2 y2, .slice a3 l3 y3, .slice a4 l4 y4, .slice a5 l5 y5, .int .i64 now] 38)) (fun _ i _ => l5 - (intOf i).toNat)
  case atStart => exact ⟨0, 0, by omega, rfl, rfl, rfl, by omega, by omega, rfl⟩
  case round =>
    obtain ⟨k, s, hk, rfl, rfl, HS, hs0, hs1, rfl⟩ := hrel
    by_cases hlt : k < l5
    · obtain ⟨b, o, p, rfl, hb, hx, hat⟩ := pd_at HR.out hlt
      obtain ⟨va, vl, vc, hvr, z0, z2, z4, c0, c1, c2, c3, c4, c5⟩ := pd_cells hat
      have HX := hidK hx
      have hpc := HP.out k p hx
      clear hat hx z0 z2 z4 hvr
      by_cases hn : p.d = t
      · have hq := tl_yes hn
        have HN := hidK hn
        clear hn
        go_wp2
        refine ⟨⟨k + 1, s + p.c, by omega, by go_num, by go_num, ?_, by omega, by omega, by first | rfl | trivial⟩, by simp [intOf]; omega⟩
        show _ = _
        rw [cpuOf_step HX.out, if_pos HN.out, ← HS.out]
      · have hq := tl_no hn
        have HN := hidK hn
        clear hn
        go_wp2
        refine ⟨⟨k + 1, s, by omega, rfl, by go_num, ?_, by omega, by omega, by first | rfl | trivial⟩, by simp [intOf]; omega⟩
        show _ = _
        rw [cpuOf_step HX.out, if_neg HN.out, ← HS.out, Int.add_zero]
    · obtain rfl : l5 = k := by omega
      go_wp2
      go_ret
      exact ⟨congrArg (fun z => Ending.returned (.int .i64 z)) (HS.out.trans (by rw [List.take_of_length_le (by omega)])), below1 _ _⟩

set_option maxRecDepth 100000 in
set_option maxHeartbeats 3200000 in
theorem son_any (d : Ad) (now : Int) (vs : List Vd) (t : ByteArray) (w : World) (hr : RRow w d.a3 d.l3 d.c3 8 (vs.map vdF)) (hl : vs.length ≤ 8) :
    Calls Tryz.prog 81 #[.agg #[.slice d.a1 d.l1 d.c1, .slice d.a2 d.l2 d.c2, .slice d.a3 d.l3 d.c3, .slice d.a4 d.l4 d.c4, .slice d.a5 d.l5 d.c5, .int .i64 now], .string t] w fun e w' => e = .returned (.int .i64 (onOf t vs)) ∧ Below w.heap.size w w' := by
  obtain ⟨a1, l1, y1, a2, l2, y2, a3, l3, y3, a4, l4, y4, a5, l5, y5⟩ := d
  dsimp only at hr ⊢
  have HR := hidK hr
  have hxl : vs.length = l3 := by simpa using hr.1
  clear hr
  go_enter Tryz.func81, Tryz.ntmps81
  go_wp2
  go_loopw [5, 6] (fun q i wr => ∃ (k : Nat) (s : Int), k ≤ l3 ∧ q = .int .i64 s ∧ i = .int .i64 k ∧ Hid (s = onOf t (vs.take k)) ∧ 0 ≤ s ∧ s ≤ k ∧ Hid (Below w.heap.size w wr) ∧ Hid (wr.heap[w.heap.size]? = some (.cells #[.slice a1 l1 y1, .slice a2 l2 y2, .slice a3 l3 y3, .slice a4 l4 y4, .slice a5 l5 y5, .int .i64 now] 38 (0, 0)))) (fun _ i _ => l3 - (intOf i).toNat)
  case atStart => exact ⟨0, 0, by omega, rfl, rfl, rfl, by omega, by omega, below1 _ _, Array.getElem?_push_size⟩
  case round =>
    obtain ⟨k, s, hk, rfl, rfl, HS, hs0, hs1, HB, Bk⟩ := hrel
    have kk : wr.cell? ⟨w.heap.size, 2, none⟩ = some (.slice a3 l3 y3) := cellK Bk.out 2
    by_cases hlt : k < l3
    · obtain ⟨b, o, v, rfl, hb, hx, hat⟩ := vd_at (HR.out.below HB.out) hlt
      obtain ⟨va, vl, vc, hvr, z0, z2, z3, z5, c0, c1, c2, c3, c4, c5, c6, c7⟩ := vd_cells hat
      have HX := hidK hx
      have HT := hidK hvr
      clear hat hx z0 z2 z3 z5 hvr
      go_wp2_with fail
      refine (shas_any va vl vc v.zs t _ HT.out).mono ?_
      rintro e w1 ⟨r, rfl, hi, hb2⟩
      replace Bk := upK Bk hb2
      replace HB := upB HB hb2
      clear hb2
      have HI := hidK hi
      clear hi hb kk c0 c1 c2 c3 c4 c5 c6 c7
      cases r
      · go_wp2
        refine ⟨⟨k + 1, s, by omega, rfl, by go_num, ?_, by omega, by omega, HB.out, Bk.out⟩, by simp [intOf]; omega⟩
        show _ = _
        rw [onOf_step HX.out, if_neg (fun h => by have := HI.out.2 h; cases this), ← HS.out, Int.add_zero]
      · go_wp2
        refine ⟨⟨k + 1, s + 1, by omega, by go_num, by go_num, ?_, by omega, by omega, HB.out, Bk.out⟩, by simp [intOf]; omega⟩
        show _ = _
        rw [onOf_step HX.out, if_pos (HI.out.1 (by first | trivial | rfl)), ← HS.out]
    · obtain rfl : l3 = k := by omega
      go_wp2
      go_ret
      exact ⟨congrArg (fun z => Ending.returned (.int .i64 z)) (HS.out.trans (by rw [List.take_of_length_le (by omega)])), HB.out⟩

def PairS (c : Cl) (p q : Pd) : Prop := p.d = ⟨#[]⟩ ∨ q.d = ⟨#[]⟩ ∨ p.d = q.d ∨ ∀ (j : Nat) t, p.zs[j]? = some t → ∀ v, IsBd c t v → v.x = true → ¬ InL q.zs t

set_option maxRecDepth 100000 in
set_option maxHeartbeats 3200000 in
theorem spair_any (d : Ad) (c : Cl) (p q : Pd) (pa : Option Addr) (pl pc : Nat) (qa : Option Addr) (ql qc : Nat) (w : World) (hr : ClRow w d c.raw) (hx : RisBy Xd.n c.xs) (hv : RisBy Vd.n c.vs) (hne : ∀ (j : Nat) v, c.vs[j]? = some v → ¬ v.n = ⟨#[]⟩) (hp : TxRow w pa pl pc p.zs) (hq : TxRow w qa ql qc q.zs) :
    Calls Tryz.prog 79 #[.agg #[.slice d.a1 d.l1 d.c1, .slice d.a2 d.l2 d.c2, .slice d.a3 d.l3 d.c3, .slice d.a4 d.l4 d.c4, .slice d.a5 d.l5 d.c5, .int .i64 c.now], .agg #[.string p.n, .int .i64 p.c, .string p.z, .slice pa pl pc, .string p.d, .int .i64 p.p], .agg #[.string q.n, .int .i64 q.c, .string q.z, .slice qa ql qc, .string q.d, .int .i64 q.p]] w (BoolB (PairS c p q) w) := by
  obtain ⟨a1, l1, y1, a2, l2, y2, a3, l3, y3, a4, l4, y4, a5, l5, y5⟩ := d
  dsimp only
  have HR := hidK hr
  have hl1 : c.ns.length = l1 := by simpa using (show (c.ns.map ndF).length = l1 from hr.n.1)
  have hm1 : l1 ≤ 9223372036854775807 := Nat.le_trans hr.n.2.1 hr.n.2.2.1
  have hl2 : c.ks.length = l2 := by simpa using (show (c.ks.map kdF).length = l2 from hr.k.1)
  have hm2 : l2 ≤ 9223372036854775807 := Nat.le_trans hr.k.2.1 hr.k.2.2.1
  have hl3 : c.vs.length = l3 := by simpa using (show (c.vs.map vdF).length = l3 from hr.v.1)
  have hm3 : l3 ≤ 9223372036854775807 := Nat.le_trans hr.v.2.1 hr.v.2.2.1
  have hl4 : c.xs.length = l4 := by simpa using (show (c.xs.map xdF).length = l4 from hr.x.1)
  have hm4 : l4 ≤ 9223372036854775807 := Nat.le_trans hr.x.2.1 hr.x.2.2.1
  have hl5 : c.ps.length = l5 := by simpa using (show (c.ps.map pdF).length = l5 from hr.p.1)
  have hm5 : l5 ≤ 9223372036854775807 := Nat.le_trans hr.p.2.1 hr.p.2.2.1
  clear hr
  have HX := hidK hx
  have HV := hidK hv
  have HNE := hidK hne
  have HP := hidK hp
  have HQ0 := hidK hq
  have hlc : pl ≤ 9223372036854775807 := Nat.le_trans hp.2.1 hp.2.2.1
  have hzl : p.zs.length = pl := hp.1
  clear hx hv hne hp hq
  by_cases hp0 : p.d = ⟨#[]⟩
  · have e1 := isE_y hp0
    have HH := hidK hp0
    clear hp0
    go_enter Tryz.func79, Tryz.ntmps79
    go_wp2
    go_ret
    exact BoolB.t (.inl HH.out) (below3 _ _ _ _)
  by_cases hq0 : q.d = ⟨#[]⟩
  · have e1 := isE_no hp0
    have e2 := isE_y hq0
    have HH := hidK hq0
    clear hp0 hq0
    go_enter Tryz.func79, Tryz.ntmps79
    go_wp2
    go_ret
    exact BoolB.t (.inr (.inl HH.out)) (below3 _ _ _ _)
  by_cases hpq : p.d = q.d
  · have e1 := isE_no hp0
    have e2 := isE_no hq0
    have e3 := tl_yes hpq
    have HH := hidK hpq
    clear hp0 hq0 hpq
    go_enter Tryz.func79, Tryz.ntmps79
    go_wp2
    go_ret
    exact BoolB.t (.inr (.inr (.inl HH.out))) (below3 _ _ _ _)
  have e1 := isE_no hp0
  have e2 := isE_no hq0
  have e3 := tl_no hpq
  have HP0 := hidK hp0
  have HQ1 := hidK hq0
  have HPQ := hidK hpq
  clear hp0 hq0 hpq
  go_enter Tryz.func79, Tryz.ntmps79
  go_wp2
  clear e1 e2 e3
  go_loopw [7] (fun i wr => ∃ k : Nat, k ≤ pl ∧ i = .int .i64 k ∧ Hid (∀ (j : Nat) t, j < k → p.zs[j]? = some t → ∀ v, IsBd c t v → v.x = true → ¬ InL q.zs t) ∧ Hid (Below w.heap.size w wr) ∧ Hid (wr.heap[w.heap.size]? = some (.cells #[.slice a1 l1 y1, .slice a2 l2 y2, .slice a3 l3 y3, .slice a4 l4 y4, .slice a5 l5 y5, .int .i64 c.now] 38 (0, 0))) ∧ Hid (wr.heap[w.heap.size + 1]? = some (.cells #[.string p.n, .int .i64 p.c, .string p.z, .slice pa pl pc, .string p.d, .int .i64 p.p] 89 (0, 0))) ∧ Hid (wr.heap[w.heap.size + 1 + 1]? = some (.cells #[.string q.n, .int .i64 q.c, .string q.z, .slice qa ql qc, .string q.d, .int .i64 q.p] 89 (0, 0)))) (fun i _ => pl - (intOf i).toNat)
  case atStart => exact ⟨0, by omega, rfl, fun _ _ h => absurd h (by omega), below3 _ _ _ _, heap3_0 _ _ _ _, heap3_1 _ _ _ _, heap3_2 _ _ _ _⟩
  case round =>
    obtain ⟨k, hk, rfl, HQ, HB, Bk, Bx, By⟩ := hrel
    have px3 : wr.cell? ⟨w.heap.size + 1, 3, none⟩ = some (.slice pa pl pc) := cellK Bx.out 3
    by_cases hlt : k < pl
    · obtain ⟨b, o, t, rfl, hb, hxt, hc, hsz⟩ := HP.out.at hlt
      have HXt := hidK hxt
      have hcw := (cell_below HB.out hb).trans hc
      have hbw : b < wr.heap.size := Nat.lt_of_lt_of_le hb HB.out.size
      clear hxt hsz
      have hcase : (∃ v, IsBd c t v) ∨ (∀ v, ¬ IsBd c t v) := by
        by_cases h : ∃ v, IsBd c t v
        · exact .inl h
        · exact .inr (fun v hv => h ⟨v, hv⟩)
      rcases hcase with ⟨v, hbd⟩ | hbd
      · obtain ⟨j3, hj3⟩ := hbd.at
        have hl3' : j3 < l3 := by have h1 := (List.getElem?_eq_some_iff.1 hj3).1; omega
        obtain ⟨b3, o3, v', rfl, hb3, hv', hat⟩ := vd_at HR.out.v hl3'
        rw [hj3] at hv'
        obtain rfl := Option.some.inj hv'
        obtain ⟨va, vl, vc, hvr, z0, z2, z3, z5, c0, c1, c2, c3, c4, c5, c6, c7⟩ := vd_cells hat
        have HJ := hidK hj3
        have HD := hidK hbd
        have hcv := (cell_below HB.out hb3).trans c4
        have hbv : b3 < wr.heap.size := Nat.lt_of_lt_of_le hb3 HB.out.size
        have hj0 : (0 : Int) ≤ j3 := by omega
        clear hv' hat hvr z0 z2 z3 z5 c0 c1 c2 c3 c4 c5 c6 c7 hj3 hbd
        have Gk : Hid (wr.heap[w.heap.size]? = some (.cells #[.slice a1 l1 y1, .slice a2 l2 y2, .slice (some ⟨b3, o3, none⟩) l3 y3, .slice a4 l4 y4, .slice a5 l5 y5, .int .i64 c.now] 38 (0, 0))) := Bk.out
        have Gx : Hid (wr.heap[w.heap.size + 1]? = some (.cells #[.string p.n, .int .i64 p.c, .string p.z, .slice (some ⟨b, o, none⟩) pl pc, .string p.d, .int .i64 p.p] 89 (0, 0))) := Bx.out
        have Gy : Hid (wr.heap[w.heap.size + 1 + 1]? = some (.cells #[.string q.n, .int .i64 q.c, .string q.z, .slice qa ql qc, .string q.d, .int .i64 q.p] 89 (0, 0))) := By.out
        have HW : Hid (Below w.heap.size w wr) := HB.out
        have k0 := fun q : Wd wr => q.slot (o := 0) Gk.out rfl
        have k1 := fun q : Wd wr => q.slot (o := 1) Gk.out rfl
        have k2 := fun q : Wd wr => q.slot (o := 2) Gk.out rfl
        have k3 := fun q : Wd wr => q.slot (o := 3) Gk.out rfl
        have k4 := fun q : Wd wr => q.slot (o := 4) Gk.out rfl
        have k5 := fun q : Wd wr => q.slot (o := 5) Gk.out rfl
        have x3 := fun q : Wd wr => q.slot (o := 3) Gx.out rfl
        have tw : ∀ q : Wd wr, q.w.cell? ⟨b, o + k, none⟩ = some (.string t) := fun q => (q.cell (hbw)).trans (hcw)
        have hne0 := Wd.ne wr
        have HC0 := hidK (fun q : Wd wr => sbind_hit ⟨a1, l1, y1, a2, l2, y2, (some ⟨b3, o3, none⟩), l3, y3, a4, l4, y4, a5, l5, y5⟩ c t q.w (HR.out.below (HW.out.trans (q.b.mono HW.out.size))) HX.out HV.out HNE.out HJ.out HD.out)
        go_wp2_with fail
        refine wp_region_wide (by kernel_rfl) (by kernel_rfl) ?_
        repeat (go_big_quiet_step (first | (go_at_call 78; exact Calls.wide (HC0.out _)) | fail))
        refine wpQuiet_nil ?_
        rintro _ ⟨q1, rfl⟩
        have HB1 := upB HW q1.b
        have Ck := upK Gk q1.b
        have Cx := upK Gx q1.b
        have Cy := upK Gy q1.b
        clear hne0 HW HB HC0 k0 k1 k2 k3 k4 k5 x3 tw Gk Gx Gy Bk Bx By px3
        have HB := HB1
        clear HB1
        have Bk := Ck
        clear Ck
        have Bx := Cx
        clear Cx
        have By := Cy
        clear Cy
        have hcw1 := (q1.cell hbw).trans hcw
        have hbw1 : b < q1.w.heap.size := Nat.lt_of_lt_of_le hbw q1.b.size
        have hcv1 := (q1.cell hbv).trans hcv
        have hbv1 : b3 < q1.w.heap.size := Nat.lt_of_lt_of_le hbv q1.b.size
        clear hcw hbw hcv hbv
        rcases Bool.eq_false_or_eq_true v.x with hs | hs
        rotate_left
        · have HSi := hidK hs
          rw [hs] at hcv1
          clear hs
          have Gk : Hid (q1.w.heap[w.heap.size]? = some (.cells #[.slice a1 l1 y1, .slice a2 l2 y2, .slice (some ⟨b3, o3, none⟩) l3 y3, .slice a4 l4 y4, .slice a5 l5 y5, .int .i64 c.now] 38 (0, 0))) := Bk.out
          have Gx : Hid (q1.w.heap[w.heap.size + 1]? = some (.cells #[.string p.n, .int .i64 p.c, .string p.z, .slice (some ⟨b, o, none⟩) pl pc, .string p.d, .int .i64 p.p] 89 (0, 0))) := Bx.out
          have Gy : Hid (q1.w.heap[w.heap.size + 1 + 1]? = some (.cells #[.string q.n, .int .i64 q.c, .string q.z, .slice qa ql qc, .string q.d, .int .i64 q.p] 89 (0, 0))) := By.out
          have HW : Hid (Below w.heap.size w q1.w) := HB.out
          have k2 := fun q : Wd q1.w => q.slot (o := 2) Gk.out rfl
          have x3 := fun q : Wd q1.w => q.slot (o := 3) Gx.out rfl
          have y3 := fun q : Wd q1.w => q.slot (o := 3) Gy.out rfl
          have tw : ∀ q : Wd q1.w, q.w.cell? ⟨b, o + k, none⟩ = some (.string t) := fun q => (q.cell (hbw1)).trans (hcw1)
          have vw : ∀ q : Wd q1.w, q.w.cell? ⟨b3, o3 + j3 * 8 + 4, none⟩ = some (.bool false) := fun q => (q.cell (hbv1)).trans (hcv1)
          have hne0 := Wd.ne q1.w
          go_wp2_with fail
          refine wp_region_wide (by kernel_rfl) (by kernel_rfl) ?_
          repeat (go_big_quiet_step (first | fail))
          refine wpQuiet_nil ?_
          rintro _ ⟨q2, rfl⟩
          have HB2 := upB HW q2.b
          have Ck := upK Gk q2.b
          have Cx := upK Gx q2.b
          have Cy := upK Gy q2.b
          clear hne0 HW HB k2 x3 y3 tw vw Gk Gx Gy Bk Bx By
          have HB := HB2
          clear HB2
          have Bk := Ck
          clear Ck
          have Bx := Cx
          clear Cx
          have By := Cy
          clear Cy
          go_wp2_with fail
          refine ⟨⟨k + 1, by omega, by go_num, fun j s hj hs => ?_, HB.out, Bk.out, Bx.out, By.out⟩, by simp [intOf]; omega⟩
          by_cases e : j = k
          · subst e
            rw [HXt.out] at hs
            obtain rfl := Option.some.inj hs
            intro v2 h1 h2; obtain rfl := IsBd.inj HX.out HV.out HD.out h1; rw [HSi.out] at h2; cases h2
          · exact HQ.out j s (by omega) hs
        have HSi := hidK hs
        rw [hs] at hcv1
        clear hs
        by_cases hin : InL q.zs t
        · have HIn := hidK hin
          clear hin
          have Gk : Hid (q1.w.heap[w.heap.size]? = some (.cells #[.slice a1 l1 y1, .slice a2 l2 y2, .slice (some ⟨b3, o3, none⟩) l3 y3, .slice a4 l4 y4, .slice a5 l5 y5, .int .i64 c.now] 38 (0, 0))) := Bk.out
          have Gx : Hid (q1.w.heap[w.heap.size + 1]? = some (.cells #[.string p.n, .int .i64 p.c, .string p.z, .slice (some ⟨b, o, none⟩) pl pc, .string p.d, .int .i64 p.p] 89 (0, 0))) := Bx.out
          have Gy : Hid (q1.w.heap[w.heap.size + 1 + 1]? = some (.cells #[.string q.n, .int .i64 q.c, .string q.z, .slice qa ql qc, .string q.d, .int .i64 q.p] 89 (0, 0))) := By.out
          have HW : Hid (Below w.heap.size w q1.w) := HB.out
          have k2 := fun q : Wd q1.w => q.slot (o := 2) Gk.out rfl
          have x3 := fun q : Wd q1.w => q.slot (o := 3) Gx.out rfl
          have y3 := fun q : Wd q1.w => q.slot (o := 3) Gy.out rfl
          have tw : ∀ q : Wd q1.w, q.w.cell? ⟨b, o + k, none⟩ = some (.string t) := fun q => (q.cell (hbw1)).trans (hcw1)
          have vw : ∀ q : Wd q1.w, q.w.cell? ⟨b3, o3 + j3 * 8 + 4, none⟩ = some (.bool true) := fun q => (q.cell (hbv1)).trans (hcv1)
          have hne0 := Wd.ne q1.w
          have HC0 := hidK (fun qq : Wd q1.w => (shas_any qa ql qc q.zs t qq.w (HQ0.out.below (HW.out.trans (qq.b.mono HW.out.size)))).mono (fun _ _ h => BoolB.yes h HIn.out))
          go_wp2_with fail
          refine wp_region_wide (by kernel_rfl) (by kernel_rfl) ?_
          repeat (go_big_quiet_step (first | (go_at_call 51; exact Calls.wide (HC0.out _)) | fail))
          refine wpQuiet_nil ?_
          rintro _ ⟨q2, rfl⟩
          have HB2 := upB HW q2.b
          have Ck := upK Gk q2.b
          have Cx := upK Gx q2.b
          have Cy := upK Gy q2.b
          clear hne0 HW HB HC0 k2 x3 y3 tw vw Gk Gx Gy Bk Bx By
          have HB := HB2
          clear HB2
          have Bk := Ck
          clear Ck
          have Bx := Cx
          clear Cx
          have By := Cy
          clear Cy
          go_wp2
          go_ret
          refine BoolB.f (fun h => ?_) HB.out
          rcases h with h | h | h | h
          · exact HP0.out h
          · exact HQ1.out h
          · exact HPQ.out h
          · exact h k t HXt.out v HD.out HSi.out HIn.out
        · have HIn := hidK hin
          clear hin
          have Gk : Hid (q1.w.heap[w.heap.size]? = some (.cells #[.slice a1 l1 y1, .slice a2 l2 y2, .slice (some ⟨b3, o3, none⟩) l3 y3, .slice a4 l4 y4, .slice a5 l5 y5, .int .i64 c.now] 38 (0, 0))) := Bk.out
          have Gx : Hid (q1.w.heap[w.heap.size + 1]? = some (.cells #[.string p.n, .int .i64 p.c, .string p.z, .slice (some ⟨b, o, none⟩) pl pc, .string p.d, .int .i64 p.p] 89 (0, 0))) := Bx.out
          have Gy : Hid (q1.w.heap[w.heap.size + 1 + 1]? = some (.cells #[.string q.n, .int .i64 q.c, .string q.z, .slice qa ql qc, .string q.d, .int .i64 q.p] 89 (0, 0))) := By.out
          have HW : Hid (Below w.heap.size w q1.w) := HB.out
          have k2 := fun q : Wd q1.w => q.slot (o := 2) Gk.out rfl
          have x3 := fun q : Wd q1.w => q.slot (o := 3) Gx.out rfl
          have y3 := fun q : Wd q1.w => q.slot (o := 3) Gy.out rfl
          have tw : ∀ q : Wd q1.w, q.w.cell? ⟨b, o + k, none⟩ = some (.string t) := fun q => (q.cell (hbw1)).trans (hcw1)
          have vw : ∀ q : Wd q1.w, q.w.cell? ⟨b3, o3 + j3 * 8 + 4, none⟩ = some (.bool true) := fun q => (q.cell (hbv1)).trans (hcv1)
          have hne0 := Wd.ne q1.w
          have HC0 := hidK (fun qq : Wd q1.w => (shas_any qa ql qc q.zs t qq.w (HQ0.out.below (HW.out.trans (qq.b.mono HW.out.size)))).mono (fun _ _ h => BoolB.no h HIn.out))
          go_wp2_with fail
          refine wp_region_wide (by kernel_rfl) (by kernel_rfl) ?_
          repeat (go_big_quiet_step (first | (go_at_call 51; exact Calls.wide (HC0.out _)) | fail))
          refine wpQuiet_nil ?_
          rintro _ ⟨q2, rfl⟩
          have HB2 := upB HW q2.b
          have Ck := upK Gk q2.b
          have Cx := upK Gx q2.b
          have Cy := upK Gy q2.b
          clear hne0 HW HB HC0 k2 x3 y3 tw vw Gk Gx Gy Bk Bx By
          have HB := HB2
          clear HB2
          have Bk := Ck
          clear Ck
          have Bx := Cx
          clear Cx
          have By := Cy
          clear Cy
          go_wp2_with fail
          refine ⟨⟨k + 1, by omega, by go_num, fun j s hj hs => ?_, HB.out, Bk.out, Bx.out, By.out⟩, by simp [intOf]; omega⟩
          by_cases e : j = k
          · subst e
            rw [HXt.out] at hs
            obtain rfl := Option.some.inj hs
            intro v2 h1 h2; exact HIn.out
          · exact HQ.out j s (by omega) hs
      · have HD := hidK hbd
        clear hbd
        have Gk : Hid (wr.heap[w.heap.size]? = some (.cells #[.slice a1 l1 y1, .slice a2 l2 y2, .slice a3 l3 y3, .slice a4 l4 y4, .slice a5 l5 y5, .int .i64 c.now] 38 (0, 0))) := Bk.out
        have Gx : Hid (wr.heap[w.heap.size + 1]? = some (.cells #[.string p.n, .int .i64 p.c, .string p.z, .slice (some ⟨b, o, none⟩) pl pc, .string p.d, .int .i64 p.p] 89 (0, 0))) := Bx.out
        have Gy : Hid (wr.heap[w.heap.size + 1 + 1]? = some (.cells #[.string q.n, .int .i64 q.c, .string q.z, .slice qa ql qc, .string q.d, .int .i64 q.p] 89 (0, 0))) := By.out
        have HW : Hid (Below w.heap.size w wr) := HB.out
        have k0 := fun q : Wd wr => q.slot (o := 0) Gk.out rfl
        have k1 := fun q : Wd wr => q.slot (o := 1) Gk.out rfl
        have k2 := fun q : Wd wr => q.slot (o := 2) Gk.out rfl
        have k3 := fun q : Wd wr => q.slot (o := 3) Gk.out rfl
        have k4 := fun q : Wd wr => q.slot (o := 4) Gk.out rfl
        have k5 := fun q : Wd wr => q.slot (o := 5) Gk.out rfl
        have x3 := fun q : Wd wr => q.slot (o := 3) Gx.out rfl
        have tw : ∀ q : Wd wr, q.w.cell? ⟨b, o + k, none⟩ = some (.string t) := fun q => (q.cell (hbw)).trans (hcw)
        have hne0 := Wd.ne wr
        have HC0 := hidK (fun q : Wd wr => sbind_miss ⟨a1, l1, y1, a2, l2, y2, a3, l3, y3, a4, l4, y4, a5, l5, y5⟩ c t q.w (HR.out.below (HW.out.trans (q.b.mono HW.out.size))) HX.out HV.out HNE.out HD.out)
        go_wp2_with fail
        refine wp_region_wide (by kernel_rfl) (by kernel_rfl) ?_
        repeat (go_big_quiet_step (first | (go_at_call 78; exact Calls.wide (HC0.out _)) | fail))
        refine wpQuiet_nil ?_
        rintro _ ⟨q1, rfl⟩
        have HB1 := upB HW q1.b
        have Ck := upK Gk q1.b
        have Cx := upK Gx q1.b
        have Cy := upK Gy q1.b
        clear hne0 HW HB HC0 k0 k1 k2 k3 k4 k5 x3 tw Gk Gx Gy Bk Bx By px3
        have HB := HB1
        clear HB1
        have Bk := Ck
        clear Ck
        have Bx := Cx
        clear Cx
        have By := Cy
        clear Cy
        have Gk : Hid (q1.w.heap[w.heap.size]? = some (.cells #[.slice a1 l1 y1, .slice a2 l2 y2, .slice a3 l3 y3, .slice a4 l4 y4, .slice a5 l5 y5, .int .i64 c.now] 38 (0, 0))) := Bk.out
        have Gx : Hid (q1.w.heap[w.heap.size + 1]? = some (.cells #[.string p.n, .int .i64 p.c, .string p.z, .slice (some ⟨b, o, none⟩) pl pc, .string p.d, .int .i64 p.p] 89 (0, 0))) := Bx.out
        have Gy : Hid (q1.w.heap[w.heap.size + 1 + 1]? = some (.cells #[.string q.n, .int .i64 q.c, .string q.z, .slice qa ql qc, .string q.d, .int .i64 q.p] 89 (0, 0))) := By.out
        have HW : Hid (Below w.heap.size w q1.w) := HB.out
        have k2 := fun q : Wd q1.w => q.slot (o := 2) Gk.out rfl
        have x3 := fun q : Wd q1.w => q.slot (o := 3) Gx.out rfl
        have y3 := fun q : Wd q1.w => q.slot (o := 3) Gy.out rfl
        have hne0 := Wd.ne q1.w
        go_wp2_with fail
        refine wp_region_wide (by kernel_rfl) (by kernel_rfl) ?_
        repeat (go_big_quiet_step (first | fail))
        refine wpQuiet_nil ?_
        rintro _ ⟨q2, rfl⟩
        have HB2 := upB HW q2.b
        have Ck := upK Gk q2.b
        have Cx := upK Gx q2.b
        have Cy := upK Gy q2.b
        clear hne0 HW HB k2 x3 y3 Gk Gx Gy Bk Bx By
        have HB := HB2
        clear HB2
        have Bk := Ck
        clear Ck
        have Bx := Cx
        clear Cx
        have By := Cy
        clear Cy
        go_wp2_with fail
        refine ⟨⟨k + 1, by omega, by go_num, fun j s hj hs => ?_, HB.out, Bk.out, Bx.out, By.out⟩, by simp [intOf]; omega⟩
        by_cases e : j = k
        · subst e
          rw [HXt.out] at hs
          obtain rfl := Option.some.inj hs
          intro v2 h1; exact absurd h1 (HD.out v2)
        · exact HQ.out j s (by omega) hs
    · obtain rfl : pl = k := by omega
      go_wp2
      go_ret
      exact BoolB.t (.inr (.inr (.inr (fun j t ht => HQ.out j t (by have := (List.getElem?_eq_some_iff.1 ht).1; omega) ht)))) HB.out

set_option maxRecDepth 100000 in
set_option maxHeartbeats 12800000 in
theorem seach_any (d : Ad) (c : Cl) (w : World) (hr : ClRow w d c.raw) :
    Calls Tryz.prog 45 #[.agg #[.slice d.a1 d.l1 d.c1, .slice d.a2 d.l2 d.c2, .slice d.a3 d.l3 d.c3, .slice d.a4 d.l4 d.c4, .slice d.a5 d.l5 d.c5, .int .i64 c.now]] w (BoolB (RowsOk c) w) := by
  obtain ⟨a1, l1, y1, a2, l2, y2, a3, l3, y3, a4, l4, y4, a5, l5, y5⟩ := d
  dsimp only
  have HR := hidK hr
  have hl1 : c.ns.length = l1 := by simpa using (show (c.ns.map ndF).length = l1 from hr.n.1)
  have hm1 : l1 ≤ 9223372036854775807 := Nat.le_trans hr.n.2.1 hr.n.2.2.1
  have hl2 : c.ks.length = l2 := by simpa using (show (c.ks.map kdF).length = l2 from hr.k.1)
  have hm2 : l2 ≤ 9223372036854775807 := Nat.le_trans hr.k.2.1 hr.k.2.2.1
  have hl3 : c.vs.length = l3 := by simpa using (show (c.vs.map vdF).length = l3 from hr.v.1)
  have hm3 : l3 ≤ 9223372036854775807 := Nat.le_trans hr.v.2.1 hr.v.2.2.1
  have hl4 : c.xs.length = l4 := by simpa using (show (c.xs.map xdF).length = l4 from hr.x.1)
  have hm4 : l4 ≤ 9223372036854775807 := Nat.le_trans hr.x.2.1 hr.x.2.2.1
  have hl5 : c.ps.length = l5 := by simpa using (show (c.ps.map pdF).length = l5 from hr.p.1)
  have hm5 : l5 ≤ 9223372036854775807 := Nat.le_trans hr.p.2.1 hr.p.2.2.1
  clear hr
  by_cases hL1 : (6 : Int) < l1
  · go_enter Tryz.func45, Tryz.ntmps45
    go_wp2
    go_ret
    exact BoolB.f (fun h => by have := h.1.1; omega) (below1 _ _)
  by_cases hL2 : (8 : Int) < l2
  · go_enter Tryz.func45, Tryz.ntmps45
    go_wp2
    go_ret
    exact BoolB.f (fun h => by have := h.2.1.1; omega) (below1 _ _)
  by_cases hL3 : (8 : Int) < l3
  · go_enter Tryz.func45, Tryz.ntmps45
    go_wp2
    go_ret
    exact BoolB.f (fun h => by have := h.2.2.1.1; omega) (below1 _ _)
  by_cases hL4 : (8 : Int) < l4
  · go_enter Tryz.func45, Tryz.ntmps45
    go_wp2
    go_ret
    exact BoolB.f (fun h => by have := h.2.2.2.1.1; omega) (below1 _ _)
  by_cases hL5 : (8 : Int) < l5
  · go_enter Tryz.func45, Tryz.ntmps45
    go_wp2
    go_ret
    exact BoolB.f (fun h => by have := h.2.2.2.2.1; omega) (below1 _ _)
  go_enter Tryz.func45, Tryz.ntmps45
  go_wp2
  go_loopw [3] (fun i wr => ∃ k : Nat, k ≤ l1 ∧ i = .int .i64 k ∧ Hid (∀ (j : Nat) z, j < k → c.ns[j]? = some z → ndOk z) ∧ Hid (∀ (j : Nat) z u, j + 1 < k → c.ns[j + 1]? = some z → c.ns[j]? = some u → Op.bytesLess u.n.toList z.n.toList = true) ∧ Hid (Below w.heap.size w wr) ∧ Hid (wr.heap[w.heap.size]? = some (.cells #[.slice a1 l1 y1, .slice a2 l2 y2, .slice a3 l3 y3, .slice a4 l4 y4, .slice a5 l5 y5, .int .i64 c.now] 38 (0, 0)))) (fun i _ => l1 - (intOf i).toNat)
  case atStart => exact ⟨0, by omega, rfl, fun _ _ h => absurd h (by omega), fun _ _ _ h => absurd h (by omega), below1 _ _, Array.getElem?_push_size⟩
  case round =>
    obtain ⟨k, hk, rfl, HQ, HO, HB, Bk⟩ := hrel
    have pk : wr.cell? ⟨w.heap.size, 0, none⟩ = some (.slice a1 l1 y1) := cellK Bk.out 0
    by_cases hlt : k < l1
    · obtain ⟨b, o, x, rfl, hb, hx, hat⟩ := nd_at (HR.out.n.below HB.out) hlt
      obtain ⟨va, vl, vc, hvr, z0, z1, c0, c1, c2, c3, c4, c5, c6⟩ := nd_cells hat
      have HXx := hidK hx
      have HTx := hidK hvr
      have HZx0 := hidK z0
      have HZx1 := hidK z1
      clear hat hx z0 z1 hvr
      by_cases hok : ndOk x
      rotate_left
      · have HOK := hidK hok
        clear hok
        have Gk : Hid (wr.heap[w.heap.size]? = some (.cells #[.slice (some ⟨b, o, none⟩) l1 y1, .slice a2 l2 y2, .slice a3 l3 y3, .slice a4 l4 y4, .slice a5 l5 y5, .int .i64 c.now] 38 (0, 0))) := Bk.out
        have HW : Hid (Below w.heap.size w wr) := HB.out
        have k0 := fun q : Wd wr => q.slot (o := 0) Gk.out rfl
        have x0 : ∀ q : Wd wr, q.w.cell? ⟨b, o + k * 7, none⟩ = some (.string x.n) := fun q => (q.cell (hb)).trans (c0)
        have x1 : ∀ q : Wd wr, q.w.cell? ⟨b, o + k * 7 + 1, none⟩ = some (.string x.z) := fun q => (q.cell (hb)).trans (c1)
        have x2 : ∀ q : Wd wr, q.w.cell? ⟨b, o + k * 7 + 2, none⟩ = some (.int .i64 x.c) := fun q => (q.cell (hb)).trans (c2)
        have x3 : ∀ q : Wd wr, q.w.cell? ⟨b, o + k * 7 + 3, none⟩ = some (.int .i64 x.s) := fun q => (q.cell (hb)).trans (c3)
        have x4 : ∀ q : Wd wr, q.w.cell? ⟨b, o + k * 7 + 4, none⟩ = some (.int .i64 x.u) := fun q => (q.cell (hb)).trans (c4)
        have x5 : ∀ q : Wd wr, q.w.cell? ⟨b, o + k * 7 + 5, none⟩ = some (.bool x.d) := fun q => (q.cell (hb)).trans (c5)
        have x6 : ∀ q : Wd wr, q.w.cell? ⟨b, o + k * 7 + 6, none⟩ = some (.slice va vl vc) := fun q => (q.cell (hb)).trans (c6)
        have hne0 := Wd.ne wr
        have HC0 := hidK (fun q : Wd wr => (snode_any x.n x.z x.c x.s x.u x.d va vl vc x.zs q.w HZx0.out HZx1.out (HTx.out.below q.b)).mono (fun _ _ h => BoolB.no h HOK.out))
        go_wp2_with fail
        refine wp_region_wide (by kernel_rfl) (by kernel_rfl) ?_
        repeat (go_big_quiet_step (first | (go_at_call 70; exact Calls.wide (HC0.out _)) | fail))
        refine wpQuiet_nil ?_
        rintro _ ⟨q, rfl⟩
        have HB1 := upB HW q.b
        have Ck := upK Gk q.b
        clear hne0 HW HB HC0 k0 x0 x1 x2 x3 x4 x5 x6 Gk Bk c0 c1 c2 c3 c4 c5 c6 pk
        have HB := HB1
        clear HB1
        have Bk := Ck
        clear Ck
        go_wp2
        go_ret
        exact BoolB.f (fun h => HOK.out (h.1.2.1 k x HXx.out)) HB.out
      have HOK := hidK hok
      clear hok
      by_cases hk0 : 0 < k
      rotate_left
      · have hd : decide ((0 : Int) < k) = false := by simp; omega
        have Gk : Hid (wr.heap[w.heap.size]? = some (.cells #[.slice (some ⟨b, o, none⟩) l1 y1, .slice a2 l2 y2, .slice a3 l3 y3, .slice a4 l4 y4, .slice a5 l5 y5, .int .i64 c.now] 38 (0, 0))) := Bk.out
        have HW : Hid (Below w.heap.size w wr) := HB.out
        have k0 := fun q : Wd wr => q.slot (o := 0) Gk.out rfl
        have x0 : ∀ q : Wd wr, q.w.cell? ⟨b, o + k * 7, none⟩ = some (.string x.n) := fun q => (q.cell (hb)).trans (c0)
        have x1 : ∀ q : Wd wr, q.w.cell? ⟨b, o + k * 7 + 1, none⟩ = some (.string x.z) := fun q => (q.cell (hb)).trans (c1)
        have x2 : ∀ q : Wd wr, q.w.cell? ⟨b, o + k * 7 + 2, none⟩ = some (.int .i64 x.c) := fun q => (q.cell (hb)).trans (c2)
        have x3 : ∀ q : Wd wr, q.w.cell? ⟨b, o + k * 7 + 3, none⟩ = some (.int .i64 x.s) := fun q => (q.cell (hb)).trans (c3)
        have x4 : ∀ q : Wd wr, q.w.cell? ⟨b, o + k * 7 + 4, none⟩ = some (.int .i64 x.u) := fun q => (q.cell (hb)).trans (c4)
        have x5 : ∀ q : Wd wr, q.w.cell? ⟨b, o + k * 7 + 5, none⟩ = some (.bool x.d) := fun q => (q.cell (hb)).trans (c5)
        have x6 : ∀ q : Wd wr, q.w.cell? ⟨b, o + k * 7 + 6, none⟩ = some (.slice va vl vc) := fun q => (q.cell (hb)).trans (c6)
        have hne0 := Wd.ne wr
        have HC0 := hidK (fun q : Wd wr => (snode_any x.n x.z x.c x.s x.u x.d va vl vc x.zs q.w HZx0.out HZx1.out (HTx.out.below q.b)).mono (fun _ _ h => BoolB.yes h HOK.out))
        go_wp2_with fail
        refine wp_region_wide (by kernel_rfl) (by kernel_rfl) ?_
        repeat (go_big_quiet_step (first | (go_at_call 70; exact Calls.wide (HC0.out _)) | fail))
        refine wpQuiet_nil ?_
        rintro _ ⟨q, rfl⟩
        have HB1 := upB HW q.b
        have Ck := upK Gk q.b
        clear hne0 HW HB HC0 k0 x0 x1 x2 x3 x4 x5 x6 Gk Bk c0 c1 c2 c3 c4 c5 c6 pk
        have HB := HB1
        clear HB1
        have Bk := Ck
        clear Ck
        clear hd
        go_wp2_with fail
        refine ⟨⟨k + 1, by omega, by go_num, fun j z hj hz => ?_, fun j z y hj hz hy => ?_, HB.out, Bk.out⟩, by simp [intOf]; omega⟩
        · by_cases e : j = k
          · subst e
            rw [HXx.out] at hz
            obtain rfl := Option.some.inj hz
            exact HOK.out
          · exact HQ.out j z (by omega) hz
        · by_cases e : j + 1 = k
          · exact absurd hk0 (by omega)
          · exact HO.out j z y (by omega) hz hy
      have hk0' : (0 : Int) < k := by omega
      have ek : ((k : Int) - 1).toNat = k - 1 := by omega
      obtain ⟨b', o', y, e', hb', hy, haty⟩ := nd_at (HR.out.n.below HB.out) (show k - 1 < l1 by omega)
      cases e'
      have y0 : wr.cell? ⟨b, o + (k - 1) * 7, none⟩ = some (.string y.n) := by
        obtain ⟨q, h1, h2⟩ := haty 0 _ rfl
        obtain ⟨rfl, -⟩ := h2
        exact h1
      have HXy := hidK hy
      clear hy haty
      cases hless : Op.bytesLess y.n.toList x.n.toList
      · have Gk : Hid (wr.heap[w.heap.size]? = some (.cells #[.slice (some ⟨b, o, none⟩) l1 y1, .slice a2 l2 y2, .slice a3 l3 y3, .slice a4 l4 y4, .slice a5 l5 y5, .int .i64 c.now] 38 (0, 0))) := Bk.out
        have HW : Hid (Below w.heap.size w wr) := HB.out
        have k0 := fun q : Wd wr => q.slot (o := 0) Gk.out rfl
        have x0 : ∀ q : Wd wr, q.w.cell? ⟨b, o + k * 7, none⟩ = some (.string x.n) := fun q => (q.cell (hb)).trans (c0)
        have x1 : ∀ q : Wd wr, q.w.cell? ⟨b, o + k * 7 + 1, none⟩ = some (.string x.z) := fun q => (q.cell (hb)).trans (c1)
        have x2 : ∀ q : Wd wr, q.w.cell? ⟨b, o + k * 7 + 2, none⟩ = some (.int .i64 x.c) := fun q => (q.cell (hb)).trans (c2)
        have x3 : ∀ q : Wd wr, q.w.cell? ⟨b, o + k * 7 + 3, none⟩ = some (.int .i64 x.s) := fun q => (q.cell (hb)).trans (c3)
        have x4 : ∀ q : Wd wr, q.w.cell? ⟨b, o + k * 7 + 4, none⟩ = some (.int .i64 x.u) := fun q => (q.cell (hb)).trans (c4)
        have x5 : ∀ q : Wd wr, q.w.cell? ⟨b, o + k * 7 + 5, none⟩ = some (.bool x.d) := fun q => (q.cell (hb)).trans (c5)
        have x6 : ∀ q : Wd wr, q.w.cell? ⟨b, o + k * 7 + 6, none⟩ = some (.slice va vl vc) := fun q => (q.cell (hb)).trans (c6)
        have yw : ∀ q : Wd wr, q.w.cell? ⟨b, o + (k - 1) * 7, none⟩ = some (.string y.n) := fun q => (q.cell (hb)).trans (y0)
        have hne0 := Wd.ne wr
        have HC0 := hidK (fun q : Wd wr => (snode_any x.n x.z x.c x.s x.u x.d va vl vc x.zs q.w HZx0.out HZx1.out (HTx.out.below q.b)).mono (fun _ _ h => BoolB.yes h HOK.out))
        go_wp2_with fail
        refine wp_region_wide (by kernel_rfl) (by kernel_rfl) ?_
        repeat (go_big_quiet_step (first | (go_at_call 70; exact Calls.wide (HC0.out _)) | fail))
        refine wpQuiet_nil ?_
        rintro _ ⟨q, rfl⟩
        have HB1 := upB HW q.b
        have Ck := upK Gk q.b
        clear hne0 HW HB HC0 k0 x0 x1 x2 x3 x4 x5 x6 yw Gk Bk c0 c1 c2 c3 c4 c5 c6 pk y0
        have HB := HB1
        clear HB1
        have Bk := Ck
        clear Ck
        go_wp2
        go_ret
        refine BoolB.f (fun h => ?_) HB.out
        have h3 := h.1.2.2 (k - 1) x y (by rw [Nat.sub_add_cancel hk0]; exact HXx.out) HXy.out
        rw [hless] at h3
        cases h3
      · have Gk : Hid (wr.heap[w.heap.size]? = some (.cells #[.slice (some ⟨b, o, none⟩) l1 y1, .slice a2 l2 y2, .slice a3 l3 y3, .slice a4 l4 y4, .slice a5 l5 y5, .int .i64 c.now] 38 (0, 0))) := Bk.out
        have HW : Hid (Below w.heap.size w wr) := HB.out
        have k0 := fun q : Wd wr => q.slot (o := 0) Gk.out rfl
        have x0 : ∀ q : Wd wr, q.w.cell? ⟨b, o + k * 7, none⟩ = some (.string x.n) := fun q => (q.cell (hb)).trans (c0)
        have x1 : ∀ q : Wd wr, q.w.cell? ⟨b, o + k * 7 + 1, none⟩ = some (.string x.z) := fun q => (q.cell (hb)).trans (c1)
        have x2 : ∀ q : Wd wr, q.w.cell? ⟨b, o + k * 7 + 2, none⟩ = some (.int .i64 x.c) := fun q => (q.cell (hb)).trans (c2)
        have x3 : ∀ q : Wd wr, q.w.cell? ⟨b, o + k * 7 + 3, none⟩ = some (.int .i64 x.s) := fun q => (q.cell (hb)).trans (c3)
        have x4 : ∀ q : Wd wr, q.w.cell? ⟨b, o + k * 7 + 4, none⟩ = some (.int .i64 x.u) := fun q => (q.cell (hb)).trans (c4)
        have x5 : ∀ q : Wd wr, q.w.cell? ⟨b, o + k * 7 + 5, none⟩ = some (.bool x.d) := fun q => (q.cell (hb)).trans (c5)
        have x6 : ∀ q : Wd wr, q.w.cell? ⟨b, o + k * 7 + 6, none⟩ = some (.slice va vl vc) := fun q => (q.cell (hb)).trans (c6)
        have yw : ∀ q : Wd wr, q.w.cell? ⟨b, o + (k - 1) * 7, none⟩ = some (.string y.n) := fun q => (q.cell (hb)).trans (y0)
        have hne0 := Wd.ne wr
        have HC0 := hidK (fun q : Wd wr => (snode_any x.n x.z x.c x.s x.u x.d va vl vc x.zs q.w HZx0.out HZx1.out (HTx.out.below q.b)).mono (fun _ _ h => BoolB.yes h HOK.out))
        go_wp2_with fail
        refine wp_region_wide (by kernel_rfl) (by kernel_rfl) ?_
        repeat (go_big_quiet_step (first | (go_at_call 70; exact Calls.wide (HC0.out _)) | fail))
        refine wpQuiet_nil ?_
        rintro _ ⟨q, rfl⟩
        have HB1 := upB HW q.b
        have Ck := upK Gk q.b
        clear hne0 HW HB HC0 k0 x0 x1 x2 x3 x4 x5 x6 yw Gk Bk c0 c1 c2 c3 c4 c5 c6 pk y0
        have HB := HB1
        clear HB1
        have Bk := Ck
        clear Ck
        clear hk0' ek
        go_wp2_with fail
        refine ⟨⟨k + 1, by omega, by go_num, fun j z hj hz => ?_, fun j z y hj hz hy => ?_, HB.out, Bk.out⟩, by simp [intOf]; omega⟩
        · by_cases e : j = k
          · subst e
            rw [HXx.out] at hz
            obtain rfl := Option.some.inj hz
            exact HOK.out
          · exact HQ.out j z (by omega) hz
        · by_cases e : j + 1 = k
          · have hj : j = k - 1 := by omega
            subst hj
            rw [Nat.sub_add_cancel hk0, HXx.out] at hz
            obtain rfl := Option.some.inj hz
            rw [HXy.out] at hy
            obtain rfl := Option.some.inj hy
            exact hless
          · exact HO.out j z y (by omega) hz hy
    · obtain rfl : l1 = k := by omega
      have HR1 : Hid (RowOk ndOk Nd.n c.ns 6) := ⟨by omega, fun j z hz => HQ.out j z (by have := (List.getElem?_eq_some_iff.1 hz).1; omega) hz, fun j z u hz hu => HO.out j z u (by have := (List.getElem?_eq_some_iff.1 hz).1; omega) hz hu⟩
      clear HQ HO
      skip
      have kc : wr.cell? ⟨w.heap.size, 1, none⟩ = some (.slice a2 l2 y2) := cellK Bk.out 1
      go_wp2
      go_loopw [4] (fun i wr => ∃ k : Nat, k ≤ l2 ∧ i = .int .i64 k ∧ Hid (∀ (j : Nat) z, j < k → c.ks[j]? = some z → kdOk z) ∧ Hid (∀ (j : Nat) z u, j + 1 < k → c.ks[j + 1]? = some z → c.ks[j]? = some u → Op.bytesLess u.n.toList z.n.toList = true) ∧ Hid (Below w.heap.size w wr) ∧ Hid (wr.heap[w.heap.size]? = some (.cells #[.slice a1 l1 y1, .slice a2 l2 y2, .slice a3 l3 y3, .slice a4 l4 y4, .slice a5 l5 y5, .int .i64 c.now] 38 (0, 0)))) (fun i _ => l2 - (intOf i).toNat)
      case atStart => exact ⟨0, by omega, rfl, fun _ _ h => absurd h (by omega), fun _ _ _ h => absurd h (by omega), HB.out, Bk.out⟩
      case round =>
        obtain ⟨k, hk, rfl, HQ, HO, HB, Bk⟩ := hrel
        have pk : wr.cell? ⟨w.heap.size, 1, none⟩ = some (.slice a2 l2 y2) := cellK Bk.out 1
        by_cases hlt : k < l2
        · obtain ⟨b, o, x, rfl, hb, hx, hat⟩ := kd_at (HR.out.k.below HB.out) hlt
          obtain ⟨z0, z3, c0, c1, c2, c3⟩ := kd_cells hat
          have HXx := hidK hx
          have HZx0 := hidK z0
          have HZx3 := hidK z3
          clear hat hx z0 z3
          by_cases hok : kdOk x
          rotate_left
          · have HOK := hidK hok
            clear hok
            have Gk : Hid (wr.heap[w.heap.size]? = some (.cells #[.slice a1 l1 y1, .slice (some ⟨b, o, none⟩) l2 y2, .slice a3 l3 y3, .slice a4 l4 y4, .slice a5 l5 y5, .int .i64 c.now] 38 (0, 0))) := Bk.out
            have HW : Hid (Below w.heap.size w wr) := HB.out
            have k1 := fun q : Wd wr => q.slot (o := 1) Gk.out rfl
            have x0 : ∀ q : Wd wr, q.w.cell? ⟨b, o + k * 4, none⟩ = some (.string x.n) := fun q => (q.cell (hb)).trans (c0)
            have x1 : ∀ q : Wd wr, q.w.cell? ⟨b, o + k * 4 + 1, none⟩ = some (.bool x.x) := fun q => (q.cell (hb)).trans (c1)
            have x2 : ∀ q : Wd wr, q.w.cell? ⟨b, o + k * 4 + 2, none⟩ = some (.bool x.y) := fun q => (q.cell (hb)).trans (c2)
            have x3 : ∀ q : Wd wr, q.w.cell? ⟨b, o + k * 4 + 3, none⟩ = some (.string x.z) := fun q => (q.cell (hb)).trans (c3)
            have hne0 := Wd.ne wr
            have HC0 := hidK (fun q : Wd wr => (sclass_any x.n x.z x.x x.y q.w HZx0.out HZx3.out).mono (fun _ _ h => BoolB.no h HOK.out))
            go_wp2_with fail
            refine wp_region_wide (by kernel_rfl) (by kernel_rfl) ?_
            repeat (go_big_quiet_step (first | (go_at_call 71; exact Calls.wide (HC0.out _)) | fail))
            refine wpQuiet_nil ?_
            rintro _ ⟨q, rfl⟩
            have HB1 := upB HW q.b
            have Ck := upK Gk q.b
            clear hne0 HW HB HC0 k1 x0 x1 x2 x3 Gk Bk c0 c1 c2 c3 pk
            have HB := HB1
            clear HB1
            have Bk := Ck
            clear Ck
            go_wp2
            go_ret
            exact BoolB.f (fun h => HOK.out (h.2.1.2.1 k x HXx.out)) HB.out
          have HOK := hidK hok
          clear hok
          by_cases hk0 : 0 < k
          rotate_left
          · have hd : decide ((0 : Int) < k) = false := by simp; omega
            have Gk : Hid (wr.heap[w.heap.size]? = some (.cells #[.slice a1 l1 y1, .slice (some ⟨b, o, none⟩) l2 y2, .slice a3 l3 y3, .slice a4 l4 y4, .slice a5 l5 y5, .int .i64 c.now] 38 (0, 0))) := Bk.out
            have HW : Hid (Below w.heap.size w wr) := HB.out
            have k1 := fun q : Wd wr => q.slot (o := 1) Gk.out rfl
            have x0 : ∀ q : Wd wr, q.w.cell? ⟨b, o + k * 4, none⟩ = some (.string x.n) := fun q => (q.cell (hb)).trans (c0)
            have x1 : ∀ q : Wd wr, q.w.cell? ⟨b, o + k * 4 + 1, none⟩ = some (.bool x.x) := fun q => (q.cell (hb)).trans (c1)
            have x2 : ∀ q : Wd wr, q.w.cell? ⟨b, o + k * 4 + 2, none⟩ = some (.bool x.y) := fun q => (q.cell (hb)).trans (c2)
            have x3 : ∀ q : Wd wr, q.w.cell? ⟨b, o + k * 4 + 3, none⟩ = some (.string x.z) := fun q => (q.cell (hb)).trans (c3)
            have hne0 := Wd.ne wr
            have HC0 := hidK (fun q : Wd wr => (sclass_any x.n x.z x.x x.y q.w HZx0.out HZx3.out).mono (fun _ _ h => BoolB.yes h HOK.out))
            go_wp2_with fail
            refine wp_region_wide (by kernel_rfl) (by kernel_rfl) ?_
            repeat (go_big_quiet_step (first | (go_at_call 71; exact Calls.wide (HC0.out _)) | fail))
            refine wpQuiet_nil ?_
            rintro _ ⟨q, rfl⟩
            have HB1 := upB HW q.b
            have Ck := upK Gk q.b
            clear hne0 HW HB HC0 k1 x0 x1 x2 x3 Gk Bk c0 c1 c2 c3 pk
            have HB := HB1
            clear HB1
            have Bk := Ck
            clear Ck
            clear hd
            go_wp2_with fail
            refine ⟨⟨k + 1, by omega, by go_num, fun j z hj hz => ?_, fun j z y hj hz hy => ?_, HB.out, Bk.out⟩, by simp [intOf]; omega⟩
            · by_cases e : j = k
              · subst e
                rw [HXx.out] at hz
                obtain rfl := Option.some.inj hz
                exact HOK.out
              · exact HQ.out j z (by omega) hz
            · by_cases e : j + 1 = k
              · exact absurd hk0 (by omega)
              · exact HO.out j z y (by omega) hz hy
          have hk0' : (0 : Int) < k := by omega
          have ek : ((k : Int) - 1).toNat = k - 1 := by omega
          obtain ⟨b', o', y, e', hb', hy, haty⟩ := kd_at (HR.out.k.below HB.out) (show k - 1 < l2 by omega)
          cases e'
          have y0 : wr.cell? ⟨b, o + (k - 1) * 4, none⟩ = some (.string y.n) := by
            obtain ⟨q, h1, h2⟩ := haty 0 _ rfl
            obtain ⟨rfl, -⟩ := h2
            exact h1
          have HXy := hidK hy
          clear hy haty
          cases hless : Op.bytesLess y.n.toList x.n.toList
          · have Gk : Hid (wr.heap[w.heap.size]? = some (.cells #[.slice a1 l1 y1, .slice (some ⟨b, o, none⟩) l2 y2, .slice a3 l3 y3, .slice a4 l4 y4, .slice a5 l5 y5, .int .i64 c.now] 38 (0, 0))) := Bk.out
            have HW : Hid (Below w.heap.size w wr) := HB.out
            have k1 := fun q : Wd wr => q.slot (o := 1) Gk.out rfl
            have x0 : ∀ q : Wd wr, q.w.cell? ⟨b, o + k * 4, none⟩ = some (.string x.n) := fun q => (q.cell (hb)).trans (c0)
            have x1 : ∀ q : Wd wr, q.w.cell? ⟨b, o + k * 4 + 1, none⟩ = some (.bool x.x) := fun q => (q.cell (hb)).trans (c1)
            have x2 : ∀ q : Wd wr, q.w.cell? ⟨b, o + k * 4 + 2, none⟩ = some (.bool x.y) := fun q => (q.cell (hb)).trans (c2)
            have x3 : ∀ q : Wd wr, q.w.cell? ⟨b, o + k * 4 + 3, none⟩ = some (.string x.z) := fun q => (q.cell (hb)).trans (c3)
            have yw : ∀ q : Wd wr, q.w.cell? ⟨b, o + (k - 1) * 4, none⟩ = some (.string y.n) := fun q => (q.cell (hb)).trans (y0)
            have hne0 := Wd.ne wr
            have HC0 := hidK (fun q : Wd wr => (sclass_any x.n x.z x.x x.y q.w HZx0.out HZx3.out).mono (fun _ _ h => BoolB.yes h HOK.out))
            go_wp2_with fail
            refine wp_region_wide (by kernel_rfl) (by kernel_rfl) ?_
            repeat (go_big_quiet_step (first | (go_at_call 71; exact Calls.wide (HC0.out _)) | fail))
            refine wpQuiet_nil ?_
            rintro _ ⟨q, rfl⟩
            have HB1 := upB HW q.b
            have Ck := upK Gk q.b
            clear hne0 HW HB HC0 k1 x0 x1 x2 x3 yw Gk Bk c0 c1 c2 c3 pk y0
            have HB := HB1
            clear HB1
            have Bk := Ck
            clear Ck
            go_wp2
            go_ret
            refine BoolB.f (fun h => ?_) HB.out
            have h3 := h.2.1.2.2 (k - 1) x y (by rw [Nat.sub_add_cancel hk0]; exact HXx.out) HXy.out
            rw [hless] at h3
            cases h3
          · have Gk : Hid (wr.heap[w.heap.size]? = some (.cells #[.slice a1 l1 y1, .slice (some ⟨b, o, none⟩) l2 y2, .slice a3 l3 y3, .slice a4 l4 y4, .slice a5 l5 y5, .int .i64 c.now] 38 (0, 0))) := Bk.out
            have HW : Hid (Below w.heap.size w wr) := HB.out
            have k1 := fun q : Wd wr => q.slot (o := 1) Gk.out rfl
            have x0 : ∀ q : Wd wr, q.w.cell? ⟨b, o + k * 4, none⟩ = some (.string x.n) := fun q => (q.cell (hb)).trans (c0)
            have x1 : ∀ q : Wd wr, q.w.cell? ⟨b, o + k * 4 + 1, none⟩ = some (.bool x.x) := fun q => (q.cell (hb)).trans (c1)
            have x2 : ∀ q : Wd wr, q.w.cell? ⟨b, o + k * 4 + 2, none⟩ = some (.bool x.y) := fun q => (q.cell (hb)).trans (c2)
            have x3 : ∀ q : Wd wr, q.w.cell? ⟨b, o + k * 4 + 3, none⟩ = some (.string x.z) := fun q => (q.cell (hb)).trans (c3)
            have yw : ∀ q : Wd wr, q.w.cell? ⟨b, o + (k - 1) * 4, none⟩ = some (.string y.n) := fun q => (q.cell (hb)).trans (y0)
            have hne0 := Wd.ne wr
            have HC0 := hidK (fun q : Wd wr => (sclass_any x.n x.z x.x x.y q.w HZx0.out HZx3.out).mono (fun _ _ h => BoolB.yes h HOK.out))
            go_wp2_with fail
            refine wp_region_wide (by kernel_rfl) (by kernel_rfl) ?_
            repeat (go_big_quiet_step (first | (go_at_call 71; exact Calls.wide (HC0.out _)) | fail))
            refine wpQuiet_nil ?_
            rintro _ ⟨q, rfl⟩
            have HB1 := upB HW q.b
            have Ck := upK Gk q.b
            clear hne0 HW HB HC0 k1 x0 x1 x2 x3 yw Gk Bk c0 c1 c2 c3 pk y0
            have HB := HB1
            clear HB1
            have Bk := Ck
            clear Ck
            clear hk0' ek
            go_wp2_with fail
            refine ⟨⟨k + 1, by omega, by go_num, fun j z hj hz => ?_, fun j z y hj hz hy => ?_, HB.out, Bk.out⟩, by simp [intOf]; omega⟩
            · by_cases e : j = k
              · subst e
                rw [HXx.out] at hz
                obtain rfl := Option.some.inj hz
                exact HOK.out
              · exact HQ.out j z (by omega) hz
            · by_cases e : j + 1 = k
              · have hj : j = k - 1 := by omega
                subst hj
                rw [Nat.sub_add_cancel hk0, HXx.out] at hz
                obtain rfl := Option.some.inj hz
                rw [HXy.out] at hy
                obtain rfl := Option.some.inj hy
                exact hless
              · exact HO.out j z y (by omega) hz hy
        · obtain rfl : l2 = k := by omega
          have HR2 : Hid (RowOk kdOk Kd.n c.ks 8) := ⟨by omega, fun j z hz => HQ.out j z (by have := (List.getElem?_eq_some_iff.1 hz).1; omega) hz, fun j z u hz hu => HO.out j z u (by have := (List.getElem?_eq_some_iff.1 hz).1; omega) hz hu⟩
          clear HQ HO
          skip
          have kc : wr.cell? ⟨w.heap.size, 2, none⟩ = some (.slice a3 l3 y3) := cellK Bk.out 2
          go_wp2
          go_loopw [5] (fun i wr => ∃ k : Nat, k ≤ l3 ∧ i = .int .i64 k ∧ Hid (∀ (j : Nat) z, j < k → c.vs[j]? = some z → vdOk z) ∧ Hid (∀ (j : Nat) z u, j + 1 < k → c.vs[j + 1]? = some z → c.vs[j]? = some u → Op.bytesLess u.n.toList z.n.toList = true) ∧ Hid (Below w.heap.size w wr) ∧ Hid (wr.heap[w.heap.size]? = some (.cells #[.slice a1 l1 y1, .slice a2 l2 y2, .slice a3 l3 y3, .slice a4 l4 y4, .slice a5 l5 y5, .int .i64 c.now] 38 (0, 0)))) (fun i _ => l3 - (intOf i).toNat)
          case atStart => exact ⟨0, by omega, rfl, fun _ _ h => absurd h (by omega), fun _ _ _ h => absurd h (by omega), HB.out, Bk.out⟩
          case round =>
            obtain ⟨k, hk, rfl, HQ, HO, HB, Bk⟩ := hrel
            have pk : wr.cell? ⟨w.heap.size, 2, none⟩ = some (.slice a3 l3 y3) := cellK Bk.out 2
            by_cases hlt : k < l3
            · obtain ⟨b, o, x, rfl, hb, hx, hat⟩ := vd_at (HR.out.v.below HB.out) hlt
              obtain ⟨va, vl, vc, hvr, z0, z2, z3, z5, c0, c1, c2, c3, c4, c5, c6, c7⟩ := vd_cells hat
              have HXx := hidK hx
              have HTx := hidK hvr
              have HZx0 := hidK z0
              have HZx2 := hidK z2
              have HZx3 := hidK z3
              have HZx5 := hidK z5
              clear hat hx z0 z2 z3 z5 hvr
              by_cases hok : vdOk x
              rotate_left
              · have HOK := hidK hok
                clear hok
                have Gk : Hid (wr.heap[w.heap.size]? = some (.cells #[.slice a1 l1 y1, .slice a2 l2 y2, .slice (some ⟨b, o, none⟩) l3 y3, .slice a4 l4 y4, .slice a5 l5 y5, .int .i64 c.now] 38 (0, 0))) := Bk.out
                have HW : Hid (Below w.heap.size w wr) := HB.out
                have k2 := fun q : Wd wr => q.slot (o := 2) Gk.out rfl
                have x0 : ∀ q : Wd wr, q.w.cell? ⟨b, o + k * 8, none⟩ = some (.string x.n) := fun q => (q.cell (hb)).trans (c0)
                have x1 : ∀ q : Wd wr, q.w.cell? ⟨b, o + k * 8 + 1, none⟩ = some (.int .i64 x.c) := fun q => (q.cell (hb)).trans (c1)
                have x2 : ∀ q : Wd wr, q.w.cell? ⟨b, o + k * 8 + 2, none⟩ = some (.string x.z) := fun q => (q.cell (hb)).trans (c2)
                have x3 : ∀ q : Wd wr, q.w.cell? ⟨b, o + k * 8 + 3, none⟩ = some (.string x.k) := fun q => (q.cell (hb)).trans (c3)
                have x4 : ∀ q : Wd wr, q.w.cell? ⟨b, o + k * 8 + 4, none⟩ = some (.bool x.x) := fun q => (q.cell (hb)).trans (c4)
                have x5 : ∀ q : Wd wr, q.w.cell? ⟨b, o + k * 8 + 5, none⟩ = some (.string x.m) := fun q => (q.cell (hb)).trans (c5)
                have x6 : ∀ q : Wd wr, q.w.cell? ⟨b, o + k * 8 + 6, none⟩ = some (.bool x.y) := fun q => (q.cell (hb)).trans (c6)
                have x7 : ∀ q : Wd wr, q.w.cell? ⟨b, o + k * 8 + 7, none⟩ = some (.slice va vl vc) := fun q => (q.cell (hb)).trans (c7)
                have hne0 := Wd.ne wr
                have HC0 := hidK (fun q : Wd wr => (svol_any x.n x.c x.z x.k x.x x.m x.y va vl vc x.zs q.w HZx0.out HZx2.out HZx3.out HZx5.out (HTx.out.below q.b)).mono (fun _ _ h => BoolB.no h HOK.out))
                go_wp2_with fail
                refine wp_region_wide (by kernel_rfl) (by kernel_rfl) ?_
                repeat (go_big_quiet_step (first | (go_at_call 72; exact Calls.wide (HC0.out _)) | fail))
                refine wpQuiet_nil ?_
                rintro _ ⟨q, rfl⟩
                have HB1 := upB HW q.b
                have Ck := upK Gk q.b
                clear hne0 HW HB HC0 k2 x0 x1 x2 x3 x4 x5 x6 x7 Gk Bk c0 c1 c2 c3 c4 c5 c6 c7 pk
                have HB := HB1
                clear HB1
                have Bk := Ck
                clear Ck
                go_wp2
                go_ret
                exact BoolB.f (fun h => HOK.out (h.2.2.1.2.1 k x HXx.out)) HB.out
              have HOK := hidK hok
              clear hok
              by_cases hk0 : 0 < k
              rotate_left
              · have hd : decide ((0 : Int) < k) = false := by simp; omega
                have Gk : Hid (wr.heap[w.heap.size]? = some (.cells #[.slice a1 l1 y1, .slice a2 l2 y2, .slice (some ⟨b, o, none⟩) l3 y3, .slice a4 l4 y4, .slice a5 l5 y5, .int .i64 c.now] 38 (0, 0))) := Bk.out
                have HW : Hid (Below w.heap.size w wr) := HB.out
                have k2 := fun q : Wd wr => q.slot (o := 2) Gk.out rfl
                have x0 : ∀ q : Wd wr, q.w.cell? ⟨b, o + k * 8, none⟩ = some (.string x.n) := fun q => (q.cell (hb)).trans (c0)
                have x1 : ∀ q : Wd wr, q.w.cell? ⟨b, o + k * 8 + 1, none⟩ = some (.int .i64 x.c) := fun q => (q.cell (hb)).trans (c1)
                have x2 : ∀ q : Wd wr, q.w.cell? ⟨b, o + k * 8 + 2, none⟩ = some (.string x.z) := fun q => (q.cell (hb)).trans (c2)
                have x3 : ∀ q : Wd wr, q.w.cell? ⟨b, o + k * 8 + 3, none⟩ = some (.string x.k) := fun q => (q.cell (hb)).trans (c3)
                have x4 : ∀ q : Wd wr, q.w.cell? ⟨b, o + k * 8 + 4, none⟩ = some (.bool x.x) := fun q => (q.cell (hb)).trans (c4)
                have x5 : ∀ q : Wd wr, q.w.cell? ⟨b, o + k * 8 + 5, none⟩ = some (.string x.m) := fun q => (q.cell (hb)).trans (c5)
                have x6 : ∀ q : Wd wr, q.w.cell? ⟨b, o + k * 8 + 6, none⟩ = some (.bool x.y) := fun q => (q.cell (hb)).trans (c6)
                have x7 : ∀ q : Wd wr, q.w.cell? ⟨b, o + k * 8 + 7, none⟩ = some (.slice va vl vc) := fun q => (q.cell (hb)).trans (c7)
                have hne0 := Wd.ne wr
                have HC0 := hidK (fun q : Wd wr => (svol_any x.n x.c x.z x.k x.x x.m x.y va vl vc x.zs q.w HZx0.out HZx2.out HZx3.out HZx5.out (HTx.out.below q.b)).mono (fun _ _ h => BoolB.yes h HOK.out))
                go_wp2_with fail
                refine wp_region_wide (by kernel_rfl) (by kernel_rfl) ?_
                repeat (go_big_quiet_step (first | (go_at_call 72; exact Calls.wide (HC0.out _)) | fail))
                refine wpQuiet_nil ?_
                rintro _ ⟨q, rfl⟩
                have HB1 := upB HW q.b
                have Ck := upK Gk q.b
                clear hne0 HW HB HC0 k2 x0 x1 x2 x3 x4 x5 x6 x7 Gk Bk c0 c1 c2 c3 c4 c5 c6 c7 pk
                have HB := HB1
                clear HB1
                have Bk := Ck
                clear Ck
                clear hd
                go_wp2_with fail
                refine ⟨⟨k + 1, by omega, by go_num, fun j z hj hz => ?_, fun j z y hj hz hy => ?_, HB.out, Bk.out⟩, by simp [intOf]; omega⟩
                · by_cases e : j = k
                  · subst e
                    rw [HXx.out] at hz
                    obtain rfl := Option.some.inj hz
                    exact HOK.out
                  · exact HQ.out j z (by omega) hz
                · by_cases e : j + 1 = k
                  · exact absurd hk0 (by omega)
                  · exact HO.out j z y (by omega) hz hy
              have hk0' : (0 : Int) < k := by omega
              have ek : ((k : Int) - 1).toNat = k - 1 := by omega
              obtain ⟨b', o', y, e', hb', hy, haty⟩ := vd_at (HR.out.v.below HB.out) (show k - 1 < l3 by omega)
              cases e'
              have y0 : wr.cell? ⟨b, o + (k - 1) * 8, none⟩ = some (.string y.n) := by
                obtain ⟨q, h1, h2⟩ := haty 0 _ rfl
                obtain ⟨rfl, -⟩ := h2
                exact h1
              have HXy := hidK hy
              clear hy haty
              cases hless : Op.bytesLess y.n.toList x.n.toList
              · have Gk : Hid (wr.heap[w.heap.size]? = some (.cells #[.slice a1 l1 y1, .slice a2 l2 y2, .slice (some ⟨b, o, none⟩) l3 y3, .slice a4 l4 y4, .slice a5 l5 y5, .int .i64 c.now] 38 (0, 0))) := Bk.out
                have HW : Hid (Below w.heap.size w wr) := HB.out
                have k2 := fun q : Wd wr => q.slot (o := 2) Gk.out rfl
                have x0 : ∀ q : Wd wr, q.w.cell? ⟨b, o + k * 8, none⟩ = some (.string x.n) := fun q => (q.cell (hb)).trans (c0)
                have x1 : ∀ q : Wd wr, q.w.cell? ⟨b, o + k * 8 + 1, none⟩ = some (.int .i64 x.c) := fun q => (q.cell (hb)).trans (c1)
                have x2 : ∀ q : Wd wr, q.w.cell? ⟨b, o + k * 8 + 2, none⟩ = some (.string x.z) := fun q => (q.cell (hb)).trans (c2)
                have x3 : ∀ q : Wd wr, q.w.cell? ⟨b, o + k * 8 + 3, none⟩ = some (.string x.k) := fun q => (q.cell (hb)).trans (c3)
                have x4 : ∀ q : Wd wr, q.w.cell? ⟨b, o + k * 8 + 4, none⟩ = some (.bool x.x) := fun q => (q.cell (hb)).trans (c4)
                have x5 : ∀ q : Wd wr, q.w.cell? ⟨b, o + k * 8 + 5, none⟩ = some (.string x.m) := fun q => (q.cell (hb)).trans (c5)
                have x6 : ∀ q : Wd wr, q.w.cell? ⟨b, o + k * 8 + 6, none⟩ = some (.bool x.y) := fun q => (q.cell (hb)).trans (c6)
                have x7 : ∀ q : Wd wr, q.w.cell? ⟨b, o + k * 8 + 7, none⟩ = some (.slice va vl vc) := fun q => (q.cell (hb)).trans (c7)
                have yw : ∀ q : Wd wr, q.w.cell? ⟨b, o + (k - 1) * 8, none⟩ = some (.string y.n) := fun q => (q.cell (hb)).trans (y0)
                have hne0 := Wd.ne wr
                have HC0 := hidK (fun q : Wd wr => (svol_any x.n x.c x.z x.k x.x x.m x.y va vl vc x.zs q.w HZx0.out HZx2.out HZx3.out HZx5.out (HTx.out.below q.b)).mono (fun _ _ h => BoolB.yes h HOK.out))
                go_wp2_with fail
                refine wp_region_wide (by kernel_rfl) (by kernel_rfl) ?_
                repeat (go_big_quiet_step (first | (go_at_call 72; exact Calls.wide (HC0.out _)) | fail))
                refine wpQuiet_nil ?_
                rintro _ ⟨q, rfl⟩
                have HB1 := upB HW q.b
                have Ck := upK Gk q.b
                clear hne0 HW HB HC0 k2 x0 x1 x2 x3 x4 x5 x6 x7 yw Gk Bk c0 c1 c2 c3 c4 c5 c6 c7 pk y0
                have HB := HB1
                clear HB1
                have Bk := Ck
                clear Ck
                go_wp2
                go_ret
                refine BoolB.f (fun h => ?_) HB.out
                have h3 := h.2.2.1.2.2 (k - 1) x y (by rw [Nat.sub_add_cancel hk0]; exact HXx.out) HXy.out
                rw [hless] at h3
                cases h3
              · have Gk : Hid (wr.heap[w.heap.size]? = some (.cells #[.slice a1 l1 y1, .slice a2 l2 y2, .slice (some ⟨b, o, none⟩) l3 y3, .slice a4 l4 y4, .slice a5 l5 y5, .int .i64 c.now] 38 (0, 0))) := Bk.out
                have HW : Hid (Below w.heap.size w wr) := HB.out
                have k2 := fun q : Wd wr => q.slot (o := 2) Gk.out rfl
                have x0 : ∀ q : Wd wr, q.w.cell? ⟨b, o + k * 8, none⟩ = some (.string x.n) := fun q => (q.cell (hb)).trans (c0)
                have x1 : ∀ q : Wd wr, q.w.cell? ⟨b, o + k * 8 + 1, none⟩ = some (.int .i64 x.c) := fun q => (q.cell (hb)).trans (c1)
                have x2 : ∀ q : Wd wr, q.w.cell? ⟨b, o + k * 8 + 2, none⟩ = some (.string x.z) := fun q => (q.cell (hb)).trans (c2)
                have x3 : ∀ q : Wd wr, q.w.cell? ⟨b, o + k * 8 + 3, none⟩ = some (.string x.k) := fun q => (q.cell (hb)).trans (c3)
                have x4 : ∀ q : Wd wr, q.w.cell? ⟨b, o + k * 8 + 4, none⟩ = some (.bool x.x) := fun q => (q.cell (hb)).trans (c4)
                have x5 : ∀ q : Wd wr, q.w.cell? ⟨b, o + k * 8 + 5, none⟩ = some (.string x.m) := fun q => (q.cell (hb)).trans (c5)
                have x6 : ∀ q : Wd wr, q.w.cell? ⟨b, o + k * 8 + 6, none⟩ = some (.bool x.y) := fun q => (q.cell (hb)).trans (c6)
                have x7 : ∀ q : Wd wr, q.w.cell? ⟨b, o + k * 8 + 7, none⟩ = some (.slice va vl vc) := fun q => (q.cell (hb)).trans (c7)
                have yw : ∀ q : Wd wr, q.w.cell? ⟨b, o + (k - 1) * 8, none⟩ = some (.string y.n) := fun q => (q.cell (hb)).trans (y0)
                have hne0 := Wd.ne wr
                have HC0 := hidK (fun q : Wd wr => (svol_any x.n x.c x.z x.k x.x x.m x.y va vl vc x.zs q.w HZx0.out HZx2.out HZx3.out HZx5.out (HTx.out.below q.b)).mono (fun _ _ h => BoolB.yes h HOK.out))
                go_wp2_with fail
                refine wp_region_wide (by kernel_rfl) (by kernel_rfl) ?_
                repeat (go_big_quiet_step (first | (go_at_call 72; exact Calls.wide (HC0.out _)) | fail))
                refine wpQuiet_nil ?_
                rintro _ ⟨q, rfl⟩
                have HB1 := upB HW q.b
                have Ck := upK Gk q.b
                clear hne0 HW HB HC0 k2 x0 x1 x2 x3 x4 x5 x6 x7 yw Gk Bk c0 c1 c2 c3 c4 c5 c6 c7 pk y0
                have HB := HB1
                clear HB1
                have Bk := Ck
                clear Ck
                clear hk0' ek
                go_wp2_with fail
                refine ⟨⟨k + 1, by omega, by go_num, fun j z hj hz => ?_, fun j z y hj hz hy => ?_, HB.out, Bk.out⟩, by simp [intOf]; omega⟩
                · by_cases e : j = k
                  · subst e
                    rw [HXx.out] at hz
                    obtain rfl := Option.some.inj hz
                    exact HOK.out
                  · exact HQ.out j z (by omega) hz
                · by_cases e : j + 1 = k
                  · have hj : j = k - 1 := by omega
                    subst hj
                    rw [Nat.sub_add_cancel hk0, HXx.out] at hz
                    obtain rfl := Option.some.inj hz
                    rw [HXy.out] at hy
                    obtain rfl := Option.some.inj hy
                    exact hless
                  · exact HO.out j z y (by omega) hz hy
            · obtain rfl : l3 = k := by omega
              have HR3 : Hid (RowOk vdOk Vd.n c.vs 8) := ⟨by omega, fun j z hz => HQ.out j z (by have := (List.getElem?_eq_some_iff.1 hz).1; omega) hz, fun j z u hz hu => HO.out j z u (by have := (List.getElem?_eq_some_iff.1 hz).1; omega) hz hu⟩
              clear HQ HO
              skip
              have kc : wr.cell? ⟨w.heap.size, 3, none⟩ = some (.slice a4 l4 y4) := cellK Bk.out 3
              go_wp2
              go_loopw [6] (fun i wr => ∃ k : Nat, k ≤ l4 ∧ i = .int .i64 k ∧ Hid (∀ (j : Nat) z, j < k → c.xs[j]? = some z → xdOk z) ∧ Hid (∀ (j : Nat) z u, j + 1 < k → c.xs[j + 1]? = some z → c.xs[j]? = some u → Op.bytesLess u.n.toList z.n.toList = true) ∧ Hid (Below w.heap.size w wr) ∧ Hid (wr.heap[w.heap.size]? = some (.cells #[.slice a1 l1 y1, .slice a2 l2 y2, .slice a3 l3 y3, .slice a4 l4 y4, .slice a5 l5 y5, .int .i64 c.now] 38 (0, 0)))) (fun i _ => l4 - (intOf i).toNat)
              case atStart => exact ⟨0, by omega, rfl, fun _ _ h => absurd h (by omega), fun _ _ _ h => absurd h (by omega), HB.out, Bk.out⟩
              case round =>
                obtain ⟨k, hk, rfl, HQ, HO, HB, Bk⟩ := hrel
                have pk : wr.cell? ⟨w.heap.size, 3, none⟩ = some (.slice a4 l4 y4) := cellK Bk.out 3
                by_cases hlt : k < l4
                · obtain ⟨b, o, x, rfl, hb, hx, hat⟩ := xd_at (HR.out.x.below HB.out) hlt
                  obtain ⟨z0, z2, z4, c0, c1, c2, c3, c4⟩ := xd_cells hat
                  have HXx := hidK hx
                  have HZx0 := hidK z0
                  have HZx2 := hidK z2
                  have HZx4 := hidK z4
                  clear hat hx z0 z2 z4
                  by_cases hok : xdOk x
                  rotate_left
                  · have HOK := hidK hok
                    clear hok
                    have Gk : Hid (wr.heap[w.heap.size]? = some (.cells #[.slice a1 l1 y1, .slice a2 l2 y2, .slice a3 l3 y3, .slice (some ⟨b, o, none⟩) l4 y4, .slice a5 l5 y5, .int .i64 c.now] 38 (0, 0))) := Bk.out
                    have HW : Hid (Below w.heap.size w wr) := HB.out
                    have k3 := fun q : Wd wr => q.slot (o := 3) Gk.out rfl
                    have x0 : ∀ q : Wd wr, q.w.cell? ⟨b, o + k * 5, none⟩ = some (.string x.n) := fun q => (q.cell (hb)).trans (c0)
                    have x1 : ∀ q : Wd wr, q.w.cell? ⟨b, o + k * 5 + 1, none⟩ = some (.int .i64 x.z) := fun q => (q.cell (hb)).trans (c1)
                    have x2 : ∀ q : Wd wr, q.w.cell? ⟨b, o + k * 5 + 2, none⟩ = some (.string x.k) := fun q => (q.cell (hb)).trans (c2)
                    have x3 : ∀ q : Wd wr, q.w.cell? ⟨b, o + k * 5 + 3, none⟩ = some (.bool x.x) := fun q => (q.cell (hb)).trans (c3)
                    have x4 : ∀ q : Wd wr, q.w.cell? ⟨b, o + k * 5 + 4, none⟩ = some (.string x.v) := fun q => (q.cell (hb)).trans (c4)
                    have hne0 := Wd.ne wr
                    have HC0 := hidK (fun q : Wd wr => (sclaim_any x.n x.z x.k x.x x.v q.w HZx0.out HZx2.out HZx4.out).mono (fun _ _ h => BoolB.no h HOK.out))
                    go_wp2_with fail
                    refine wp_region_wide (by kernel_rfl) (by kernel_rfl) ?_
                    repeat (go_big_quiet_step (first | (go_at_call 73; exact Calls.wide (HC0.out _)) | fail))
                    refine wpQuiet_nil ?_
                    rintro _ ⟨q, rfl⟩
                    have HB1 := upB HW q.b
                    have Ck := upK Gk q.b
                    clear hne0 HW HB HC0 k3 x0 x1 x2 x3 x4 Gk Bk c0 c1 c2 c3 c4 pk
                    have HB := HB1
                    clear HB1
                    have Bk := Ck
                    clear Ck
                    go_wp2
                    go_ret
                    exact BoolB.f (fun h => HOK.out (h.2.2.2.1.2.1 k x HXx.out)) HB.out
                  have HOK := hidK hok
                  clear hok
                  by_cases hk0 : 0 < k
                  rotate_left
                  · have hd : decide ((0 : Int) < k) = false := by simp; omega
                    have Gk : Hid (wr.heap[w.heap.size]? = some (.cells #[.slice a1 l1 y1, .slice a2 l2 y2, .slice a3 l3 y3, .slice (some ⟨b, o, none⟩) l4 y4, .slice a5 l5 y5, .int .i64 c.now] 38 (0, 0))) := Bk.out
                    have HW : Hid (Below w.heap.size w wr) := HB.out
                    have k3 := fun q : Wd wr => q.slot (o := 3) Gk.out rfl
                    have x0 : ∀ q : Wd wr, q.w.cell? ⟨b, o + k * 5, none⟩ = some (.string x.n) := fun q => (q.cell (hb)).trans (c0)
                    have x1 : ∀ q : Wd wr, q.w.cell? ⟨b, o + k * 5 + 1, none⟩ = some (.int .i64 x.z) := fun q => (q.cell (hb)).trans (c1)
                    have x2 : ∀ q : Wd wr, q.w.cell? ⟨b, o + k * 5 + 2, none⟩ = some (.string x.k) := fun q => (q.cell (hb)).trans (c2)
                    have x3 : ∀ q : Wd wr, q.w.cell? ⟨b, o + k * 5 + 3, none⟩ = some (.bool x.x) := fun q => (q.cell (hb)).trans (c3)
                    have x4 : ∀ q : Wd wr, q.w.cell? ⟨b, o + k * 5 + 4, none⟩ = some (.string x.v) := fun q => (q.cell (hb)).trans (c4)
                    have hne0 := Wd.ne wr
                    have HC0 := hidK (fun q : Wd wr => (sclaim_any x.n x.z x.k x.x x.v q.w HZx0.out HZx2.out HZx4.out).mono (fun _ _ h => BoolB.yes h HOK.out))
                    go_wp2_with fail
                    refine wp_region_wide (by kernel_rfl) (by kernel_rfl) ?_
                    repeat (go_big_quiet_step (first | (go_at_call 73; exact Calls.wide (HC0.out _)) | fail))
                    refine wpQuiet_nil ?_
                    rintro _ ⟨q, rfl⟩
                    have HB1 := upB HW q.b
                    have Ck := upK Gk q.b
                    clear hne0 HW HB HC0 k3 x0 x1 x2 x3 x4 Gk Bk c0 c1 c2 c3 c4 pk
                    have HB := HB1
                    clear HB1
                    have Bk := Ck
                    clear Ck
                    clear hd
                    go_wp2_with fail
                    refine ⟨⟨k + 1, by omega, by go_num, fun j z hj hz => ?_, fun j z y hj hz hy => ?_, HB.out, Bk.out⟩, by simp [intOf]; omega⟩
                    · by_cases e : j = k
                      · subst e
                        rw [HXx.out] at hz
                        obtain rfl := Option.some.inj hz
                        exact HOK.out
                      · exact HQ.out j z (by omega) hz
                    · by_cases e : j + 1 = k
                      · exact absurd hk0 (by omega)
                      · exact HO.out j z y (by omega) hz hy
                  have hk0' : (0 : Int) < k := by omega
                  have ek : ((k : Int) - 1).toNat = k - 1 := by omega
                  obtain ⟨b', o', y, e', hb', hy, haty⟩ := xd_at (HR.out.x.below HB.out) (show k - 1 < l4 by omega)
                  cases e'
                  have y0 : wr.cell? ⟨b, o + (k - 1) * 5, none⟩ = some (.string y.n) := by
                    obtain ⟨q, h1, h2⟩ := haty 0 _ rfl
                    obtain ⟨rfl, -⟩ := h2
                    exact h1
                  have HXy := hidK hy
                  clear hy haty
                  cases hless : Op.bytesLess y.n.toList x.n.toList
                  · have Gk : Hid (wr.heap[w.heap.size]? = some (.cells #[.slice a1 l1 y1, .slice a2 l2 y2, .slice a3 l3 y3, .slice (some ⟨b, o, none⟩) l4 y4, .slice a5 l5 y5, .int .i64 c.now] 38 (0, 0))) := Bk.out
                    have HW : Hid (Below w.heap.size w wr) := HB.out
                    have k3 := fun q : Wd wr => q.slot (o := 3) Gk.out rfl
                    have x0 : ∀ q : Wd wr, q.w.cell? ⟨b, o + k * 5, none⟩ = some (.string x.n) := fun q => (q.cell (hb)).trans (c0)
                    have x1 : ∀ q : Wd wr, q.w.cell? ⟨b, o + k * 5 + 1, none⟩ = some (.int .i64 x.z) := fun q => (q.cell (hb)).trans (c1)
                    have x2 : ∀ q : Wd wr, q.w.cell? ⟨b, o + k * 5 + 2, none⟩ = some (.string x.k) := fun q => (q.cell (hb)).trans (c2)
                    have x3 : ∀ q : Wd wr, q.w.cell? ⟨b, o + k * 5 + 3, none⟩ = some (.bool x.x) := fun q => (q.cell (hb)).trans (c3)
                    have x4 : ∀ q : Wd wr, q.w.cell? ⟨b, o + k * 5 + 4, none⟩ = some (.string x.v) := fun q => (q.cell (hb)).trans (c4)
                    have yw : ∀ q : Wd wr, q.w.cell? ⟨b, o + (k - 1) * 5, none⟩ = some (.string y.n) := fun q => (q.cell (hb)).trans (y0)
                    have hne0 := Wd.ne wr
                    have HC0 := hidK (fun q : Wd wr => (sclaim_any x.n x.z x.k x.x x.v q.w HZx0.out HZx2.out HZx4.out).mono (fun _ _ h => BoolB.yes h HOK.out))
                    go_wp2_with fail
                    refine wp_region_wide (by kernel_rfl) (by kernel_rfl) ?_
                    repeat (go_big_quiet_step (first | (go_at_call 73; exact Calls.wide (HC0.out _)) | fail))
                    refine wpQuiet_nil ?_
                    rintro _ ⟨q, rfl⟩
                    have HB1 := upB HW q.b
                    have Ck := upK Gk q.b
                    clear hne0 HW HB HC0 k3 x0 x1 x2 x3 x4 yw Gk Bk c0 c1 c2 c3 c4 pk y0
                    have HB := HB1
                    clear HB1
                    have Bk := Ck
                    clear Ck
                    go_wp2
                    go_ret
                    refine BoolB.f (fun h => ?_) HB.out
                    have h3 := h.2.2.2.1.2.2 (k - 1) x y (by rw [Nat.sub_add_cancel hk0]; exact HXx.out) HXy.out
                    rw [hless] at h3
                    cases h3
                  · have Gk : Hid (wr.heap[w.heap.size]? = some (.cells #[.slice a1 l1 y1, .slice a2 l2 y2, .slice a3 l3 y3, .slice (some ⟨b, o, none⟩) l4 y4, .slice a5 l5 y5, .int .i64 c.now] 38 (0, 0))) := Bk.out
                    have HW : Hid (Below w.heap.size w wr) := HB.out
                    have k3 := fun q : Wd wr => q.slot (o := 3) Gk.out rfl
                    have x0 : ∀ q : Wd wr, q.w.cell? ⟨b, o + k * 5, none⟩ = some (.string x.n) := fun q => (q.cell (hb)).trans (c0)
                    have x1 : ∀ q : Wd wr, q.w.cell? ⟨b, o + k * 5 + 1, none⟩ = some (.int .i64 x.z) := fun q => (q.cell (hb)).trans (c1)
                    have x2 : ∀ q : Wd wr, q.w.cell? ⟨b, o + k * 5 + 2, none⟩ = some (.string x.k) := fun q => (q.cell (hb)).trans (c2)
                    have x3 : ∀ q : Wd wr, q.w.cell? ⟨b, o + k * 5 + 3, none⟩ = some (.bool x.x) := fun q => (q.cell (hb)).trans (c3)
                    have x4 : ∀ q : Wd wr, q.w.cell? ⟨b, o + k * 5 + 4, none⟩ = some (.string x.v) := fun q => (q.cell (hb)).trans (c4)
                    have yw : ∀ q : Wd wr, q.w.cell? ⟨b, o + (k - 1) * 5, none⟩ = some (.string y.n) := fun q => (q.cell (hb)).trans (y0)
                    have hne0 := Wd.ne wr
                    have HC0 := hidK (fun q : Wd wr => (sclaim_any x.n x.z x.k x.x x.v q.w HZx0.out HZx2.out HZx4.out).mono (fun _ _ h => BoolB.yes h HOK.out))
                    go_wp2_with fail
                    refine wp_region_wide (by kernel_rfl) (by kernel_rfl) ?_
                    repeat (go_big_quiet_step (first | (go_at_call 73; exact Calls.wide (HC0.out _)) | fail))
                    refine wpQuiet_nil ?_
                    rintro _ ⟨q, rfl⟩
                    have HB1 := upB HW q.b
                    have Ck := upK Gk q.b
                    clear hne0 HW HB HC0 k3 x0 x1 x2 x3 x4 yw Gk Bk c0 c1 c2 c3 c4 pk y0
                    have HB := HB1
                    clear HB1
                    have Bk := Ck
                    clear Ck
                    clear hk0' ek
                    go_wp2_with fail
                    refine ⟨⟨k + 1, by omega, by go_num, fun j z hj hz => ?_, fun j z y hj hz hy => ?_, HB.out, Bk.out⟩, by simp [intOf]; omega⟩
                    · by_cases e : j = k
                      · subst e
                        rw [HXx.out] at hz
                        obtain rfl := Option.some.inj hz
                        exact HOK.out
                      · exact HQ.out j z (by omega) hz
                    · by_cases e : j + 1 = k
                      · have hj : j = k - 1 := by omega
                        subst hj
                        rw [Nat.sub_add_cancel hk0, HXx.out] at hz
                        obtain rfl := Option.some.inj hz
                        rw [HXy.out] at hy
                        obtain rfl := Option.some.inj hy
                        exact hless
                      · exact HO.out j z y (by omega) hz hy
                · obtain rfl : l4 = k := by omega
                  have HR4 : Hid (RowOk xdOk Xd.n c.xs 8) := ⟨by omega, fun j z hz => HQ.out j z (by have := (List.getElem?_eq_some_iff.1 hz).1; omega) hz, fun j z u hz hu => HO.out j z u (by have := (List.getElem?_eq_some_iff.1 hz).1; omega) hz hu⟩
                  clear HQ HO
                  skip
                  have kc : wr.cell? ⟨w.heap.size, 4, none⟩ = some (.slice a5 l5 y5) := cellK Bk.out 4
                  go_wp2
                  go_loopw [7] (fun i wr => ∃ k : Nat, k ≤ l5 ∧ i = .int .i64 k ∧ Hid (∀ (j : Nat) z, j < k → c.ps[j]? = some z → pdOk z) ∧ Hid (∀ (j : Nat) z u, j + 1 < k → c.ps[j + 1]? = some z → c.ps[j]? = some u → Op.bytesLess u.n.toList z.n.toList = true) ∧ Hid (Below w.heap.size w wr) ∧ Hid (wr.heap[w.heap.size]? = some (.cells #[.slice a1 l1 y1, .slice a2 l2 y2, .slice a3 l3 y3, .slice a4 l4 y4, .slice a5 l5 y5, .int .i64 c.now] 38 (0, 0)))) (fun i _ => l5 - (intOf i).toNat)
                  case atStart => exact ⟨0, by omega, rfl, fun _ _ h => absurd h (by omega), fun _ _ _ h => absurd h (by omega), HB.out, Bk.out⟩
                  case round =>
                    obtain ⟨k, hk, rfl, HQ, HO, HB, Bk⟩ := hrel
                    have pk : wr.cell? ⟨w.heap.size, 4, none⟩ = some (.slice a5 l5 y5) := cellK Bk.out 4
                    by_cases hlt : k < l5
                    · obtain ⟨b, o, x, rfl, hb, hx, hat⟩ := pd_at (HR.out.p.below HB.out) hlt
                      obtain ⟨va, vl, vc, hvr, z0, z2, z4, c0, c1, c2, c3, c4, c5⟩ := pd_cells hat
                      have HXx := hidK hx
                      have HTx := hidK hvr
                      have HZx0 := hidK z0
                      have HZx2 := hidK z2
                      have HZx4 := hidK z4
                      clear hat hx z0 z2 z4 hvr
                      by_cases hok : pdOk x
                      rotate_left
                      · have HOK := hidK hok
                        clear hok
                        have Gk : Hid (wr.heap[w.heap.size]? = some (.cells #[.slice a1 l1 y1, .slice a2 l2 y2, .slice a3 l3 y3, .slice a4 l4 y4, .slice (some ⟨b, o, none⟩) l5 y5, .int .i64 c.now] 38 (0, 0))) := Bk.out
                        have HW : Hid (Below w.heap.size w wr) := HB.out
                        have k4 := fun q : Wd wr => q.slot (o := 4) Gk.out rfl
                        have x0 : ∀ q : Wd wr, q.w.cell? ⟨b, o + k * 6, none⟩ = some (.string x.n) := fun q => (q.cell (hb)).trans (c0)
                        have x1 : ∀ q : Wd wr, q.w.cell? ⟨b, o + k * 6 + 1, none⟩ = some (.int .i64 x.c) := fun q => (q.cell (hb)).trans (c1)
                        have x2 : ∀ q : Wd wr, q.w.cell? ⟨b, o + k * 6 + 2, none⟩ = some (.string x.z) := fun q => (q.cell (hb)).trans (c2)
                        have x3 : ∀ q : Wd wr, q.w.cell? ⟨b, o + k * 6 + 3, none⟩ = some (.slice va vl vc) := fun q => (q.cell (hb)).trans (c3)
                        have x4 : ∀ q : Wd wr, q.w.cell? ⟨b, o + k * 6 + 4, none⟩ = some (.string x.d) := fun q => (q.cell (hb)).trans (c4)
                        have x5 : ∀ q : Wd wr, q.w.cell? ⟨b, o + k * 6 + 5, none⟩ = some (.int .i64 x.p) := fun q => (q.cell (hb)).trans (c5)
                        have hne0 := Wd.ne wr
                        have HC0 := hidK (fun q : Wd wr => (spod_any x.n x.c x.z va vl vc x.zs x.d x.p q.w HZx0.out HZx2.out HZx4.out (HTx.out.below q.b)).mono (fun _ _ h => BoolB.no h HOK.out))
                        go_wp2_with fail
                        refine wp_region_wide (by kernel_rfl) (by kernel_rfl) ?_
                        repeat (go_big_quiet_step (first | (go_at_call 74; exact Calls.wide (HC0.out _)) | fail))
                        refine wpQuiet_nil ?_
                        rintro _ ⟨q, rfl⟩
                        have HB1 := upB HW q.b
                        have Ck := upK Gk q.b
                        clear hne0 HW HB HC0 k4 x0 x1 x2 x3 x4 x5 Gk Bk c0 c1 c2 c3 c4 c5 pk
                        have HB := HB1
                        clear HB1
                        have Bk := Ck
                        clear Ck
                        go_wp2
                        go_ret
                        exact BoolB.f (fun h => HOK.out (h.2.2.2.2.2.1 k x HXx.out)) HB.out
                      have HOK := hidK hok
                      clear hok
                      by_cases hk0 : 0 < k
                      rotate_left
                      · have hd : decide ((0 : Int) < k) = false := by simp; omega
                        have Gk : Hid (wr.heap[w.heap.size]? = some (.cells #[.slice a1 l1 y1, .slice a2 l2 y2, .slice a3 l3 y3, .slice a4 l4 y4, .slice (some ⟨b, o, none⟩) l5 y5, .int .i64 c.now] 38 (0, 0))) := Bk.out
                        have HW : Hid (Below w.heap.size w wr) := HB.out
                        have k4 := fun q : Wd wr => q.slot (o := 4) Gk.out rfl
                        have x0 : ∀ q : Wd wr, q.w.cell? ⟨b, o + k * 6, none⟩ = some (.string x.n) := fun q => (q.cell (hb)).trans (c0)
                        have x1 : ∀ q : Wd wr, q.w.cell? ⟨b, o + k * 6 + 1, none⟩ = some (.int .i64 x.c) := fun q => (q.cell (hb)).trans (c1)
                        have x2 : ∀ q : Wd wr, q.w.cell? ⟨b, o + k * 6 + 2, none⟩ = some (.string x.z) := fun q => (q.cell (hb)).trans (c2)
                        have x3 : ∀ q : Wd wr, q.w.cell? ⟨b, o + k * 6 + 3, none⟩ = some (.slice va vl vc) := fun q => (q.cell (hb)).trans (c3)
                        have x4 : ∀ q : Wd wr, q.w.cell? ⟨b, o + k * 6 + 4, none⟩ = some (.string x.d) := fun q => (q.cell (hb)).trans (c4)
                        have x5 : ∀ q : Wd wr, q.w.cell? ⟨b, o + k * 6 + 5, none⟩ = some (.int .i64 x.p) := fun q => (q.cell (hb)).trans (c5)
                        have hne0 := Wd.ne wr
                        have HC0 := hidK (fun q : Wd wr => (spod_any x.n x.c x.z va vl vc x.zs x.d x.p q.w HZx0.out HZx2.out HZx4.out (HTx.out.below q.b)).mono (fun _ _ h => BoolB.yes h HOK.out))
                        go_wp2_with fail
                        refine wp_region_wide (by kernel_rfl) (by kernel_rfl) ?_
                        repeat (go_big_quiet_step (first | (go_at_call 74; exact Calls.wide (HC0.out _)) | fail))
                        refine wpQuiet_nil ?_
                        rintro _ ⟨q, rfl⟩
                        have HB1 := upB HW q.b
                        have Ck := upK Gk q.b
                        clear hne0 HW HB HC0 k4 x0 x1 x2 x3 x4 x5 Gk Bk c0 c1 c2 c3 c4 c5 pk
                        have HB := HB1
                        clear HB1
                        have Bk := Ck
                        clear Ck
                        clear hd
                        go_wp2_with fail
                        refine ⟨⟨k + 1, by omega, by go_num, fun j z hj hz => ?_, fun j z y hj hz hy => ?_, HB.out, Bk.out⟩, by simp [intOf]; omega⟩
                        · by_cases e : j = k
                          · subst e
                            rw [HXx.out] at hz
                            obtain rfl := Option.some.inj hz
                            exact HOK.out
                          · exact HQ.out j z (by omega) hz
                        · by_cases e : j + 1 = k
                          · exact absurd hk0 (by omega)
                          · exact HO.out j z y (by omega) hz hy
                      have hk0' : (0 : Int) < k := by omega
                      have ek : ((k : Int) - 1).toNat = k - 1 := by omega
                      obtain ⟨b', o', y, e', hb', hy, haty⟩ := pd_at (HR.out.p.below HB.out) (show k - 1 < l5 by omega)
                      cases e'
                      have y0 : wr.cell? ⟨b, o + (k - 1) * 6, none⟩ = some (.string y.n) := by
                        obtain ⟨q, h1, h2⟩ := haty 0 _ rfl
                        obtain ⟨rfl, -⟩ := h2
                        exact h1
                      have HXy := hidK hy
                      clear hy haty
                      cases hless : Op.bytesLess y.n.toList x.n.toList
                      · have Gk : Hid (wr.heap[w.heap.size]? = some (.cells #[.slice a1 l1 y1, .slice a2 l2 y2, .slice a3 l3 y3, .slice a4 l4 y4, .slice (some ⟨b, o, none⟩) l5 y5, .int .i64 c.now] 38 (0, 0))) := Bk.out
                        have HW : Hid (Below w.heap.size w wr) := HB.out
                        have k4 := fun q : Wd wr => q.slot (o := 4) Gk.out rfl
                        have x0 : ∀ q : Wd wr, q.w.cell? ⟨b, o + k * 6, none⟩ = some (.string x.n) := fun q => (q.cell (hb)).trans (c0)
                        have x1 : ∀ q : Wd wr, q.w.cell? ⟨b, o + k * 6 + 1, none⟩ = some (.int .i64 x.c) := fun q => (q.cell (hb)).trans (c1)
                        have x2 : ∀ q : Wd wr, q.w.cell? ⟨b, o + k * 6 + 2, none⟩ = some (.string x.z) := fun q => (q.cell (hb)).trans (c2)
                        have x3 : ∀ q : Wd wr, q.w.cell? ⟨b, o + k * 6 + 3, none⟩ = some (.slice va vl vc) := fun q => (q.cell (hb)).trans (c3)
                        have x4 : ∀ q : Wd wr, q.w.cell? ⟨b, o + k * 6 + 4, none⟩ = some (.string x.d) := fun q => (q.cell (hb)).trans (c4)
                        have x5 : ∀ q : Wd wr, q.w.cell? ⟨b, o + k * 6 + 5, none⟩ = some (.int .i64 x.p) := fun q => (q.cell (hb)).trans (c5)
                        have yw : ∀ q : Wd wr, q.w.cell? ⟨b, o + (k - 1) * 6, none⟩ = some (.string y.n) := fun q => (q.cell (hb)).trans (y0)
                        have hne0 := Wd.ne wr
                        have HC0 := hidK (fun q : Wd wr => (spod_any x.n x.c x.z va vl vc x.zs x.d x.p q.w HZx0.out HZx2.out HZx4.out (HTx.out.below q.b)).mono (fun _ _ h => BoolB.yes h HOK.out))
                        go_wp2_with fail
                        refine wp_region_wide (by kernel_rfl) (by kernel_rfl) ?_
                        repeat (go_big_quiet_step (first | (go_at_call 74; exact Calls.wide (HC0.out _)) | fail))
                        refine wpQuiet_nil ?_
                        rintro _ ⟨q, rfl⟩
                        have HB1 := upB HW q.b
                        have Ck := upK Gk q.b
                        clear hne0 HW HB HC0 k4 x0 x1 x2 x3 x4 x5 yw Gk Bk c0 c1 c2 c3 c4 c5 pk y0
                        have HB := HB1
                        clear HB1
                        have Bk := Ck
                        clear Ck
                        go_wp2
                        go_ret
                        refine BoolB.f (fun h => ?_) HB.out
                        have h3 := h.2.2.2.2.2.2 (k - 1) x y (by rw [Nat.sub_add_cancel hk0]; exact HXx.out) HXy.out
                        rw [hless] at h3
                        cases h3
                      · have Gk : Hid (wr.heap[w.heap.size]? = some (.cells #[.slice a1 l1 y1, .slice a2 l2 y2, .slice a3 l3 y3, .slice a4 l4 y4, .slice (some ⟨b, o, none⟩) l5 y5, .int .i64 c.now] 38 (0, 0))) := Bk.out
                        have HW : Hid (Below w.heap.size w wr) := HB.out
                        have k4 := fun q : Wd wr => q.slot (o := 4) Gk.out rfl
                        have x0 : ∀ q : Wd wr, q.w.cell? ⟨b, o + k * 6, none⟩ = some (.string x.n) := fun q => (q.cell (hb)).trans (c0)
                        have x1 : ∀ q : Wd wr, q.w.cell? ⟨b, o + k * 6 + 1, none⟩ = some (.int .i64 x.c) := fun q => (q.cell (hb)).trans (c1)
                        have x2 : ∀ q : Wd wr, q.w.cell? ⟨b, o + k * 6 + 2, none⟩ = some (.string x.z) := fun q => (q.cell (hb)).trans (c2)
                        have x3 : ∀ q : Wd wr, q.w.cell? ⟨b, o + k * 6 + 3, none⟩ = some (.slice va vl vc) := fun q => (q.cell (hb)).trans (c3)
                        have x4 : ∀ q : Wd wr, q.w.cell? ⟨b, o + k * 6 + 4, none⟩ = some (.string x.d) := fun q => (q.cell (hb)).trans (c4)
                        have x5 : ∀ q : Wd wr, q.w.cell? ⟨b, o + k * 6 + 5, none⟩ = some (.int .i64 x.p) := fun q => (q.cell (hb)).trans (c5)
                        have yw : ∀ q : Wd wr, q.w.cell? ⟨b, o + (k - 1) * 6, none⟩ = some (.string y.n) := fun q => (q.cell (hb)).trans (y0)
                        have hne0 := Wd.ne wr
                        have HC0 := hidK (fun q : Wd wr => (spod_any x.n x.c x.z va vl vc x.zs x.d x.p q.w HZx0.out HZx2.out HZx4.out (HTx.out.below q.b)).mono (fun _ _ h => BoolB.yes h HOK.out))
                        go_wp2_with fail
                        refine wp_region_wide (by kernel_rfl) (by kernel_rfl) ?_
                        repeat (go_big_quiet_step (first | (go_at_call 74; exact Calls.wide (HC0.out _)) | fail))
                        refine wpQuiet_nil ?_
                        rintro _ ⟨q, rfl⟩
                        have HB1 := upB HW q.b
                        have Ck := upK Gk q.b
                        clear hne0 HW HB HC0 k4 x0 x1 x2 x3 x4 x5 yw Gk Bk c0 c1 c2 c3 c4 c5 pk y0
                        have HB := HB1
                        clear HB1
                        have Bk := Ck
                        clear Ck
                        clear hk0' ek
                        go_wp2_with fail
                        refine ⟨⟨k + 1, by omega, by go_num, fun j z hj hz => ?_, fun j z y hj hz hy => ?_, HB.out, Bk.out⟩, by simp [intOf]; omega⟩
                        · by_cases e : j = k
                          · subst e
                            rw [HXx.out] at hz
                            obtain rfl := Option.some.inj hz
                            exact HOK.out
                          · exact HQ.out j z (by omega) hz
                        · by_cases e : j + 1 = k
                          · have hj : j = k - 1 := by omega
                            subst hj
                            rw [Nat.sub_add_cancel hk0, HXx.out] at hz
                            obtain rfl := Option.some.inj hz
                            rw [HXy.out] at hy
                            obtain rfl := Option.some.inj hy
                            exact hless
                          · exact HO.out j z y (by omega) hz hy
                    · obtain rfl : l5 = k := by omega
                      have HR5 : Hid (RowOk pdOk Pd.n c.ps 8) := ⟨by omega, fun j z hz => HQ.out j z (by have := (List.getElem?_eq_some_iff.1 hz).1; omega) hz, fun j z u hz hu => HO.out j z u (by have := (List.getElem?_eq_some_iff.1 hz).1; omega) hz hu⟩
                      clear HQ HO
                      go_wp2
                      go_ret
                      exact BoolB.t ⟨HR1.out, HR2.out, HR3.out, HR4.out, HR5.out⟩ HB.out

def KHas (c : Cl) (t : ByteArray) : Prop := ∃ (i : Nat) (k : Kd), c.ks[i]? = some k ∧ k.n = t
def SV (c : Cl) (v : Vd) : Prop := KHas c v.k ∧ (v.m = ⟨#[]⟩ ∨ ∃ (i : Nat) (x : Xd), c.xs[i]? = some x ∧ x.n = v.m ∧ x.v = v.n)
def SX (c : Cl) (x : Xd) : Prop := KHas c x.k ∧ (x.v = ⟨#[]⟩ ∨ ∃ (j : Nat) (v : Vd), c.vs[j]? = some v ∧ v.n = x.v ∧ v.m = x.n ∧ x.z ≤ v.c ∧ v.k = x.k ∧ v.x = x.x)
def BoundS (c : Cl) : Prop := (∀ (j : Nat) z, c.vs[j]? = some z → SV c z) ∧ (∀ (j : Nat) z, c.xs[j]? = some z → SX c z)

set_option maxRecDepth 100000 in
set_option maxHeartbeats 12800000 in
theorem sbound_any (d : Ad) (c : Cl) (w : World) (hr : ClRow w d c.raw) (hks : RisBy Kd.n c.ks) (hxs : RisBy Xd.n c.xs) (hvs : RisBy Vd.n c.vs) :
    Calls Tryz.prog 46 #[.agg #[.slice d.a1 d.l1 d.c1, .slice d.a2 d.l2 d.c2, .slice d.a3 d.l3 d.c3, .slice d.a4 d.l4 d.c4, .slice d.a5 d.l5 d.c5, .int .i64 c.now]] w (BoolB (BoundS c) w) := by
  obtain ⟨a1, l1, y1, a2, l2, y2, a3, l3, y3, a4, l4, y4, a5, l5, y5⟩ := d
  dsimp only
  have HR := hidK hr
  have hl1 : c.ns.length = l1 := by simpa using (show (c.ns.map ndF).length = l1 from hr.n.1)
  have hm1 : l1 ≤ 9223372036854775807 := Nat.le_trans hr.n.2.1 hr.n.2.2.1
  have hl2 : c.ks.length = l2 := by simpa using (show (c.ks.map kdF).length = l2 from hr.k.1)
  have hm2 : l2 ≤ 9223372036854775807 := Nat.le_trans hr.k.2.1 hr.k.2.2.1
  have hl3 : c.vs.length = l3 := by simpa using (show (c.vs.map vdF).length = l3 from hr.v.1)
  have hm3 : l3 ≤ 9223372036854775807 := Nat.le_trans hr.v.2.1 hr.v.2.2.1
  have hl4 : c.xs.length = l4 := by simpa using (show (c.xs.map xdF).length = l4 from hr.x.1)
  have hm4 : l4 ≤ 9223372036854775807 := Nat.le_trans hr.x.2.1 hr.x.2.2.1
  have hl5 : c.ps.length = l5 := by simpa using (show (c.ps.map pdF).length = l5 from hr.p.1)
  have hm5 : l5 ≤ 9223372036854775807 := Nat.le_trans hr.p.2.1 hr.p.2.2.1
  clear hr
  have HKS := hidK hks
  have HXS := hidK hxs
  have HVS := hidK hvs
  clear hks hxs hvs
  go_enter Tryz.func46, Tryz.ntmps46
  go_wp2
  go_loopw [3] (fun i wr => ∃ k : Nat, k ≤ l3 ∧ i = .int .i64 k ∧ Hid (∀ (j : Nat) z, j < k → c.vs[j]? = some z → SV c z) ∧ Hid (Below w.heap.size w wr) ∧ Hid (wr.heap[w.heap.size]? = some (.cells #[.slice a1 l1 y1, .slice a2 l2 y2, .slice a3 l3 y3, .slice a4 l4 y4, .slice a5 l5 y5, .int .i64 c.now] 38 (0, 0)))) (fun i _ => l3 - (intOf i).toNat)
  case atStart => exact ⟨0, by omega, rfl, fun _ _ h => absurd h (by omega), below1 _ _, Array.getElem?_push_size⟩
  case round =>
    obtain ⟨k, hk, rfl, HQ, HB, Bk⟩ := hrel
    have pk : wr.cell? ⟨w.heap.size, 2, none⟩ = some (.slice a3 l3 y3) := cellK Bk.out 2
    by_cases hlt : k < l3
    · obtain ⟨b, o, v, rfl, hb, hx, hat⟩ := vd_at (HR.out.v.below HB.out) hlt
      obtain ⟨va, vl, vc, hvr, z0, z2, z3, z5, c0, c1, c2, c3, c4, c5, c6, c7⟩ := vd_cells hat
      have HXv := hidK hx
      have HTv := hidK hvr
      have HZv0 := hidK z0
      have HZv2 := hidK z2
      have HZv3 := hidK z3
      have HZv5 := hidK z5
      clear hat hx z0 z2 z3 z5 hvr
      obtain ⟨k0, k1, k2, k3, k4, k5⟩ := cs6 Bk.out
      have ltk_0 := lt_of_some Bk.out
      go_wp2_with fail
      refine (sxxd_any ⟨a1, l1, y1, a2, l2, y2, (some ⟨b, o, none⟩), l3, y3, a4, l4, y4, a5, l5, y5⟩ c.now c.xs v.m _ (HR.out.x.below (HB.out.trans ((below1 _ _).mono HB.out.size)))).mono ?_
      rintro e w1 ⟨hb2, hf⟩
      clear k0 k1 k2 k3 k4 k5 ltk_0
      obtain ⟨HA0, hbx⟩ := slots1 hb2
      replace Bk := upK Bk hbx
      have Br := hidK HA0
      replace HB := upB HB hbx
      clear hb2 hbx HA0
      clear pk hb c0 c1 c2 c3 c4 c5 c6 c7
      by_cases hkh : KHas c v.k
      rotate_left
      · have HKH := hidK hkh
        clear hkh
        obtain ⟨r, hre⟩ : ∃ r : Int, e = .returned (.int .i64 r) := by rcases hf with ⟨j, y, _, _, h⟩ | ⟨_, h⟩ <;> exact ⟨_, h⟩
        subst hre
        clear hf
        have Gk : Hid (w1.heap[w.heap.size]? = some (.cells #[.slice a1 l1 y1, .slice a2 l2 y2, .slice (some ⟨b, o, none⟩) l3 y3, .slice a4 l4 y4, .slice a5 l5 y5, .int .i64 c.now] 38 (0, 0))) := Bk.out
        have Gr : Hid (w1.heap[wr.heap.size]? = some (.cells #[.string v.n, .int .i64 v.c, .string v.z, .string v.k, .bool v.x, .string v.m, .bool v.y, .slice va vl vc] 92 (0, 0))) := Br.out
        have HW : Hid (Below w.heap.size w w1) := HB.out
        have k0 := fun q : Wd w1 => q.slot (o := 0) Gk.out rfl
        have k1 := fun q : Wd w1 => q.slot (o := 1) Gk.out rfl
        have k2 := fun q : Wd w1 => q.slot (o := 2) Gk.out rfl
        have k3 := fun q : Wd w1 => q.slot (o := 3) Gk.out rfl
        have k4 := fun q : Wd w1 => q.slot (o := 4) Gk.out rfl
        have k5 := fun q : Wd w1 => q.slot (o := 5) Gk.out rfl
        have r0 := fun q : Wd w1 => q.slot (o := 0) Gr.out rfl
        have r1 := fun q : Wd w1 => q.slot (o := 1) Gr.out rfl
        have r2 := fun q : Wd w1 => q.slot (o := 2) Gr.out rfl
        have r3 := fun q : Wd w1 => q.slot (o := 3) Gr.out rfl
        have r4 := fun q : Wd w1 => q.slot (o := 4) Gr.out rfl
        have r5 := fun q : Wd w1 => q.slot (o := 5) Gr.out rfl
        have r6 := fun q : Wd w1 => q.slot (o := 6) Gr.out rfl
        have r7 := fun q : Wd w1 => q.slot (o := 7) Gr.out rfl
        have hne0 := Wd.ne w1
        have HC0 := hidK (fun q : Wd w1 => sxkd_miss ⟨a1, l1, y1, a2, l2, y2, (some ⟨b, o, none⟩), l3, y3, a4, l4, y4, a5, l5, y5⟩ c.now c.ks v.k q.w (HR.out.k.below (HW.out.trans (q.b.mono HW.out.size))) (fun j y h1 h2 => HKH.out ⟨j, y, h1, h2⟩))
        go_wp2_with fail
        refine wp_region_wide (by kernel_rfl) (by kernel_rfl) ?_
        repeat (go_big_quiet_step (first | (go_at_call 76; exact Calls.wide (HC0.out _)) | fail))
        refine wpQuiet_nil ?_
        rintro _ ⟨q1, rfl⟩
        have HB2 := upB HW q1.b
        have Ck := upK Gk q1.b
        have Cr := upK Gr q1.b
        clear hne0 HW HB HC0 k0 k1 k2 k3 k4 k5 r0 r1 r2 r3 r4 r5 r6 r7 Gk Gr Bk Br
        have HB := HB2
        clear HB2
        have Bk := Ck
        clear Ck
        have Br := Cr
        clear Cr
        go_wp2
        go_ret
        exact BoolB.f (fun h => HKH.out (h.1 k v HXv.out).1) HB.out
      obtain ⟨i2, kd2, g1, g2⟩ := hkh
      have HG1 := hidK g1
      have HG2 := hidK g2
      have hi20 : ¬ ((i2 : Int) < 0) := by omega
      have hi21 : decide ((i2 : Int) < 0) = false := by simp
      clear g1 g2
      by_cases he : v.m = ⟨#[]⟩
      · have hq := isE_y he
        have HEm := hidK he
        clear he
        obtain ⟨r, hre⟩ : ∃ r : Int, e = .returned (.int .i64 r) := by rcases hf with ⟨j, y, _, _, h⟩ | ⟨_, h⟩ <;> exact ⟨_, h⟩
        subst hre
        clear hf
        have Gk : Hid (w1.heap[w.heap.size]? = some (.cells #[.slice a1 l1 y1, .slice a2 l2 y2, .slice (some ⟨b, o, none⟩) l3 y3, .slice a4 l4 y4, .slice a5 l5 y5, .int .i64 c.now] 38 (0, 0))) := Bk.out
        have Gr : Hid (w1.heap[wr.heap.size]? = some (.cells #[.string v.n, .int .i64 v.c, .string v.z, .string v.k, .bool v.x, .string v.m, .bool v.y, .slice va vl vc] 92 (0, 0))) := Br.out
        have HW : Hid (Below w.heap.size w w1) := HB.out
        have k0 := fun q : Wd w1 => q.slot (o := 0) Gk.out rfl
        have k1 := fun q : Wd w1 => q.slot (o := 1) Gk.out rfl
        have k2 := fun q : Wd w1 => q.slot (o := 2) Gk.out rfl
        have k3 := fun q : Wd w1 => q.slot (o := 3) Gk.out rfl
        have k4 := fun q : Wd w1 => q.slot (o := 4) Gk.out rfl
        have k5 := fun q : Wd w1 => q.slot (o := 5) Gk.out rfl
        have r0 := fun q : Wd w1 => q.slot (o := 0) Gr.out rfl
        have r1 := fun q : Wd w1 => q.slot (o := 1) Gr.out rfl
        have r2 := fun q : Wd w1 => q.slot (o := 2) Gr.out rfl
        have r3 := fun q : Wd w1 => q.slot (o := 3) Gr.out rfl
        have r4 := fun q : Wd w1 => q.slot (o := 4) Gr.out rfl
        have r5 := fun q : Wd w1 => q.slot (o := 5) Gr.out rfl
        have r6 := fun q : Wd w1 => q.slot (o := 6) Gr.out rfl
        have r7 := fun q : Wd w1 => q.slot (o := 7) Gr.out rfl
        have hne0 := Wd.ne w1
        have HC0 := hidK (fun q : Wd w1 => sxkd_hit ⟨a1, l1, y1, a2, l2, y2, (some ⟨b, o, none⟩), l3, y3, a4, l4, y4, a5, l5, y5⟩ c.now c.ks v.k q.w (HR.out.k.below (HW.out.trans (q.b.mono HW.out.size))) HKS.out HG1.out HG2.out)
        go_wp2_with fail
        refine wp_region_wide (by kernel_rfl) (by kernel_rfl) ?_
        repeat (go_big_quiet_step (first | (go_at_call 76; exact Calls.wide (HC0.out _)) | fail))
        refine wpQuiet_nil ?_
        rintro _ ⟨q1, rfl⟩
        have HB2 := upB HW q1.b
        have Ck := upK Gk q1.b
        have Cr := upK Gr q1.b
        clear hne0 HW HB HC0 k0 k1 k2 k3 k4 k5 r0 r1 r2 r3 r4 r5 r6 r7 Gk Gr Bk Br
        have HB := HB2
        clear HB2
        have Bk := Ck
        clear Ck
        have Br := Cr
        clear Cr
        go_wp2_with fail
        refine ⟨⟨k + 1, by omega, by go_num, fun j z hj hz => ?_, HB.out, Bk.out⟩, by simp [intOf]; omega⟩
        by_cases e : j = k
        · subst e
          rw [HXv.out] at hz
          obtain rfl := Option.some.inj hz
          exact ⟨⟨i2, kd2, HG1.out, HG2.out⟩, .inl HEm.out⟩
        · exact HQ.out j z (by omega) hz
      have hq := isE_no he
      have HEm := hidK he
      clear he
      rcases hf with ⟨j4, y, h1, h2, rfl⟩ | ⟨hh, rfl⟩
      rotate_left
      · have HH := hidK hh
        clear hh
        have Gk : Hid (w1.heap[w.heap.size]? = some (.cells #[.slice a1 l1 y1, .slice a2 l2 y2, .slice (some ⟨b, o, none⟩) l3 y3, .slice a4 l4 y4, .slice a5 l5 y5, .int .i64 c.now] 38 (0, 0))) := Bk.out
        have Gr : Hid (w1.heap[wr.heap.size]? = some (.cells #[.string v.n, .int .i64 v.c, .string v.z, .string v.k, .bool v.x, .string v.m, .bool v.y, .slice va vl vc] 92 (0, 0))) := Br.out
        have HW : Hid (Below w.heap.size w w1) := HB.out
        have k0 := fun q : Wd w1 => q.slot (o := 0) Gk.out rfl
        have k1 := fun q : Wd w1 => q.slot (o := 1) Gk.out rfl
        have k2 := fun q : Wd w1 => q.slot (o := 2) Gk.out rfl
        have k3 := fun q : Wd w1 => q.slot (o := 3) Gk.out rfl
        have k4 := fun q : Wd w1 => q.slot (o := 4) Gk.out rfl
        have k5 := fun q : Wd w1 => q.slot (o := 5) Gk.out rfl
        have r0 := fun q : Wd w1 => q.slot (o := 0) Gr.out rfl
        have r1 := fun q : Wd w1 => q.slot (o := 1) Gr.out rfl
        have r2 := fun q : Wd w1 => q.slot (o := 2) Gr.out rfl
        have r3 := fun q : Wd w1 => q.slot (o := 3) Gr.out rfl
        have r4 := fun q : Wd w1 => q.slot (o := 4) Gr.out rfl
        have r5 := fun q : Wd w1 => q.slot (o := 5) Gr.out rfl
        have r6 := fun q : Wd w1 => q.slot (o := 6) Gr.out rfl
        have r7 := fun q : Wd w1 => q.slot (o := 7) Gr.out rfl
        have hne0 := Wd.ne w1
        have HC0 := hidK (fun q : Wd w1 => sxkd_hit ⟨a1, l1, y1, a2, l2, y2, (some ⟨b, o, none⟩), l3, y3, a4, l4, y4, a5, l5, y5⟩ c.now c.ks v.k q.w (HR.out.k.below (HW.out.trans (q.b.mono HW.out.size))) HKS.out HG1.out HG2.out)
        go_wp2_with fail
        refine wp_region_wide (by kernel_rfl) (by kernel_rfl) ?_
        repeat (go_big_quiet_step (first | (go_at_call 76; exact Calls.wide (HC0.out _)) | fail))
        refine wpQuiet_nil ?_
        rintro _ ⟨q1, rfl⟩
        have HB2 := upB HW q1.b
        have Ck := upK Gk q1.b
        have Cr := upK Gr q1.b
        clear hne0 HW HB HC0 k0 k1 k2 k3 k4 k5 r0 r1 r2 r3 r4 r5 r6 r7 Gk Gr Bk Br
        have HB := HB2
        clear HB2
        have Bk := Ck
        clear Ck
        have Br := Cr
        clear Cr
        go_wp2
        go_ret
        refine BoolB.f (fun h => ?_) HB.out
        rcases (h.1 k v HXv.out).2 with h2 | ⟨i, y, h2, h3, _⟩
        · exact HEm.out h2
        · exact HH.out i y h2 h3
      have hl4' : j4 < l4 := by have h3 := (List.getElem?_eq_some_iff.1 h1).1; omega
      obtain ⟨b4, o4, y', rfl, hb4, hy', hat⟩ := xd_at HR.out.x hl4'
      rw [h1] at hy'
      obtain rfl := Option.some.inj hy'
      obtain ⟨z0, z2, z4, c0, c1, c2, c3, c4⟩ := xd_cells hat
      have HJ := hidK h1
      have HN := hidK h2
      have hcv := (cell_below HB.out hb4).trans c4
      have hbv : b4 < w1.heap.size := Nat.lt_of_lt_of_le hb4 HB.out.size
      have hj0 : ¬ ((j4 : Int) < 0) := by omega
      have hj1 : decide ((j4 : Int) < 0) = false := by simp
      clear hy' hat z0 z2 z4 c0 c1 c2 c3 c4 h1 h2
      by_cases hvn : y.v = v.n
      · have hq2 := tl_yes hvn
        have HVN := hidK hvn
        clear hvn
        have Gk : Hid (w1.heap[w.heap.size]? = some (.cells #[.slice a1 l1 y1, .slice a2 l2 y2, .slice (some ⟨b, o, none⟩) l3 y3, .slice (some ⟨b4, o4, none⟩) l4 y4, .slice a5 l5 y5, .int .i64 c.now] 38 (0, 0))) := Bk.out
        have Gr : Hid (w1.heap[wr.heap.size]? = some (.cells #[.string v.n, .int .i64 v.c, .string v.z, .string v.k, .bool v.x, .string v.m, .bool v.y, .slice va vl vc] 92 (0, 0))) := Br.out
        have HW : Hid (Below w.heap.size w w1) := HB.out
        have k0 := fun q : Wd w1 => q.slot (o := 0) Gk.out rfl
        have k1 := fun q : Wd w1 => q.slot (o := 1) Gk.out rfl
        have k2 := fun q : Wd w1 => q.slot (o := 2) Gk.out rfl
        have k3 := fun q : Wd w1 => q.slot (o := 3) Gk.out rfl
        have k4 := fun q : Wd w1 => q.slot (o := 4) Gk.out rfl
        have k5 := fun q : Wd w1 => q.slot (o := 5) Gk.out rfl
        have r0 := fun q : Wd w1 => q.slot (o := 0) Gr.out rfl
        have r1 := fun q : Wd w1 => q.slot (o := 1) Gr.out rfl
        have r2 := fun q : Wd w1 => q.slot (o := 2) Gr.out rfl
        have r3 := fun q : Wd w1 => q.slot (o := 3) Gr.out rfl
        have r4 := fun q : Wd w1 => q.slot (o := 4) Gr.out rfl
        have r5 := fun q : Wd w1 => q.slot (o := 5) Gr.out rfl
        have r6 := fun q : Wd w1 => q.slot (o := 6) Gr.out rfl
        have r7 := fun q : Wd w1 => q.slot (o := 7) Gr.out rfl
        have yw : ∀ q : Wd w1, q.w.cell? ⟨b4, o4 + j4 * 5 + 4, none⟩ = some (.string y.v) := fun q => (q.cell (hbv)).trans (hcv)
        have hne0 := Wd.ne w1
        have HC0 := hidK (fun q : Wd w1 => sxkd_hit ⟨a1, l1, y1, a2, l2, y2, (some ⟨b, o, none⟩), l3, y3, (some ⟨b4, o4, none⟩), l4, y4, a5, l5, y5⟩ c.now c.ks v.k q.w (HR.out.k.below (HW.out.trans (q.b.mono HW.out.size))) HKS.out HG1.out HG2.out)
        go_wp2_with fail
        refine wp_region_wide (by kernel_rfl) (by kernel_rfl) ?_
        repeat (go_big_quiet_step (first | (go_at_call 76; exact Calls.wide (HC0.out _)) | fail))
        refine wpQuiet_nil ?_
        rintro _ ⟨q1, rfl⟩
        have HB2 := upB HW q1.b
        have Ck := upK Gk q1.b
        have Cr := upK Gr q1.b
        clear hne0 HW HB HC0 k0 k1 k2 k3 k4 k5 r0 r1 r2 r3 r4 r5 r6 r7 yw Gk Gr Bk Br hcv hbv
        have HB := HB2
        clear HB2
        have Bk := Ck
        clear Ck
        have Br := Cr
        clear Cr
        go_wp2_with fail
        refine ⟨⟨k + 1, by omega, by go_num, fun j z hj hz => ?_, HB.out, Bk.out⟩, by simp [intOf]; omega⟩
        by_cases e : j = k
        · subst e
          rw [HXv.out] at hz
          obtain rfl := Option.some.inj hz
          exact ⟨⟨i2, kd2, HG1.out, HG2.out⟩, .inr ⟨j4, y, HJ.out, HN.out, HVN.out⟩⟩
        · exact HQ.out j z (by omega) hz
      · have hq2 := tl_no hvn
        have HVN := hidK hvn
        clear hvn
        have Gk : Hid (w1.heap[w.heap.size]? = some (.cells #[.slice a1 l1 y1, .slice a2 l2 y2, .slice (some ⟨b, o, none⟩) l3 y3, .slice (some ⟨b4, o4, none⟩) l4 y4, .slice a5 l5 y5, .int .i64 c.now] 38 (0, 0))) := Bk.out
        have Gr : Hid (w1.heap[wr.heap.size]? = some (.cells #[.string v.n, .int .i64 v.c, .string v.z, .string v.k, .bool v.x, .string v.m, .bool v.y, .slice va vl vc] 92 (0, 0))) := Br.out
        have HW : Hid (Below w.heap.size w w1) := HB.out
        have k0 := fun q : Wd w1 => q.slot (o := 0) Gk.out rfl
        have k1 := fun q : Wd w1 => q.slot (o := 1) Gk.out rfl
        have k2 := fun q : Wd w1 => q.slot (o := 2) Gk.out rfl
        have k3 := fun q : Wd w1 => q.slot (o := 3) Gk.out rfl
        have k4 := fun q : Wd w1 => q.slot (o := 4) Gk.out rfl
        have k5 := fun q : Wd w1 => q.slot (o := 5) Gk.out rfl
        have r0 := fun q : Wd w1 => q.slot (o := 0) Gr.out rfl
        have r1 := fun q : Wd w1 => q.slot (o := 1) Gr.out rfl
        have r2 := fun q : Wd w1 => q.slot (o := 2) Gr.out rfl
        have r3 := fun q : Wd w1 => q.slot (o := 3) Gr.out rfl
        have r4 := fun q : Wd w1 => q.slot (o := 4) Gr.out rfl
        have r5 := fun q : Wd w1 => q.slot (o := 5) Gr.out rfl
        have r6 := fun q : Wd w1 => q.slot (o := 6) Gr.out rfl
        have r7 := fun q : Wd w1 => q.slot (o := 7) Gr.out rfl
        have yw : ∀ q : Wd w1, q.w.cell? ⟨b4, o4 + j4 * 5 + 4, none⟩ = some (.string y.v) := fun q => (q.cell (hbv)).trans (hcv)
        have hne0 := Wd.ne w1
        have HC0 := hidK (fun q : Wd w1 => sxkd_hit ⟨a1, l1, y1, a2, l2, y2, (some ⟨b, o, none⟩), l3, y3, (some ⟨b4, o4, none⟩), l4, y4, a5, l5, y5⟩ c.now c.ks v.k q.w (HR.out.k.below (HW.out.trans (q.b.mono HW.out.size))) HKS.out HG1.out HG2.out)
        go_wp2_with fail
        refine wp_region_wide (by kernel_rfl) (by kernel_rfl) ?_
        repeat (go_big_quiet_step (first | (go_at_call 76; exact Calls.wide (HC0.out _)) | fail))
        refine wpQuiet_nil ?_
        rintro _ ⟨q1, rfl⟩
        have HB2 := upB HW q1.b
        have Ck := upK Gk q1.b
        have Cr := upK Gr q1.b
        clear hne0 HW HB HC0 k0 k1 k2 k3 k4 k5 r0 r1 r2 r3 r4 r5 r6 r7 yw Gk Gr Bk Br hcv hbv
        have HB := HB2
        clear HB2
        have Bk := Ck
        clear Ck
        have Br := Cr
        clear Cr
        go_wp2
        go_ret
        refine BoolB.f (fun h => ?_) HB.out
        rcases (h.1 k v HXv.out).2 with h2 | ⟨i, y2, h2, h3, h4⟩
        · exact HEm.out h2
        · obtain ⟨_, rfl⟩ := HXS.out.inj h2 HJ.out (h3.trans HN.out.symm)
          exact HVN.out h4
    · obtain rfl : l3 = k := by omega
      have HQ1 : Hid (∀ (j : Nat) z, c.vs[j]? = some z → SV c z) := fun j z hz => HQ.out j z (by have := (List.getElem?_eq_some_iff.1 hz).1; omega) hz
      clear HQ
      have kc : wr.cell? ⟨w.heap.size, 3, none⟩ = some (.slice a4 l4 y4) := cellK Bk.out 3
      go_wp2
      go_loopw [6] (fun i wr => ∃ k : Nat, k ≤ l4 ∧ i = .int .i64 k ∧ Hid (∀ (j : Nat) z, j < k → c.xs[j]? = some z → SX c z) ∧ Hid (Below w.heap.size w wr) ∧ Hid (wr.heap[w.heap.size]? = some (.cells #[.slice a1 l1 y1, .slice a2 l2 y2, .slice a3 l3 y3, .slice a4 l4 y4, .slice a5 l5 y5, .int .i64 c.now] 38 (0, 0)))) (fun i _ => l4 - (intOf i).toNat)
      case atStart => exact ⟨0, by omega, rfl, fun _ _ h => absurd h (by omega), HB.out, Bk.out⟩
      case round =>
        obtain ⟨k, hk, rfl, HQ, HB, Bk⟩ := hrel
        have pk : wr.cell? ⟨w.heap.size, 3, none⟩ = some (.slice a4 l4 y4) := cellK Bk.out 3
        by_cases hlt : k < l4
        · obtain ⟨b, o, x, rfl, hb, hx, hat⟩ := xd_at (HR.out.x.below HB.out) hlt
          obtain ⟨z0, z2, z4, c0, c1, c2, c3, c4⟩ := xd_cells hat
          have HXx := hidK hx
          have HZx0 := hidK z0
          have HZx2 := hidK z2
          have HZx4 := hidK z4
          clear hat hx z0 z2 z4
          obtain ⟨k0, k1, k2, k3, k4, k5⟩ := cs6 Bk.out
          have ltk_0 := lt_of_some Bk.out
          go_wp2_with fail
          refine (sxvd_any ⟨a1, l1, y1, a2, l2, y2, a3, l3, y3, (some ⟨b, o, none⟩), l4, y4, a5, l5, y5⟩ c.now c.vs x.v _ (HR.out.v.below (HB.out.trans ((below1 _ _).mono HB.out.size)))).mono ?_
          rintro e w1 ⟨hb2, hf⟩
          clear k0 k1 k2 k3 k4 k5 ltk_0
          obtain ⟨HA0, hbx⟩ := slots1 hb2
          replace Bk := upK Bk hbx
          have Br := hidK HA0
          replace HB := upB HB hbx
          clear hb2 hbx HA0
          clear pk hb c0 c1 c2 c3 c4
          by_cases hkh : KHas c x.k
          rotate_left
          · have HKH := hidK hkh
            clear hkh
            obtain ⟨r, hre⟩ : ∃ r : Int, e = .returned (.int .i64 r) := by rcases hf with ⟨j, y, _, _, h⟩ | ⟨_, h⟩ <;> exact ⟨_, h⟩
            subst hre
            clear hf
            obtain ⟨k0, k1, k2, k3, k4, k5⟩ := cs6 Bk.out
            have ltk_1 := lt_of_some Bk.out
            obtain ⟨r0, r1, r2, r3, r4⟩ := cs5 Br.out
            have ltr_1 := lt_of_some Br.out
            go_wp2_with fail
            refine (sxkd_miss ⟨a1, l1, y1, a2, l2, y2, a3, l3, y3, (some ⟨b, o, none⟩), l4, y4, a5, l5, y5⟩ c.now c.ks x.k _ (HR.out.k.below HB.out) (fun j y h1 h2 => HKH.out ⟨j, y, h1, h2⟩)).mono ?_
            rintro e w2 ⟨rfl, hb3⟩
            clear k0 k1 k2 k3 k4 k5 ltk_1 r0 r1 r2 r3 r4 ltr_1
            replace Bk := upK Bk hb3
            replace Br := upK Br hb3
            replace HB := upB HB hb3
            clear hb3
            go_wp2
            go_ret
            exact BoolB.f (fun h => HKH.out (h.2 k x HXx.out).1) HB.out
          obtain ⟨i2, kd2, g1, g2⟩ := hkh
          have HG1 := hidK g1
          have HG2 := hidK g2
          have hi20 : ¬ ((i2 : Int) < 0) := by omega
          have hi21 : decide ((i2 : Int) < 0) = false := by simp
          clear g1 g2
          by_cases he : x.v = ⟨#[]⟩
          · have hq := isE_y he
            have HEm := hidK he
            clear he
            obtain ⟨r, hre⟩ : ∃ r : Int, e = .returned (.int .i64 r) := by rcases hf with ⟨j, y, _, _, h⟩ | ⟨_, h⟩ <;> exact ⟨_, h⟩
            subst hre
            clear hf
            obtain ⟨k0, k1, k2, k3, k4, k5⟩ := cs6 Bk.out
            have ltk_1 := lt_of_some Bk.out
            obtain ⟨r0, r1, r2, r3, r4⟩ := cs5 Br.out
            have ltr_1 := lt_of_some Br.out
            go_wp2_with fail
            refine (sxkd_hit ⟨a1, l1, y1, a2, l2, y2, a3, l3, y3, (some ⟨b, o, none⟩), l4, y4, a5, l5, y5⟩ c.now c.ks x.k _ (HR.out.k.below HB.out) HKS.out HG1.out HG2.out).mono ?_
            rintro e w2 ⟨rfl, hb3⟩
            clear k0 k1 k2 k3 k4 k5 ltk_1 r0 r1 r2 r3 r4 ltr_1
            replace Bk := upK Bk hb3
            replace Br := upK Br hb3
            replace HB := upB HB hb3
            clear hb3
            obtain ⟨k0, k1, k2, k3, k4, k5⟩ := cs6 Bk.out
            have ltk_2 := lt_of_some Bk.out
            obtain ⟨r0, r1, r2, r3, r4⟩ := cs5 Br.out
            have ltr_2 := lt_of_some Br.out
            go_wp2_with fail
            refine ⟨⟨k + 1, by omega, by go_num, fun j z hj hz => ?_, HB.out, Bk.out⟩, by simp [intOf]; omega⟩
            by_cases e : j = k
            · subst e
              rw [HXx.out] at hz
              obtain rfl := Option.some.inj hz
              exact ⟨⟨i2, kd2, HG1.out, HG2.out⟩, .inl HEm.out⟩
            · exact HQ.out j z (by omega) hz
          have hq := isE_no he
          have HEm := hidK he
          clear he
          rcases hf with ⟨j3, y, h1, h2, rfl⟩ | ⟨hh, rfl⟩
          rotate_left
          · have HH := hidK hh
            clear hh
            obtain ⟨k0, k1, k2, k3, k4, k5⟩ := cs6 Bk.out
            have ltk_1 := lt_of_some Bk.out
            obtain ⟨r0, r1, r2, r3, r4⟩ := cs5 Br.out
            have ltr_1 := lt_of_some Br.out
            go_wp2_with fail
            refine (sxkd_hit ⟨a1, l1, y1, a2, l2, y2, a3, l3, y3, (some ⟨b, o, none⟩), l4, y4, a5, l5, y5⟩ c.now c.ks x.k _ (HR.out.k.below HB.out) HKS.out HG1.out HG2.out).mono ?_
            rintro e w2 ⟨rfl, hb3⟩
            clear k0 k1 k2 k3 k4 k5 ltk_1 r0 r1 r2 r3 r4 ltr_1
            replace Bk := upK Bk hb3
            replace Br := upK Br hb3
            replace HB := upB HB hb3
            clear hb3
            have pr : w2.cell? ⟨wr.heap.size, 4, none⟩ = some (.string x.v) := cellK Br.out 4
            have Gk : Hid (w2.heap[w.heap.size]? = some (.cells #[.slice a1 l1 y1, .slice a2 l2 y2, .slice a3 l3 y3, .slice (some ⟨b, o, none⟩) l4 y4, .slice a5 l5 y5, .int .i64 c.now] 38 (0, 0))) := Bk.out
            have Gr : Hid (w2.heap[wr.heap.size]? = some (.cells #[.string x.n, .int .i64 x.z, .string x.k, .bool x.x, .string x.v] 98 (0, 0))) := Br.out
            have HW : Hid (Below w.heap.size w w2) := HB.out
            have k2 := fun q : Wd w2 => q.slot (o := 2) Gk.out rfl
            have r0 := fun q : Wd w2 => q.slot (o := 0) Gr.out rfl
            have r1 := fun q : Wd w2 => q.slot (o := 1) Gr.out rfl
            have r2 := fun q : Wd w2 => q.slot (o := 2) Gr.out rfl
            have r3 := fun q : Wd w2 => q.slot (o := 3) Gr.out rfl
            have r4 := fun q : Wd w2 => q.slot (o := 4) Gr.out rfl
            have hne0 := Wd.ne w2
            go_wp2_with fail
            refine wp_region_wide (by kernel_rfl) (by kernel_rfl) ?_
            repeat (go_big_quiet_step (first | fail))
            refine wpQuiet_nil ?_
            rintro _ ⟨q1, rfl⟩
            have HB3 := upB HW q1.b
            have Ck := upK Gk q1.b
            have Cr := upK Gr q1.b
            clear hne0 HW HB k2 r0 r1 r2 r3 r4 Gk Gr Bk Br pr
            have HB := HB3
            clear HB3
            have Bk := Ck
            clear Ck
            have Br := Cr
            clear Cr
            go_wp2
            go_ret
            refine BoolB.f (fun h => ?_) HB.out
            rcases (h.2 k x HXx.out).2 with h2 | ⟨i, y, h2, h3, _⟩
            · exact HEm.out h2
            · exact HH.out i y h2 h3
          have hl3' : j3 < l3 := by have h3 := (List.getElem?_eq_some_iff.1 h1).1; omega
          obtain ⟨b3, o3, y', rfl, hb3, hy', hat⟩ := vd_at HR.out.v hl3'
          rw [h1] at hy'
          obtain rfl := Option.some.inj hy'
          obtain ⟨va, vl, vc, hvr, z0, z2, z3, z5, c0, c1, c2, c3, c4, c5, c6, c7⟩ := vd_cells hat
          have HJ := hidK h1
          have HN := hidK h2
          have hj0 : ¬ ((j3 : Int) < 0) := by omega
          have hj1 : decide ((j3 : Int) < 0) = false := by simp
          have HC1 := hidK c1
          have HC3 := hidK c3
          have HC4 := hidK c4
          have HC5 := hidK c5
          have HB3 := hidK hb3
          clear hy' hat hvr z0 z2 z3 z5 c0 c1 c2 c3 c4 c5 c6 c7 h1 h2 hb3
          obtain ⟨k0, k1, k2, k3, k4, k5⟩ := cs6 Bk.out
          have ltk_1 := lt_of_some Bk.out
          obtain ⟨r0, r1, r2, r3, r4⟩ := cs5 Br.out
          have ltr_1 := lt_of_some Br.out
          go_wp2_with fail
          refine (sxkd_hit ⟨a1, l1, y1, a2, l2, y2, (some ⟨b3, o3, none⟩), l3, y3, (some ⟨b, o, none⟩), l4, y4, a5, l5, y5⟩ c.now c.ks x.k _ (HR.out.k.below HB.out) HKS.out HG1.out HG2.out).mono ?_
          rintro e w2 ⟨rfl, hb3⟩
          clear k0 k1 k2 k3 k4 k5 ltk_1 r0 r1 r2 r3 r4 ltr_1
          replace Bk := upK Bk hb3
          replace Br := upK Br hb3
          replace HB := upB HB hb3
          clear hb3
          have pr : w2.cell? ⟨wr.heap.size, 4, none⟩ = some (.string x.v) := cellK Br.out 4
          have hbv : b3 < w2.heap.size := Nat.lt_of_lt_of_le HB3.out HB.out.size
          have v1 := (cell_below HB.out HB3.out).trans HC1.out
          have v3 := (cell_below HB.out HB3.out).trans HC3.out
          have v4 := (cell_below HB.out HB3.out).trans HC4.out
          have v5 := (cell_below HB.out HB3.out).trans HC5.out
          clear HC1 HC3 HC4 HC5 HB3
          by_cases hno : y.m = x.n
          rotate_left
          · have HNo := hidK hno
            clear hno
            have n1 := tl_no HNo.out
            have Gk : Hid (w2.heap[w.heap.size]? = some (.cells #[.slice a1 l1 y1, .slice a2 l2 y2, .slice (some ⟨b3, o3, none⟩) l3 y3, .slice (some ⟨b, o, none⟩) l4 y4, .slice a5 l5 y5, .int .i64 c.now] 38 (0, 0))) := Bk.out
            have Gr : Hid (w2.heap[wr.heap.size]? = some (.cells #[.string x.n, .int .i64 x.z, .string x.k, .bool x.x, .string x.v] 98 (0, 0))) := Br.out
            have HW : Hid (Below w.heap.size w w2) := HB.out
            have k2 := fun q : Wd w2 => q.slot (o := 2) Gk.out rfl
            have r0 := fun q : Wd w2 => q.slot (o := 0) Gr.out rfl
            have r1 := fun q : Wd w2 => q.slot (o := 1) Gr.out rfl
            have r2 := fun q : Wd w2 => q.slot (o := 2) Gr.out rfl
            have r3 := fun q : Wd w2 => q.slot (o := 3) Gr.out rfl
            have r4 := fun q : Wd w2 => q.slot (o := 4) Gr.out rfl
            have v1w : ∀ q : Wd w2, q.w.cell? ⟨b3, o3 + j3 * 8 + 1, none⟩ = some (.int .i64 y.c) := fun q => (q.cell (hbv)).trans (v1)
            have v3w : ∀ q : Wd w2, q.w.cell? ⟨b3, o3 + j3 * 8 + 3, none⟩ = some (.string y.k) := fun q => (q.cell (hbv)).trans (v3)
            have v4w : ∀ q : Wd w2, q.w.cell? ⟨b3, o3 + j3 * 8 + 4, none⟩ = some (.bool y.x) := fun q => (q.cell (hbv)).trans (v4)
            have v5w : ∀ q : Wd w2, q.w.cell? ⟨b3, o3 + j3 * 8 + 5, none⟩ = some (.string y.m) := fun q => (q.cell (hbv)).trans (v5)
            have hne0 := Wd.ne w2
            go_wp2_with fail
            refine wp_region_wide (by kernel_rfl) (by kernel_rfl) ?_
            repeat (go_big_quiet_step (first | fail))
            refine wpQuiet_nil ?_
            rintro _ ⟨q1, rfl⟩
            have HB3 := upB HW q1.b
            have Ck := upK Gk q1.b
            have Cr := upK Gr q1.b
            clear hne0 HW HB k2 r0 r1 r2 r3 r4 v1w v3w v4w v5w Gk Gr Bk Br pr v1 v3 v4 v5 hbv
            have HB := HB3
            clear HB3
            have Bk := Ck
            clear Ck
            have Br := Cr
            clear Cr
            go_wp2
            go_ret
            refine BoolB.f (fun h => ?_) HB.out
            rcases (h.2 k x HXx.out).2 with h2 | ⟨i, y2, h2, h3, h4⟩
            · exact HEm.out h2
            · obtain ⟨_, rfl⟩ := HVS.out.inj h2 HJ.out (h3.trans HN.out.symm)
              exact HNo.out h4.1
          have HY1 := hidK hno
          have q1 := tl_yes hno
          clear hno
          by_cases hno : x.z ≤ y.c
          rotate_left
          · have HNo := hidK hno
            clear hno
            have n1 : y.c < x.z := by have := HNo.out; omega
            have Gk : Hid (w2.heap[w.heap.size]? = some (.cells #[.slice a1 l1 y1, .slice a2 l2 y2, .slice (some ⟨b3, o3, none⟩) l3 y3, .slice (some ⟨b, o, none⟩) l4 y4, .slice a5 l5 y5, .int .i64 c.now] 38 (0, 0))) := Bk.out
            have Gr : Hid (w2.heap[wr.heap.size]? = some (.cells #[.string x.n, .int .i64 x.z, .string x.k, .bool x.x, .string x.v] 98 (0, 0))) := Br.out
            have HW : Hid (Below w.heap.size w w2) := HB.out
            have k2 := fun q : Wd w2 => q.slot (o := 2) Gk.out rfl
            have r0 := fun q : Wd w2 => q.slot (o := 0) Gr.out rfl
            have r1 := fun q : Wd w2 => q.slot (o := 1) Gr.out rfl
            have r2 := fun q : Wd w2 => q.slot (o := 2) Gr.out rfl
            have r3 := fun q : Wd w2 => q.slot (o := 3) Gr.out rfl
            have r4 := fun q : Wd w2 => q.slot (o := 4) Gr.out rfl
            have v1w : ∀ q : Wd w2, q.w.cell? ⟨b3, o3 + j3 * 8 + 1, none⟩ = some (.int .i64 y.c) := fun q => (q.cell (hbv)).trans (v1)
            have v3w : ∀ q : Wd w2, q.w.cell? ⟨b3, o3 + j3 * 8 + 3, none⟩ = some (.string y.k) := fun q => (q.cell (hbv)).trans (v3)
            have v4w : ∀ q : Wd w2, q.w.cell? ⟨b3, o3 + j3 * 8 + 4, none⟩ = some (.bool y.x) := fun q => (q.cell (hbv)).trans (v4)
            have v5w : ∀ q : Wd w2, q.w.cell? ⟨b3, o3 + j3 * 8 + 5, none⟩ = some (.string y.m) := fun q => (q.cell (hbv)).trans (v5)
            have hne0 := Wd.ne w2
            go_wp2_with fail
            refine wp_region_wide (by kernel_rfl) (by kernel_rfl) ?_
            repeat (go_big_quiet_step (first | fail))
            refine wpQuiet_nil ?_
            rintro _ ⟨q1, rfl⟩
            have HB3 := upB HW q1.b
            have Ck := upK Gk q1.b
            have Cr := upK Gr q1.b
            clear hne0 HW HB k2 r0 r1 r2 r3 r4 v1w v3w v4w v5w Gk Gr Bk Br pr v1 v3 v4 v5 hbv
            have HB := HB3
            clear HB3
            have Bk := Ck
            clear Ck
            have Br := Cr
            clear Cr
            go_wp2
            go_ret
            refine BoolB.f (fun h => ?_) HB.out
            rcases (h.2 k x HXx.out).2 with h2 | ⟨i, y2, h2, h3, h4⟩
            · exact HEm.out h2
            · obtain ⟨_, rfl⟩ := HVS.out.inj h2 HJ.out (h3.trans HN.out.symm)
              have h5 := h4.2.1; have h6 := HNo.out; omega
          have HY2 := hidK hno
          have q2 : decide (y.c < x.z) = false := by simp; omega
          clear hno
          by_cases hno : y.k = x.k
          rotate_left
          · have HNo := hidK hno
            clear hno
            have n1 := tl_no HNo.out
            have Gk : Hid (w2.heap[w.heap.size]? = some (.cells #[.slice a1 l1 y1, .slice a2 l2 y2, .slice (some ⟨b3, o3, none⟩) l3 y3, .slice (some ⟨b, o, none⟩) l4 y4, .slice a5 l5 y5, .int .i64 c.now] 38 (0, 0))) := Bk.out
            have Gr : Hid (w2.heap[wr.heap.size]? = some (.cells #[.string x.n, .int .i64 x.z, .string x.k, .bool x.x, .string x.v] 98 (0, 0))) := Br.out
            have HW : Hid (Below w.heap.size w w2) := HB.out
            have k2 := fun q : Wd w2 => q.slot (o := 2) Gk.out rfl
            have r0 := fun q : Wd w2 => q.slot (o := 0) Gr.out rfl
            have r1 := fun q : Wd w2 => q.slot (o := 1) Gr.out rfl
            have r2 := fun q : Wd w2 => q.slot (o := 2) Gr.out rfl
            have r3 := fun q : Wd w2 => q.slot (o := 3) Gr.out rfl
            have r4 := fun q : Wd w2 => q.slot (o := 4) Gr.out rfl
            have v1w : ∀ q : Wd w2, q.w.cell? ⟨b3, o3 + j3 * 8 + 1, none⟩ = some (.int .i64 y.c) := fun q => (q.cell (hbv)).trans (v1)
            have v3w : ∀ q : Wd w2, q.w.cell? ⟨b3, o3 + j3 * 8 + 3, none⟩ = some (.string y.k) := fun q => (q.cell (hbv)).trans (v3)
            have v4w : ∀ q : Wd w2, q.w.cell? ⟨b3, o3 + j3 * 8 + 4, none⟩ = some (.bool y.x) := fun q => (q.cell (hbv)).trans (v4)
            have v5w : ∀ q : Wd w2, q.w.cell? ⟨b3, o3 + j3 * 8 + 5, none⟩ = some (.string y.m) := fun q => (q.cell (hbv)).trans (v5)
            have hne0 := Wd.ne w2
            go_wp2_with fail
            refine wp_region_wide (by kernel_rfl) (by kernel_rfl) ?_
            repeat (go_big_quiet_step (first | fail))
            refine wpQuiet_nil ?_
            rintro _ ⟨q1, rfl⟩
            have HB3 := upB HW q1.b
            have Ck := upK Gk q1.b
            have Cr := upK Gr q1.b
            clear hne0 HW HB k2 r0 r1 r2 r3 r4 v1w v3w v4w v5w Gk Gr Bk Br pr v1 v3 v4 v5 hbv
            have HB := HB3
            clear HB3
            have Bk := Ck
            clear Ck
            have Br := Cr
            clear Cr
            go_wp2
            go_ret
            refine BoolB.f (fun h => ?_) HB.out
            rcases (h.2 k x HXx.out).2 with h2 | ⟨i, y2, h2, h3, h4⟩
            · exact HEm.out h2
            · obtain ⟨_, rfl⟩ := HVS.out.inj h2 HJ.out (h3.trans HN.out.symm)
              exact HNo.out h4.2.2.1
          have HY3 := hidK hno
          have q3 := tl_yes hno
          clear hno
          by_cases hno : y.x = x.x
          rotate_left
          · have HNo := hidK hno
            clear hno
            have n1 : (y.x == x.x) = false := by simpa using HNo.out
            have Gk : Hid (w2.heap[w.heap.size]? = some (.cells #[.slice a1 l1 y1, .slice a2 l2 y2, .slice (some ⟨b3, o3, none⟩) l3 y3, .slice (some ⟨b, o, none⟩) l4 y4, .slice a5 l5 y5, .int .i64 c.now] 38 (0, 0))) := Bk.out
            have Gr : Hid (w2.heap[wr.heap.size]? = some (.cells #[.string x.n, .int .i64 x.z, .string x.k, .bool x.x, .string x.v] 98 (0, 0))) := Br.out
            have HW : Hid (Below w.heap.size w w2) := HB.out
            have k2 := fun q : Wd w2 => q.slot (o := 2) Gk.out rfl
            have r0 := fun q : Wd w2 => q.slot (o := 0) Gr.out rfl
            have r1 := fun q : Wd w2 => q.slot (o := 1) Gr.out rfl
            have r2 := fun q : Wd w2 => q.slot (o := 2) Gr.out rfl
            have r3 := fun q : Wd w2 => q.slot (o := 3) Gr.out rfl
            have r4 := fun q : Wd w2 => q.slot (o := 4) Gr.out rfl
            have v1w : ∀ q : Wd w2, q.w.cell? ⟨b3, o3 + j3 * 8 + 1, none⟩ = some (.int .i64 y.c) := fun q => (q.cell (hbv)).trans (v1)
            have v3w : ∀ q : Wd w2, q.w.cell? ⟨b3, o3 + j3 * 8 + 3, none⟩ = some (.string y.k) := fun q => (q.cell (hbv)).trans (v3)
            have v4w : ∀ q : Wd w2, q.w.cell? ⟨b3, o3 + j3 * 8 + 4, none⟩ = some (.bool y.x) := fun q => (q.cell (hbv)).trans (v4)
            have v5w : ∀ q : Wd w2, q.w.cell? ⟨b3, o3 + j3 * 8 + 5, none⟩ = some (.string y.m) := fun q => (q.cell (hbv)).trans (v5)
            have hne0 := Wd.ne w2
            go_wp2_with fail
            refine wp_region_wide (by kernel_rfl) (by kernel_rfl) ?_
            repeat (go_big_quiet_step (first | fail))
            refine wpQuiet_nil ?_
            rintro _ ⟨q1, rfl⟩
            have HB3 := upB HW q1.b
            have Ck := upK Gk q1.b
            have Cr := upK Gr q1.b
            clear hne0 HW HB k2 r0 r1 r2 r3 r4 v1w v3w v4w v5w Gk Gr Bk Br pr v1 v3 v4 v5 hbv
            have HB := HB3
            clear HB3
            have Bk := Ck
            clear Ck
            have Br := Cr
            clear Cr
            go_wp2
            go_ret
            refine BoolB.f (fun h => ?_) HB.out
            rcases (h.2 k x HXx.out).2 with h2 | ⟨i, y2, h2, h3, h4⟩
            · exact HEm.out h2
            · obtain ⟨_, rfl⟩ := HVS.out.inj h2 HJ.out (h3.trans HN.out.symm)
              exact HNo.out h4.2.2.2
          have HY4 := hidK hno
          have q4 : (y.x == x.x) = true := by simpa using hno
          clear hno
          have Gk : Hid (w2.heap[w.heap.size]? = some (.cells #[.slice a1 l1 y1, .slice a2 l2 y2, .slice (some ⟨b3, o3, none⟩) l3 y3, .slice (some ⟨b, o, none⟩) l4 y4, .slice a5 l5 y5, .int .i64 c.now] 38 (0, 0))) := Bk.out
          have Gr : Hid (w2.heap[wr.heap.size]? = some (.cells #[.string x.n, .int .i64 x.z, .string x.k, .bool x.x, .string x.v] 98 (0, 0))) := Br.out
          have HW : Hid (Below w.heap.size w w2) := HB.out
          have k2 := fun q : Wd w2 => q.slot (o := 2) Gk.out rfl
          have r0 := fun q : Wd w2 => q.slot (o := 0) Gr.out rfl
          have r1 := fun q : Wd w2 => q.slot (o := 1) Gr.out rfl
          have r2 := fun q : Wd w2 => q.slot (o := 2) Gr.out rfl
          have r3 := fun q : Wd w2 => q.slot (o := 3) Gr.out rfl
          have r4 := fun q : Wd w2 => q.slot (o := 4) Gr.out rfl
          have v1w : ∀ q : Wd w2, q.w.cell? ⟨b3, o3 + j3 * 8 + 1, none⟩ = some (.int .i64 y.c) := fun q => (q.cell (hbv)).trans (v1)
          have v3w : ∀ q : Wd w2, q.w.cell? ⟨b3, o3 + j3 * 8 + 3, none⟩ = some (.string y.k) := fun q => (q.cell (hbv)).trans (v3)
          have v4w : ∀ q : Wd w2, q.w.cell? ⟨b3, o3 + j3 * 8 + 4, none⟩ = some (.bool y.x) := fun q => (q.cell (hbv)).trans (v4)
          have v5w : ∀ q : Wd w2, q.w.cell? ⟨b3, o3 + j3 * 8 + 5, none⟩ = some (.string y.m) := fun q => (q.cell (hbv)).trans (v5)
          have hne0 := Wd.ne w2
          go_wp2_with fail
          refine wp_region_wide (by kernel_rfl) (by kernel_rfl) ?_
          repeat (go_big_quiet_step (first | fail))
          refine wpQuiet_nil ?_
          rintro _ ⟨qz, rfl⟩
          have HB3 := upB HW qz.b
          have Ck := upK Gk qz.b
          have Cr := upK Gr qz.b
          clear hne0 HW HB k2 r0 r1 r2 r3 r4 v1w v3w v4w v5w Gk Gr Bk Br pr v1 v3 v4 v5 hbv
          have HB := HB3
          clear HB3
          have Bk := Ck
          clear Ck
          have Br := Cr
          clear Cr
          clear q1 q2 q3 q4
          go_wp2_with fail
          refine ⟨⟨k + 1, by omega, by go_num, fun j z hj hz => ?_, HB.out, Bk.out⟩, by simp [intOf]; omega⟩
          by_cases e : j = k
          · subst e
            rw [HXx.out] at hz
            obtain rfl := Option.some.inj hz
            exact ⟨⟨i2, kd2, HG1.out, HG2.out⟩, .inr ⟨j3, y, HJ.out, HN.out, HY1.out, HY2.out, HY3.out, HY4.out⟩⟩
          · exact HQ.out j z (by omega) hz
        · obtain rfl : l4 = k := by omega
          have HQ2 : Hid (∀ (j : Nat) z, c.xs[j]? = some z → SX c z) := fun j z hz => HQ.out j z (by have := (List.getElem?_eq_some_iff.1 hz).1; omega) hz
          clear HQ
          go_wp2
          go_ret
          exact BoolB.t ⟨HQ1.out, HQ2.out⟩ HB.out

end Rc
end Go.Proofs.YtclhdmpfponjdaaGreatDoor
