import Derived.Test.YtmknjejaochfjaaGreatDoorA3
import Derived.Laws.AppendOwn
import Derived.Laws.AppendOwnNone
import Derived.Deep.AppendLies
import Derived.Lib.Overlaps
import Derived.Lib.SliceRun
import Derived.Lib.AppendZerosOnto
import Derived.Deep.RegionLaw
import Derived.Shelf.RegionOpenPlain
import Derived.Test.YtmknjejaochfjaaGreatDoorRows
import Derived.WalkKit
import Derived.WalkSpells
import Derived.OwnWalk
import Derived.Outline
import Derived.Lib.BufferWrite
import Derived.Laws.CopyOwn
import Derived.Laws.IdiomStrings
/-
 The laws' measure and copy of a cluster.
-/
set_option maxRecDepth 100000
set_option maxHeartbeats 12800000
namespace Go.Proofs.YtmknjejaochfjaaGreatDoor
open Go.RowKit
namespace Rc
open Mk

structure ClFit (c : Cl) : Prop where
 l1 : c.ns.length ≤ 1048576
 f1 : ∀ (j : Nat) x,c.ns[j]? = some x → x.zs.length ≤ 1048576
 l2 : c.ks.length ≤ 1048576
 l3 : c.vs.length ≤ 1048576
 f3 : ∀ (j : Nat) x,c.vs[j]? = some x → x.zs.length ≤ 1048576
 l4 : c.xs.length ≤ 1048576
 l5 : c.ps.length ≤ 1048576
 f5 : ∀ (j : Nat) x,c.ps[j]? = some x → x.zs.length ≤ 1048576

theorem szCluster_any (d : Ad) (c : Cl) (w : World) (hr : ClRow w d c.raw) :
  Calls Tryz.prog 4 #[.agg #[.slice d.a1 d.l1 d.c1,.slice d.a2 d.l2 d.c2,.slice d.a3 d.l3 d.c3,.slice d.a4 d.l4 d.c4,.slice d.a5 d.l5 d.c5,.int .i64 c.now],.int .i64 1048576] w (SzB 1048576 (ClFit c) w):=by
 have HR:=hidK hr;have HB:=hidK (Below.refl w.heap.size w);clear hr
 go_enter Tryz.func4,Tryz.ntmps4
 go_wp2_with fail;refine (sznd_any d.a1 d.l1 d.c1 c.ns 1048576 _ (HR.out.n.below (HB.out.trans ((below1 _ _).mono HB.out.size))) (by omega) (by omega)).mono ?_;rintro e w1 ⟨r1,rfl,hi,hb⟩;obtain ⟨HA0,hbx⟩:=slots1 hb;have Bk:=hidK HA0;replace HB:=upB HB hbx;clear hb hbx HA0
 rcases hi with rfl | ⟨hr10,hr11,hz1⟩
 ·obtain ⟨k0,k1,k2,k3,k4,k5⟩:=cs6 Bk.out;have ltk_1:=lt_of_some Bk.out
  go_wp2
  go_ret;exact ⟨-1,rfl,.inl rfl,HB.out⟩
 have HZ1:=hidK hz1;clear hz1;obtain ⟨k0,k1,k2,k3,k4,k5⟩:=cs6 Bk.out;have ltk_1:=lt_of_some Bk.out;go_wp2_with fail;refine (szkd_any d.a2 d.l2 d.c2 c.ks r1 _ (HR.out.k.below HB.out) (by omega) (by omega)).mono ?_;rintro e w2 ⟨r2,rfl,hi,hb⟩;clear k0 k1 k2 k3 k4 k5 ltk_1;replace Bk:=upK Bk hb;replace HB:=upB HB hb;clear hb
 rcases hi with rfl | ⟨hr20,hr21,hz2⟩
 ·obtain ⟨k0,k1,k2,k3,k4,k5⟩:=cs6 Bk.out;have ltk_2:=lt_of_some Bk.out
  go_wp2
  go_ret;exact ⟨-1,rfl,.inl rfl,HB.out⟩
 have HZ2:=hidK hz2;clear hz2;obtain ⟨k0,k1,k2,k3,k4,k5⟩:=cs6 Bk.out;have ltk_2:=lt_of_some Bk.out;go_wp2_with fail;refine (szvd_any d.a3 d.l3 d.c3 c.vs r2 _ (HR.out.v.below HB.out) (by omega) (by omega)).mono ?_;rintro e w3 ⟨r3,rfl,hi,hb⟩;clear k0 k1 k2 k3 k4 k5 ltk_2;replace Bk:=upK Bk hb;replace HB:=upB HB hb;clear hb
 rcases hi with rfl | ⟨hr30,hr31,hz3⟩
 ·obtain ⟨k0,k1,k2,k3,k4,k5⟩:=cs6 Bk.out;have ltk_3:=lt_of_some Bk.out
  go_wp2
  go_ret;exact ⟨-1,rfl,.inl rfl,HB.out⟩
 have HZ3:=hidK hz3;clear hz3;obtain ⟨k0,k1,k2,k3,k4,k5⟩:=cs6 Bk.out;have ltk_3:=lt_of_some Bk.out;go_wp2_with fail;refine (szxd_any d.a4 d.l4 d.c4 c.xs r3 _ (HR.out.x.below HB.out) (by omega) (by omega)).mono ?_;rintro e w4 ⟨r4,rfl,hi,hb⟩;clear k0 k1 k2 k3 k4 k5 ltk_3;replace Bk:=upK Bk hb;replace HB:=upB HB hb;clear hb
 rcases hi with rfl | ⟨hr40,hr41,hz4⟩
 ·obtain ⟨k0,k1,k2,k3,k4,k5⟩:=cs6 Bk.out;have ltk_4:=lt_of_some Bk.out
  go_wp2
  go_ret;exact ⟨-1,rfl,.inl rfl,HB.out⟩
 have HZ4:=hidK hz4;clear hz4;obtain ⟨k0,k1,k2,k3,k4,k5⟩:=cs6 Bk.out;have ltk_4:=lt_of_some Bk.out;go_wp2_with fail;refine (szpd_any d.a5 d.l5 d.c5 c.ps r4 _ (HR.out.p.below HB.out) (by omega) (by omega)).mono ?_;rintro e w5 ⟨r5,rfl,hi,hb⟩;clear k0 k1 k2 k3 k4 k5 ltk_4;replace Bk:=upK Bk hb;replace HB:=upB HB hb;clear hb
 rcases hi with rfl | ⟨hr50,hr51,hz5⟩
 ·obtain ⟨k0,k1,k2,k3,k4,k5⟩:=cs6 Bk.out;have ltk_5:=lt_of_some Bk.out
  go_wp2
  go_ret;exact ⟨-1,rfl,.inl rfl,HB.out⟩
 have HZ5:=hidK hz5;clear hz5
 go_wp2
 go_ret;refine ⟨r5,rfl,.inr ⟨by omega,by omega,?_⟩,HB.out⟩
 have e1 : c.ns.length = d.l1:=by simpa using (show (c.ns.map ndF).length = d.l1 from HR.out.n.1)
 have e2 : c.ks.length = d.l2:=by simpa using (show (c.ks.map kdF).length = d.l2 from HR.out.k.1)
 have e3 : c.vs.length = d.l3:=by simpa using (show (c.vs.map vdF).length = d.l3 from HR.out.v.1)
 have e4 : c.xs.length = d.l4:=by simpa using (show (c.xs.map xdF).length = d.l4 from HR.out.x.1)
 have e5 : c.ps.length = d.l5:=by simpa using (show (c.ps.map pdF).length = d.l5 from HR.out.p.1)
 exact ⟨by rw [e1];exact HZ1.out.1,HZ1.out.2,by rw [e2];exact HZ2.out,by rw [e3];exact HZ3.out.1,HZ3.out.2,by rw [e4];exact HZ4.out,by rw [e5];exact HZ5.out.1,HZ5.out.2⟩

theorem toCluster_any (d : Ad) (c : Cl) (w : World) (hr : ClRow w d c.raw) (hf : ClFit c) :
  Calls Tryz.prog 6 #[.agg #[.slice d.a1 d.l1 d.c1,.slice d.a2 d.l2 d.c2,.slice d.a3 d.l3 d.c3,.slice d.a4 d.l4 d.c4,.slice d.a5 d.l5 d.c5,.int .i64 c.now]] w fun e w' => ∃ d' : Ad,e = .returned (.agg #[.slice d'.a1 d'.l1 d'.c1,.slice d'.a2 d'.l2 d'.c2,.slice d'.a3 d'.l3 d'.c3,.slice d'.a4 d'.l4 d'.c4,.slice d'.a5 d'.l5 d'.c5,.int .i64 c.now]) ∧ ClOwn w' d' c.raw (fun k => w.heap.size ≤ k) ∧ Below w.heap.size w w':=by
 have HR:=hidK hr;have HF:=hidK hf
 have e1 : c.ns.length = d.l1:=by simpa using (show (c.ns.map ndF).length = d.l1 from hr.n.1)
 have hL1 : d.l1 ≤ 1048576:=by rw [← e1];exact hf.l1
 have e2 : c.ks.length = d.l2:=by simpa using (show (c.ks.map kdF).length = d.l2 from hr.k.1)
 have hL2 : d.l2 ≤ 1048576:=by rw [← e2];exact hf.l2
 have e3 : c.vs.length = d.l3:=by simpa using (show (c.vs.map vdF).length = d.l3 from hr.v.1)
 have hL3 : d.l3 ≤ 1048576:=by rw [← e3];exact hf.l3
 have e4 : c.xs.length = d.l4:=by simpa using (show (c.xs.map xdF).length = d.l4 from hr.x.1)
 have hL4 : d.l4 ≤ 1048576:=by rw [← e4];exact hf.l4
 have e5 : c.ps.length = d.l5:=by simpa using (show (c.ps.map pdF).length = d.l5 from hr.p.1)
 have hL5 : d.l5 ≤ 1048576:=by rw [← e5];exact hf.l5
 clear hr hf e1 e2 e3 e4 e5;obtain ⟨X0,hX0⟩ : ∃ X,X = ((w.alloc (.cells #[.slice d.a1 d.l1 d.c1,.slice d.a2 d.l2 d.c2,.slice d.a3 d.l3 d.c3,.slice d.a4 d.l4 d.c4,.slice d.a5 d.l5 d.c5,.int .i64 c.now] 28)).alloc (.cells #[.slice none 0 0,.slice none 0 0,.slice none 0 0,.slice none 0 0,.slice none 0 0,.int .i64 0] 36)).alloc (.cells #[.slice none 0 0,.slice none 0 0,.slice none 0 0,.slice none 0 0,.slice none 0 0,.int .i64 0] 36):=⟨_,rfl⟩
 have B0 : Hid (Below w.heap.size w X0):=by rw [hX0];exact below3 _ _ _ _
 have bx0 : Hid (X0.heap[w.heap.size]? = some (.cells #[.slice d.a1 d.l1 d.c1,.slice d.a2 d.l2 d.c2,.slice d.a3 d.l3 d.c3,.slice d.a4 d.l4 d.c4,.slice d.a5 d.l5 d.c5,.int .i64 c.now] 28 (0,0))):=by rw [hX0];exact heap3_0 _ _ _ _
 have br0 : Hid (X0.heap[w.heap.size + 1]? = some (.cells #[.slice none 0 0,.slice none 0 0,.slice none 0 0,.slice none 0 0,.slice none 0 0,.int .i64 0] 36 (0,0))):=by rw [hX0];exact heap3_1 _ _ _ _
 have bl0 : Hid (X0.heap[w.heap.size + 1 + 1]? = some (.cells #[.slice none 0 0,.slice none 0 0,.slice none 0 0,.slice none 0 0,.slice none 0 0,.int .i64 0] 36 (0,0))):=by rw [hX0];exact heap3_2 _ _ _ _
 have hs0 : w.heap.size + 1 + 1 < X0.heap.size:=lt_of_some bl0.out
 go_enter Tryz.func6,Tryz.ntmps6
 go_wp2_with fail;rw [← hX0];clear hX0;refine (tond_any d.a1 d.l1 d.c1 c.ns _ (HR.out.n.below B0.out) hL1 HF.out.f1).mono ?_;rintro e w1 ⟨rfl,ho,hb⟩;have hsz1:=hb.size;have gx:=(hb.block _ (lt_of_some bx0.out)).trans bx0.out;have gr:=(hb.block _ (lt_of_some br0.out)).trans br0.out;have gl:=(hb.block _ (lt_of_some bl0.out)).trans bl0.out;have gB:=B0.out.trans (hb.mono B0.out.size);have P1:=hidK ho;clear ho hb bx0 br0 bl0 B0;have pl : w1.cell? ⟨w.heap.size + 1 + 1,0,none⟩ = some (.slice none 0 0):=cellK gl 0;have fl:=froK gl 0;have px : w1.cell? ⟨w.heap.size,1,none⟩ = some (.slice d.a2 d.l2 d.c2):=cellK gx 1;obtain ⟨X1,hX1⟩ : ∃ X,X = w1.setCell ⟨w.heap.size + 1 + 1,0,none⟩ (.slice (some ⟨X0.heap.size,0,none⟩) d.l1 d.l1):=⟨_,rfl⟩
 have hxa1 : X1.heap.size ≤ w1.heap.size:=by rw [hX1];simp [World.setCell]
 have hxb1 : w1.heap.size ≤ X1.heap.size:=by rw [hX1];simp [World.setCell]
 have bx1 : Hid (X1.heap[w.heap.size]? = some (.cells #[.slice d.a1 d.l1 d.c1,.slice d.a2 d.l2 d.c2,.slice d.a3 d.l3 d.c3,.slice d.a4 d.l4 d.c4,.slice d.a5 d.l5 d.c5,.int .i64 c.now] 28 (0,0))):=by rw [hX1];exact set_keeps (by omega) gx
 have br1 : Hid (X1.heap[w.heap.size + 1]? = some (.cells #[.slice none 0 0,.slice none 0 0,.slice none 0 0,.slice none 0 0,.slice none 0 0,.int .i64 0] 36 (0,0))):=by rw [hX1];exact set_keeps (by omega) gr
 have bl1 : Hid (X1.heap[w.heap.size + 1 + 1]? = some (.cells #[.slice (some ⟨X0.heap.size,0,none⟩) d.l1 d.l1,.slice none 0 0,.slice none 0 0,.slice none 0 0,.slice none 0 0,.int .i64 0] 36 (0,0))):=by rw [hX1];have:=block_set (i:=0) gl (.slice (some ⟨X0.heap.size,0,none⟩) d.l1 d.l1);simpa [Hid] using this
 have B1 : Hid (Below w.heap.size w X1):=by rw [hX1];exact set_below (by omega) gB
 have O1:=hidK (P1.out.keep (w':=X1) (fun k hk s => by rw [hX1];exact Below.heap_setCell _ _ _ _ (show k ≠ w.heap.size + 1 + 1 by have h9 : X0.heap.size ≤ k:=s;omega)) (fun k hk s => (⟨s,hk⟩ : X0.heap.size ≤ k ∧ k < w1.heap.size)));clear gx gr gl gB P1;go_wp2_with fail;rw [← hX1];clear hX1;clear pl fl px;refine (tokd_any d.a2 d.l2 d.c2 c.ks _ (HR.out.k.below B1.out) hL2).mono ?_;rintro e w2 ⟨rfl,ho,hb⟩;have hsz2:=hb.size;have gx:=(hb.block _ (lt_of_some bx1.out)).trans bx1.out;have gr:=(hb.block _ (lt_of_some br1.out)).trans br1.out;have gl:=(hb.block _ (lt_of_some bl1.out)).trans bl1.out;have gB:=B1.out.trans (hb.mono B1.out.size);have P2:=hidK ho;have Q1:=hidK (O1.out.below hb);clear ho hb bx1 br1 bl1 B1 O1;have pl : w2.cell? ⟨w.heap.size + 1 + 1,1,none⟩ = some (.slice none 0 0):=cellK gl 1;have fl:=froK gl 1;have px : w2.cell? ⟨w.heap.size,2,none⟩ = some (.slice d.a3 d.l3 d.c3):=cellK gx 2;obtain ⟨X2,hX2⟩ : ∃ X,X = w2.setCell ⟨w.heap.size + 1 + 1,1,none⟩ (.slice (some ⟨X1.heap.size,0,none⟩) d.l2 d.l2):=⟨_,rfl⟩
 have hxa2 : X2.heap.size ≤ w2.heap.size:=by rw [hX2];simp [World.setCell]
 have hxb2 : w2.heap.size ≤ X2.heap.size:=by rw [hX2];simp [World.setCell]
 have bx2 : Hid (X2.heap[w.heap.size]? = some (.cells #[.slice d.a1 d.l1 d.c1,.slice d.a2 d.l2 d.c2,.slice d.a3 d.l3 d.c3,.slice d.a4 d.l4 d.c4,.slice d.a5 d.l5 d.c5,.int .i64 c.now] 28 (0,0))):=by rw [hX2];exact set_keeps (by omega) gx
 have br2 : Hid (X2.heap[w.heap.size + 1]? = some (.cells #[.slice none 0 0,.slice none 0 0,.slice none 0 0,.slice none 0 0,.slice none 0 0,.int .i64 0] 36 (0,0))):=by rw [hX2];exact set_keeps (by omega) gr
 have bl2 : Hid (X2.heap[w.heap.size + 1 + 1]? = some (.cells #[.slice (some ⟨X0.heap.size,0,none⟩) d.l1 d.l1,.slice (some ⟨X1.heap.size,0,none⟩) d.l2 d.l2,.slice none 0 0,.slice none 0 0,.slice none 0 0,.int .i64 0] 36 (0,0))):=by rw [hX2];have:=block_set (i:=1) gl (.slice (some ⟨X1.heap.size,0,none⟩) d.l2 d.l2);simpa [Hid] using this
 have B2 : Hid (Below w.heap.size w X2):=by rw [hX2];exact set_below (by omega) gB
 have O1:=hidK (Q1.out.keep (w':=X2) (fun k hk s => by rw [hX2];exact Below.heap_setCell _ _ _ _ (show k ≠ w.heap.size + 1 + 1 by have h9 : X0.heap.size ≤ k:=s.1;omega)) (fun k hk s => s));have O2:=hidK (P2.out.keep (w':=X2) (fun k hk s => by rw [hX2];exact Below.heap_setCell _ _ _ _ (show k ≠ w.heap.size + 1 + 1 by have h9 : X1.heap.size ≤ k:=s;omega)) (fun k hk s => (⟨s,hk⟩ : X1.heap.size ≤ k ∧ k < w2.heap.size)));clear gx gr gl gB P2 Q1;go_wp2_with fail;rw [← hX2];clear hX2;clear pl fl px;refine (tovd_any d.a3 d.l3 d.c3 c.vs _ (HR.out.v.below B2.out) hL3 HF.out.f3).mono ?_;rintro e w3 ⟨rfl,ho,hb⟩;have hsz3:=hb.size;have gx:=(hb.block _ (lt_of_some bx2.out)).trans bx2.out;have gr:=(hb.block _ (lt_of_some br2.out)).trans br2.out;have gl:=(hb.block _ (lt_of_some bl2.out)).trans bl2.out;have gB:=B2.out.trans (hb.mono B2.out.size);have P3:=hidK ho;have Q1:=hidK (O1.out.below hb);have Q2:=hidK (O2.out.below hb);clear ho hb bx2 br2 bl2 B2 O1 O2;have pl : w3.cell? ⟨w.heap.size + 1 + 1,2,none⟩ = some (.slice none 0 0):=cellK gl 2;have fl:=froK gl 2;have px : w3.cell? ⟨w.heap.size,3,none⟩ = some (.slice d.a4 d.l4 d.c4):=cellK gx 3;obtain ⟨X3,hX3⟩ : ∃ X,X = w3.setCell ⟨w.heap.size + 1 + 1,2,none⟩ (.slice (some ⟨X2.heap.size,0,none⟩) d.l3 d.l3):=⟨_,rfl⟩
 have hxa3 : X3.heap.size ≤ w3.heap.size:=by rw [hX3];simp [World.setCell]
 have hxb3 : w3.heap.size ≤ X3.heap.size:=by rw [hX3];simp [World.setCell]
 have bx3 : Hid (X3.heap[w.heap.size]? = some (.cells #[.slice d.a1 d.l1 d.c1,.slice d.a2 d.l2 d.c2,.slice d.a3 d.l3 d.c3,.slice d.a4 d.l4 d.c4,.slice d.a5 d.l5 d.c5,.int .i64 c.now] 28 (0,0))):=by rw [hX3];exact set_keeps (by omega) gx
 have br3 : Hid (X3.heap[w.heap.size + 1]? = some (.cells #[.slice none 0 0,.slice none 0 0,.slice none 0 0,.slice none 0 0,.slice none 0 0,.int .i64 0] 36 (0,0))):=by rw [hX3];exact set_keeps (by omega) gr
 have bl3 : Hid (X3.heap[w.heap.size + 1 + 1]? = some (.cells #[.slice (some ⟨X0.heap.size,0,none⟩) d.l1 d.l1,.slice (some ⟨X1.heap.size,0,none⟩) d.l2 d.l2,.slice (some ⟨X2.heap.size,0,none⟩) d.l3 d.l3,.slice none 0 0,.slice none 0 0,.int .i64 0] 36 (0,0))):=by rw [hX3];have:=block_set (i:=2) gl (.slice (some ⟨X2.heap.size,0,none⟩) d.l3 d.l3);simpa [Hid] using this
 have B3 : Hid (Below w.heap.size w X3):=by rw [hX3];exact set_below (by omega) gB
 have O1:=hidK (Q1.out.keep (w':=X3) (fun k hk s => by rw [hX3];exact Below.heap_setCell _ _ _ _ (show k ≠ w.heap.size + 1 + 1 by have h9 : X0.heap.size ≤ k:=s.1;omega)) (fun k hk s => s));have O2:=hidK (Q2.out.keep (w':=X3) (fun k hk s => by rw [hX3];exact Below.heap_setCell _ _ _ _ (show k ≠ w.heap.size + 1 + 1 by have h9 : X1.heap.size ≤ k:=s.1;omega)) (fun k hk s => s));have O3:=hidK (P3.out.keep (w':=X3) (fun k hk s => by rw [hX3];exact Below.heap_setCell _ _ _ _ (show k ≠ w.heap.size + 1 + 1 by have h9 : X2.heap.size ≤ k:=s;omega)) (fun k hk s => (⟨s,hk⟩ : X2.heap.size ≤ k ∧ k < w3.heap.size)));clear gx gr gl gB P3 Q1 Q2;go_wp2_with fail;rw [← hX3];clear hX3;clear pl fl px;refine (toxd_any d.a4 d.l4 d.c4 c.xs _ (HR.out.x.below B3.out) hL4).mono ?_;rintro e w4 ⟨rfl,ho,hb⟩;have hsz4:=hb.size;have gx:=(hb.block _ (lt_of_some bx3.out)).trans bx3.out;have gr:=(hb.block _ (lt_of_some br3.out)).trans br3.out;have gl:=(hb.block _ (lt_of_some bl3.out)).trans bl3.out;have gB:=B3.out.trans (hb.mono B3.out.size);have P4:=hidK ho;have Q1:=hidK (O1.out.below hb);have Q2:=hidK (O2.out.below hb);have Q3:=hidK (O3.out.below hb);clear ho hb bx3 br3 bl3 B3 O1 O2 O3;have pl : w4.cell? ⟨w.heap.size + 1 + 1,3,none⟩ = some (.slice none 0 0):=cellK gl 3;have fl:=froK gl 3;have px : w4.cell? ⟨w.heap.size,4,none⟩ = some (.slice d.a5 d.l5 d.c5):=cellK gx 4;obtain ⟨X4,hX4⟩ : ∃ X,X = w4.setCell ⟨w.heap.size + 1 + 1,3,none⟩ (.slice (some ⟨X3.heap.size,0,none⟩) d.l4 d.l4):=⟨_,rfl⟩
 have hxa4 : X4.heap.size ≤ w4.heap.size:=by rw [hX4];simp [World.setCell]
 have hxb4 : w4.heap.size ≤ X4.heap.size:=by rw [hX4];simp [World.setCell]
 have bx4 : Hid (X4.heap[w.heap.size]? = some (.cells #[.slice d.a1 d.l1 d.c1,.slice d.a2 d.l2 d.c2,.slice d.a3 d.l3 d.c3,.slice d.a4 d.l4 d.c4,.slice d.a5 d.l5 d.c5,.int .i64 c.now] 28 (0,0))):=by rw [hX4];exact set_keeps (by omega) gx
 have br4 : Hid (X4.heap[w.heap.size + 1]? = some (.cells #[.slice none 0 0,.slice none 0 0,.slice none 0 0,.slice none 0 0,.slice none 0 0,.int .i64 0] 36 (0,0))):=by rw [hX4];exact set_keeps (by omega) gr
 have bl4 : Hid (X4.heap[w.heap.size + 1 + 1]? = some (.cells #[.slice (some ⟨X0.heap.size,0,none⟩) d.l1 d.l1,.slice (some ⟨X1.heap.size,0,none⟩) d.l2 d.l2,.slice (some ⟨X2.heap.size,0,none⟩) d.l3 d.l3,.slice (some ⟨X3.heap.size,0,none⟩) d.l4 d.l4,.slice none 0 0,.int .i64 0] 36 (0,0))):=by rw [hX4];have:=block_set (i:=3) gl (.slice (some ⟨X3.heap.size,0,none⟩) d.l4 d.l4);simpa [Hid] using this
 have B4 : Hid (Below w.heap.size w X4):=by rw [hX4];exact set_below (by omega) gB
 have O1:=hidK (Q1.out.keep (w':=X4) (fun k hk s => by rw [hX4];exact Below.heap_setCell _ _ _ _ (show k ≠ w.heap.size + 1 + 1 by have h9 : X0.heap.size ≤ k:=s.1;omega)) (fun k hk s => s));have O2:=hidK (Q2.out.keep (w':=X4) (fun k hk s => by rw [hX4];exact Below.heap_setCell _ _ _ _ (show k ≠ w.heap.size + 1 + 1 by have h9 : X1.heap.size ≤ k:=s.1;omega)) (fun k hk s => s));have O3:=hidK (Q3.out.keep (w':=X4) (fun k hk s => by rw [hX4];exact Below.heap_setCell _ _ _ _ (show k ≠ w.heap.size + 1 + 1 by have h9 : X2.heap.size ≤ k:=s.1;omega)) (fun k hk s => s));have O4:=hidK (P4.out.keep (w':=X4) (fun k hk s => by rw [hX4];exact Below.heap_setCell _ _ _ _ (show k ≠ w.heap.size + 1 + 1 by have h9 : X3.heap.size ≤ k:=s;omega)) (fun k hk s => (⟨s,hk⟩ : X3.heap.size ≤ k ∧ k < w4.heap.size)));clear gx gr gl gB P4 Q1 Q2 Q3;go_wp2_with fail;rw [← hX4];clear hX4;clear pl fl px;refine (topd_any d.a5 d.l5 d.c5 c.ps _ (HR.out.p.below B4.out) hL5 HF.out.f5).mono ?_;rintro e w5 ⟨rfl,ho,hb⟩;have hsz5:=hb.size;have gx:=(hb.block _ (lt_of_some bx4.out)).trans bx4.out;have gr:=(hb.block _ (lt_of_some br4.out)).trans br4.out;have gl:=(hb.block _ (lt_of_some bl4.out)).trans bl4.out;have gB:=B4.out.trans (hb.mono B4.out.size);have P5:=hidK ho;have Q1:=hidK (O1.out.below hb);have Q2:=hidK (O2.out.below hb);have Q3:=hidK (O3.out.below hb);have Q4:=hidK (O4.out.below hb);clear ho hb bx4 br4 bl4 B4 O1 O2 O3 O4;have l4 : w5.cell? ⟨w.heap.size + 1 + 1,4,none⟩ = some (.slice none 0 0):=cellK gl 4;have l5 : w5.cell? ⟨w.heap.size + 1 + 1,5,none⟩ = some (.int .i64 0):=cellK gl 5;have l0 : w5.cell? ⟨w.heap.size + 1 + 1,0,none⟩ = some (.slice (some ⟨X0.heap.size,0,none⟩) d.l1 d.l1):=cellK gl 0;have l1 : w5.cell? ⟨w.heap.size + 1 + 1,1,none⟩ = some (.slice (some ⟨X1.heap.size,0,none⟩) d.l2 d.l2):=cellK gl 1
 have l2 : w5.cell? ⟨w.heap.size + 1 + 1,2,none⟩ = some (.slice (some ⟨X2.heap.size,0,none⟩) d.l3 d.l3):=cellK gl 2;have l3 : w5.cell? ⟨w.heap.size + 1 + 1,3,none⟩ = some (.slice (some ⟨X3.heap.size,0,none⟩) d.l4 d.l4):=cellK gl 3;have fl0:=froK gl 0;have r0 : w5.cell? ⟨w.heap.size + 1,0,none⟩ = some (.slice none 0 0):=cellK gr 0;have fr0:=froK gr 0;have fl1:=froK gl 1;have r1 : w5.cell? ⟨w.heap.size + 1,1,none⟩ = some (.slice none 0 0):=cellK gr 1;have fr1:=froK gr 1;have fl2:=froK gl 2;have r2 : w5.cell? ⟨w.heap.size + 1,2,none⟩ = some (.slice none 0 0):=cellK gr 2;have fr2:=froK gr 2;have fl3:=froK gl 3;have r3 : w5.cell? ⟨w.heap.size + 1,3,none⟩ = some (.slice none 0 0):=cellK gr 3;have fr3:=froK gr 3;have fl4:=froK gl 4;have r4 : w5.cell? ⟨w.heap.size + 1,4,none⟩ = some (.slice none 0 0):=cellK gr 4;have fr4:=froK gr 4;have fl5:=froK gl 5;have r5 : w5.cell? ⟨w.heap.size + 1,5,none⟩ = some (.int .i64 0):=cellK gr 5;have fr5:=froK gr 5;have px : w5.cell? ⟨w.heap.size,5,none⟩ = some (.int .i64 c.now):=cellK gx 5;have GB:=hidK gB;clear gx gr gl gB
 go_wp2
 refine bodyPost_ret (v:=.agg #[.slice (some ⟨X0.heap.size,0,none⟩) d.l1 d.l1,.slice (some ⟨X1.heap.size,0,none⟩) d.l2 d.l2,.slice (some ⟨X2.heap.size,0,none⟩) d.l3 d.l3,.slice (some ⟨X3.heap.size,0,none⟩) d.l4 d.l4,.slice (some ⟨X4.heap.size,0,none⟩) d.l5 d.l5,.int .i64 c.now]) (by simp [results,Tryz.results6,go_sem, *]) rfl ⟨⟨some ⟨X0.heap.size,0,none⟩,d.l1,d.l1,some ⟨X1.heap.size,0,none⟩,d.l2,d.l2,some ⟨X2.heap.size,0,none⟩,d.l3,d.l3,some ⟨X3.heap.size,0,none⟩,d.l4,d.l4,some ⟨X4.heap.size,0,none⟩,d.l5,d.l5⟩,rfl,?_,sb1 (sb1 (sb1 (sb1 (sb1 (sb1 (sb2 (sb2 (GB.out))))))))⟩;have keep : ∀ k,w.heap.size + 1 + 1 < k → ∀ (W : World),True → (W.heap[k]? = W.heap[k]?):=fun _ _ _ _ => rfl;clear keep
 have same : ∀ k,w.heap.size + 1 + 1 < k → ((((((((w5.setCell ⟨w.heap.size + 1 + 1,4,none⟩ (.slice (some ⟨X4.heap.size,0,none⟩) d.l5 d.l5)).setCell ⟨w.heap.size + 1 + 1,5,none⟩ (.int .i64 c.now)).setCell ⟨w.heap.size + 1,0,none⟩ (.slice (some ⟨X0.heap.size,0,none⟩) d.l1 d.l1)).setCell ⟨w.heap.size + 1,1,none⟩ (.slice (some ⟨X1.heap.size,0,none⟩) d.l2 d.l2)).setCell ⟨w.heap.size + 1,2,none⟩ (.slice (some ⟨X2.heap.size,0,none⟩) d.l3 d.l3)).setCell ⟨w.heap.size + 1,3,none⟩ (.slice (some ⟨X3.heap.size,0,none⟩) d.l4 d.l4)).setCell ⟨w.heap.size + 1,4,none⟩ (.slice (some ⟨X4.heap.size,0,none⟩) d.l5 d.l5)).setCell ⟨w.heap.size + 1,5,none⟩ (.int .i64 c.now)).heap[k]? = w5.heap[k]?:=fun k hk => by
  rw [Below.heap_setCell _ _ _ _ (show k ≠ w.heap.size + 1 by omega),Below.heap_setCell _ _ _ _ (show k ≠ w.heap.size + 1 by omega),Below.heap_setCell _ _ _ _ (show k ≠ w.heap.size + 1 by omega),Below.heap_setCell _ _ _ _ (show k ≠ w.heap.size + 1 by omega),Below.heap_setCell _ _ _ _ (show k ≠ w.heap.size + 1 by omega),Below.heap_setCell _ _ _ _ (show k ≠ w.heap.size + 1 by omega),Below.heap_setCell _ _ _ _ (show k ≠ w.heap.size + 1 + 1 by omega),Below.heap_setCell _ _ _ _ (show k ≠ w.heap.size + 1 + 1 by omega)]
 refine ⟨fun k => if k < w1.heap.size then 1 else if k < w2.heap.size then 2 else if k < w3.heap.size then 3 else if k < w4.heap.size then 4 else 5,?_,?_,?_,?_,?_⟩
 ·refine Q1.out.keep (fun k hk s => same k (by have h9 : X0.heap.size ≤ k:=s.1;omega)) (fun k hk s => ⟨?_,?_⟩)
  ·have h9 : X0.heap.size ≤ k:=s.1
   show w.heap.size ≤ k
   omega
  ·have h9 : X0.heap.size ≤ k:=s.1;have h8 : k < w1.heap.size:=s.2
   show (if k < w1.heap.size then 1 else if k < w2.heap.size then 2 else if k < w3.heap.size then 3 else if k < w4.heap.size then 4 else 5) = 1
   rw [if_pos h8]
 ·refine Q2.out.keep (fun k hk s => same k (by have h9 : X1.heap.size ≤ k:=s.1;omega)) (fun k hk s => ⟨?_,?_⟩)
  ·have h9 : X1.heap.size ≤ k:=s.1
   show w.heap.size ≤ k
   omega
  ·have h9 : X1.heap.size ≤ k:=s.1;have h8 : k < w2.heap.size:=s.2
   show (if k < w1.heap.size then 1 else if k < w2.heap.size then 2 else if k < w3.heap.size then 3 else if k < w4.heap.size then 4 else 5) = 2
   rw [if_neg (by omega)];rw [if_pos h8]
 ·refine Q3.out.keep (fun k hk s => same k (by have h9 : X2.heap.size ≤ k:=s.1;omega)) (fun k hk s => ⟨?_,?_⟩)
  ·have h9 : X2.heap.size ≤ k:=s.1
   show w.heap.size ≤ k
   omega
  ·have h9 : X2.heap.size ≤ k:=s.1;have h8 : k < w3.heap.size:=s.2
   show (if k < w1.heap.size then 1 else if k < w2.heap.size then 2 else if k < w3.heap.size then 3 else if k < w4.heap.size then 4 else 5) = 3
   rw [if_neg (by omega)];rw [if_neg (by omega)];rw [if_pos h8]
 ·refine Q4.out.keep (fun k hk s => same k (by have h9 : X3.heap.size ≤ k:=s.1;omega)) (fun k hk s => ⟨?_,?_⟩)
  ·have h9 : X3.heap.size ≤ k:=s.1
   show w.heap.size ≤ k
   omega
  ·have h9 : X3.heap.size ≤ k:=s.1;have h8 : k < w4.heap.size:=s.2
   show (if k < w1.heap.size then 1 else if k < w2.heap.size then 2 else if k < w3.heap.size then 3 else if k < w4.heap.size then 4 else 5) = 4
   rw [if_neg (by omega)];rw [if_neg (by omega)];rw [if_neg (by omega)];rw [if_pos h8]
 ·refine P5.out.keep (fun k hk s => same k (by have h9 : X4.heap.size ≤ k:=s;omega)) (fun k hk s => ⟨?_,?_⟩)
  ·have h9 : X4.heap.size ≤ k:=s
   show w.heap.size ≤ k
   omega
  ·have h9 : X4.heap.size ≤ k:=s
   show (if k < w1.heap.size then 1 else if k < w2.heap.size then 2 else if k < w3.heap.size then 3 else if k < w4.heap.size then 4 else 5) = 5
   rw [if_neg (by omega)];rw [if_neg (by omega)];rw [if_neg (by omega)];rw [if_neg (by omega)];skip

def LFr (w : World) (h : Nat) (S : Nat → Prop) (zs : List ByteArray) (v : Value) : Prop :=
 ∃ a len cap,v = .slice a len cap ∧ zs.length = len ∧ len ≤ cap ∧ cap ≤ 9223372036854775807 ∧ (∀ (j : Nat) x,zs[j]? = some x → x.size ≤ 9223372036854775807) ∧
  (zs = [] ∨ (a = some ⟨h,0,none⟩ ∧ S h ∧ ∃ cu,w.heap[h]? = some (.cells cu 9 (0,0)) ∧ ∀ (j : Nat) x,zs[j]? = some x → cu[j]? = some (.string x)))
theorem LFr.keep {w w' : World} {h : Nat} {S S' : Nat → Prop} {zs : List ByteArray} {v : Value} (k : LFr w h S zs v) (hk : ∀ cu,S h → w.heap[h]? = some (.cells cu 9 (0,0)) → w'.heap[h]? = w.heap[h]?) (hs : h < w.heap.size → S h → S' h) : LFr w' h S' zs v:=by
 obtain ⟨a',l',c',h1,h2,h3,h4,h5,h6⟩:=k;refine ⟨a',l',c',h1,h2,h3,h4,h5,h6.imp id ?_⟩;rintro ⟨q1,q2,cu,q4,q5⟩;exact ⟨q1,hs (lt_of_some q4) q2,cu,(hk cu q2 q4).trans q4,q5⟩
def Fv.Fr (w : World) (h : Nat) (S : Nat → Prop) : Fv → Value → Prop
 | .s t,v => v = .string t ∧ t.size ≤ 9223372036854775807
 | .i n,v => v = .int .i64 n
 | .b x,v => v = .bool x
 | .l zs,v => LFr w h S zs v
theorem Fv.Fr.keep {w w' : World} {h : Nat} {S S' : Nat → Prop} {f : Fv} {v : Value} (k : f.Fr w h S v) (hk : ∀ cu,S h → w.heap[h]? = some (.cells cu 9 (0,0)) → w'.heap[h]? = w.heap[h]?) (hs : h < w.heap.size → S h → S' h) : f.Fr w' h S' v:=by
 cases f with
 | l zs => exact LFr.keep k hk hs
 | _ => exact k
theorem Fv.Fr.own {w : World} {h g : Nat} {S : Nat → Prop} {f : Fv} {v : Value} {cur : Array Value} {T : TypeId} (k : f.Fr w h S v) (hg : w.heap[g]? = some (.cells cur T (0,0))) (hT : ¬ T = 9) : f.Own w h S g v:=by
 cases f with
 | l zs =>
  obtain ⟨a',l',c',h1,h2,h3,h4,h5,h6⟩:=k;refine ⟨a',l',c',h1,h2,h3,h4,h5,h6.imp id ?_⟩;rintro ⟨q1,q2,cu,q4,q5⟩;refine ⟨q1,q2,?_,cu,q4,q5⟩;rintro rfl;rw [hg] at q4
  cases q4
  exact hT rfl
 | _ => exact k
theorem Fv.Own.fr {w : World} {h g : Nat} {S : Nat → Prop} {f : Fv} {v : Value} (k : f.Own w h S g v) : f.Fr w h S v:=by
 cases f with
 | l zs =>
  obtain ⟨a',l',c',h1,h2,h3,h4,h5,h6⟩:=k;refine ⟨a',l',c',h1,h2,h3,h4,h5,h6.imp id ?_⟩;rintro ⟨q1,q2,q3,cu,q4,q5⟩;exact ⟨q1,q2,cu,q4,q5⟩
 | _ => exact k
theorem Fv.Fr.one {w : World} {h : Nat} {S : Nat → Prop} {f : Fv} {v : Value} (k : f.Fr w h S v) : v.oneCell' = true:=by
 cases f with
 | l zs => obtain ⟨a',l',c',rfl,_⟩:=k;rfl
 | s t => obtain ⟨rfl,_⟩:=k;rfl
 | i n => cases (show v = .int .i64 n from k);rfl
 | b x => cases (show v = .bool x from k);rfl

structure VRecs (w : World) (S : Nat → Prop) (m : Nat) (rs : List (List Fv)) (vss : List (List Value)) (H : Nat → Nat → Nat) : Prop where
 len : vss.length = rs.length
 all : ∀ (j : Nat) vs,vss[j]? = some vs → vs.length = m
 rl : ∀ (j : Nat) r,rs[j]? = some r → r.length = m
 cell : ∀ (j : Nat) r vs,rs[j]? = some r → vss[j]? = some vs → ∀ (i : Nat) f,r[i]? = some f → ∃ v,vs[i]? = some v ∧ f.Fr w (H j i) S v
 inj : ∀ (j : Nat) r (i : Nat) zs (j' : Nat) r' (i' : Nat) zs',rs[j]? = some r → r[i]? = some (.l zs) → zs ≠ [] → rs[j']? = some r' → r'[i']? = some (.l zs') → zs' ≠ [] → H j i = H j' i' → j = j' ∧ i = i'

section
variable {w w' : World} {S S' : Nat → Prop} {m : Nat} {rs : List (List Fv)} {vss : List (List Value)} {H : Nat → Nat → Nat}
theorem VRecs.nil (w : World) (S : Nat → Prop) (m : Nat) (H : Nat → Nat → Nat) : VRecs w S m [] [] H:=⟨rfl,fun j vs h => by simp at h,fun j r h => by simp at h,fun j r vs h => by simp at h,fun j r i zs j' r' i' zs' h => by simp at h⟩
theorem VRecs.keep (h : VRecs w S m rs vss H) (hk : ∀ k cu,S k → w.heap[k]? = some (.cells cu 9 (0,0)) → w'.heap[k]? = w.heap[k]?) (hs : ∀ k,k < w.heap.size → S k → S' k) : VRecs w' S' m rs vss H :=
 ⟨h.len,h.all,h.rl,fun j r vs h1 h2 i f h3 => by
  obtain ⟨v,h4,h5⟩:=h.cell j r vs h1 h2 i f h3
  exact ⟨v,h4,h5.keep (hk _) (hs _)⟩,h.inj⟩
theorem VRecs.below (h : VRecs w S m rs vss H) (hb : Below w.heap.size w w') : VRecs w' S m rs vss H:=h.keep (fun k _ _ q => hb.block k (lt_of_some q)) (fun _ _ s => s)
theorem VRecs.grown (h : VRecs w S m rs vss H) {base n : Nat} {T : TypeId} {v : Value} {xs : List Value} (ho : w.ownsRow base T m v n xs) (hT : ¬ T = 9) (hg : w.grownBy w' v.ownBlock) : VRecs w' S m rs vss H:=by
 refine h.keep (fun k cu _ q => hg.block k (lt_of_some q) (fun e => ?_)) (fun _ _ s => s)
 rcases ho.2 with ⟨rfl,_⟩ | ⟨g,cap,cur,rfl,_,hgg,_⟩
 ·cases e
 ·cases e
  simp only [] at q;rw [hgg] at q
  cases q
  exact hT rfl
theorem VRecs.lt (h : VRecs w S m rs vss H) {j : Nat} {r : List Fv} {i : Nat} {zs : List ByteArray} (h1 : rs[j]? = some r) (h2 : r[i]? = some (.l zs)) (h3 : zs ≠ []) : H j i < w.heap.size:=by
 have hj : j < vss.length:=by rw [h.len];exact (List.getElem?_eq_some_iff.1 h1).1
 obtain ⟨v,_,a,len,cap,_,_,_,_,_,h9⟩:=h.cell j r _ h1 (List.getElem?_eq_getElem hj) i _ h2
 rcases h9 with h9 | ⟨_,_,cu,q4,_⟩
 ·exact absurd h9 h3
 ·exact lt_of_some q4
theorem VRecs.sel (h : VRecs w S m rs vss H) {rs' : List (List Fv)} {vss' : List (List Value)} (f : Nat → Nat) (hl : vss'.length = rs'.length) (hr : ∀ j,j < rs'.length → rs'[j]? = rs[f j]?) (hv : ∀ j,j < rs'.length → vss'[j]? = vss[f j]?)
  (hf : ∀ j j',j < rs'.length → j' < rs'.length → f j = f j' → j = j') : VRecs w S m rs' vss' (fun j => H (f j)):=by
 have lt1 : ∀ {j : Nat} {r},rs'[j]? = some r → j < rs'.length:=fun h => (List.getElem?_eq_some_iff.1 h).1
 have lt2 : ∀ {j : Nat} {r},vss'[j]? = some r → j < rs'.length:=fun h => by rw [← hl];exact (List.getElem?_eq_some_iff.1 h).1
 refine ⟨hl,fun j vs h1 => h.all (f j) vs (by rw [← hv j (lt2 h1)];exact h1),fun j r h1 => h.rl (f j) r (by rw [← hr j (lt1 h1)];exact h1),fun j r vs h1 h2 => h.cell (f j) r vs (by rw [← hr j (lt1 h1)];exact h1) (by rw [← hv j (lt1 h1)];exact h2),?_⟩;intro j r i zs j' r' i' zs' h1 h2 h3 h4 h5 h6 h7;obtain ⟨e1,e2⟩:=h.inj (f j) r i zs (f j') r' i' zs' (by rw [← hr j (lt1 h1)];exact h1) h2 h3 (by rw [← hr j' (lt1 h4)];exact h4) h5 h6 h7;exact ⟨hf j j' (lt1 h1) (lt1 h4) e1,e2⟩
theorem VRecs.push (h : VRecs w S m rs vss H) {r : List Fv} {vs : List Value} {hh : Nat → Nat} (hr : r.length = m) (hvs : vs.length = m) (hc : ∀ (i : Nat) f,r[i]? = some f → ∃ v,vs[i]? = some v ∧ f.Fr w (hh i) S v)
  (hn : ∀ (i : Nat) zs,r[i]? = some (.l zs) → zs ≠ [] → ∀ (j : Nat) r' (i' : Nat) zs',rs[j]? = some r' → r'[i']? = some (.l zs') → zs' ≠ [] → ¬ H j i' = hh i)
  (h1 : ∀ (i i' : Nat) zs zs',r[i]? = some (.l zs) → zs ≠ [] → r[i']? = some (.l zs') → zs' ≠ [] → i = i') :
  VRecs w S m (rs ++ [r]) (vss ++ [vs]) (fun j => if j = rs.length then hh else H j):=by
 have at1 : ∀ {α : Type} {l : List α} {x y : α} {j : Nat},(l ++ [x])[j]? = some y → (j = l.length ∧ y = x) ∨ (j < l.length ∧ l[j]? = some y):=by
  intro α l x y j hj
  by_cases e : j < l.length
  ·rw [List.getElem?_append_left e] at hj;exact .inr ⟨e,hj⟩
  ·rw [List.getElem?_append_right (by omega)] at hj
   rcases Nat.eq_zero_or_pos (j - l.length) with e0 | e0
   ·rw [e0] at hj;exact .inl ⟨by omega,by simpa using hj.symm⟩
   ·rw [List.getElem?_eq_none (by simp;omega)] at hj;cases hj
 refine ⟨by simp [h.len],fun j v hv => ?_,fun j r' hj => ?_,fun j r' v hj hv i f hf => ?_,fun j r1 i zs j' r2 i' zs' a1 a2 a3 b1 b2 b3 e => ?_⟩
 ·rcases at1 hv with ⟨_,rfl⟩ | ⟨_,hv⟩
  ·exact hvs
  ·exact h.all j v hv
 ·rcases at1 hj with ⟨_,rfl⟩ | ⟨_,hj⟩
  ·exact hr
  ·exact h.rl j r' hj
 ·rcases at1 hj with ⟨e1,rfl⟩ | ⟨e1,hj⟩
  ·rcases at1 hv with ⟨_,rfl⟩ | ⟨e2,hv⟩
   ·simp only [e1,if_true];exact hc i f hf
   ·have:=h.len;omega
  ·rcases at1 hv with ⟨e2,rfl⟩ | ⟨e2,hv⟩
   ·have:=h.len;omega
   ·simp only [if_neg (show ¬ j = rs.length by omega)];exact h.cell j r' v hj hv i f hf
 ·rcases at1 a1 with ⟨e1,rfl⟩ | ⟨e1,a4⟩ <;> rcases at1 b1 with ⟨e2,rfl⟩ | ⟨e2,b4⟩
  ·exact ⟨by omega,h1 _ _ _ _ a2 a3 b2 b3⟩
  ·simp only [e1,if_true,if_neg (show ¬ j' = rs.length by omega)] at e;exact absurd e.symm (hn i zs a2 a3 j' r2 i' zs' b4 b2 b3)
  ·simp only [e2,if_true,if_neg (show ¬ j = rs.length by omega)] at e;exact absurd e (hn i' zs' b2 b3 j r1 i zs a4 a2 a3)
  ·simp only [if_neg (show ¬ j = rs.length by omega),if_neg (show ¬ j' = rs.length by omega)] at e;exact h.inj j r1 i zs j' r2 i' zs' a4 a2 a3 b4 b2 b3 e
end

theorem flat_at {α : Type} {m : Nat} : ∀ {vss : List (List α)},(∀ (j : Nat) vs,vss[j]? = some vs → vs.length = m) → ∀ {j : Nat} {vs : List α} {i : Nat} {u : α},vss[j]? = some vs → vs[i]? = some u → vss.flatten[j * m + i]? = some u
 | [],_,j,vs,i,u,h,_ => by simp at h
 | x :: vss,hl,0,vs,i,u,h,hu => by
  obtain rfl : x = vs:=by simpa using h
  have hx:=hl 0 x rfl;have hi:=(List.getElem?_eq_some_iff.1 hu).1;rw [List.flatten_cons,List.getElem?_append_left (by omega),Nat.zero_mul,Nat.zero_add];exact hu
 | x :: vss,hl,j + 1,vs,i,u,h,hu => by
  have hx:=hl 0 x rfl;rw [List.flatten_cons,List.getElem?_append_right (by rw [hx,Nat.succ_mul];omega),hx,show (j + 1) * m + i - m = j * m + i by rw [Nat.succ_mul];omega];exact flat_at (fun j' vs' h' => hl (j' + 1) vs' (by simpa using h')) (by simpa using h) hu
theorem flat_inv {α : Type} {m : Nat} : ∀ {vss : List (List α)},(∀ (j : Nat) vs,vss[j]? = some vs → vs.length = m) → ∀ {k : Nat} {u : α},vss.flatten[k]? = some u → ∃ (j i : Nat) (vs : List α),vss[j]? = some vs ∧ vs[i]? = some u ∧ k = j * m + i
 | [],_,k,u,h => by simp at h
 | x :: vss,hl,k,u,h => by
  have hx:=hl 0 x rfl;rw [List.flatten_cons] at h
  by_cases e : k < m
  ·rw [List.getElem?_append_left (by omega)] at h;exact ⟨0,k,x,rfl,h,by omega⟩
  ·rw [List.getElem?_append_right (by omega),hx] at h;obtain ⟨j,i,vs,h1,h2,h3⟩:=flat_inv (fun j' vs' h' => hl (j' + 1) vs' (by simpa using h')) h;exact ⟨j + 1,i,vs,by simpa using h1,h2,by rw [Nat.succ_mul];omega⟩
theorem flat_len {α : Type} {m : Nat} : ∀ {vss : List (List α)},(∀ (j : Nat) vs,vss[j]? = some vs → vs.length = m) → vss.flatten.length = vss.length * m
 | [],_ => by simp
 | x :: vss,hl => by
  have hx:=hl 0 x rfl;rw [List.flatten_cons,List.length_append,flat_len (fun j' vs' h' => hl (j' + 1) vs' (by simpa using h')),hx,List.length_cons,Nat.succ_mul]
  omega
theorem VRecs.one {w : World} {S : Nat → Prop} {m : Nat} {rs : List (List Fv)} {vss : List (List Value)} {H : Nat → Nat → Nat} (h : VRecs w S m rs vss H) : ∀ u ∈ vss.flatten,u.oneCell' = true:=by
 intro u hu;obtain ⟨k,hk,rfl⟩:=List.mem_iff_getElem.1 hu;obtain ⟨j,i,vs,h1,h2,_⟩:=flat_inv h.all (List.getElem?_eq_getElem hk)
 have hj : j < rs.length:=by rw [← h.len];exact (List.getElem?_eq_some_iff.1 h1).1
 have hr:=List.getElem?_eq_getElem hj
 have hi : i < (rs[j]).length:=by rw [h.rl j _ hr,← h.all j vs h1];exact (List.getElem?_eq_some_iff.1 h2).1
 obtain ⟨v,h3,h4⟩:=h.cell j _ vs hr h1 i _ (List.getElem?_eq_getElem hi);rw [h2] at h3
 cases h3
 exact h4.one

theorem VRecs.own {w : World} {S : Nat → Prop} {m : Nat} {T : TypeId} {rs : List (List Fv)} {vss : List (List Value)} {H : Nat → Nat → Nat} (h : VRecs w S m rs vss H) {base n : Nat} {v : Value} (ho : w.ownsRow base T m v n vss.flatten) (hn : n = rs.length) (hT : ¬ T = 9) (hS : ∀ g,v.ownBlock = some g → S g) :
  ∃ a cap,v = .slice a rs.length cap ∧ ROwn w a rs.length cap m T rs S:=by
 subst hn
 rcases ho.2 with ⟨rfl,h0⟩ | ⟨g,cap,cur,rfl,_,hgg,h1,h2,h3,h4⟩
 ·obtain rfl : rs = []:=List.eq_nil_of_length_eq_zero h0;exact ⟨none,0,rfl,ROwn.nil _ _ _ _ _ (by omega)⟩
 ·refine ⟨_,cap,rfl,rfl,h1,by unfold maxLen at h2;omega,.inr ⟨g,cur,H,rfl,hgg,hS g rfl,h.rl,fun j r hj i f hi => ?_,h.inj⟩⟩
  have hjl : j < vss.length:=by rw [h.len];exact (List.getElem?_eq_some_iff.1 hj).1
  have hv:=List.getElem?_eq_getElem hjl;obtain ⟨u,h5,h6⟩:=h.cell j r _ hj hv i f hi;have h7:=flat_at h.all hv h5;rw [← h4,List.getElem?_take] at h7
  split at h7
  ·exact ⟨u,by simpa using h7,h6.own hgg hT⟩
  ·cases h7
theorem ROwn.recs {w : World} {S : Nat → Prop} {m : Nat} {T : TypeId} {a : Option Addr} {len cap : Nat} {rs : List (List Fv)} (h : ROwn w a len cap m T rs S) :
  ∃ vss H,VRecs w S m rs vss H ∧ ∀ (k : Nat) u,vss.flatten[k]? = some u → ∃ g,a = some ⟨g,0,none⟩ ∧ S g ∧ w.cell? ⟨g,k,none⟩ = some u:=by
 obtain ⟨h1,h2,h3,h4⟩:=h
 rcases h4 with rfl | ⟨g,cur,H,rfl,h5⟩
 ·exact ⟨[],fun _ _ => 0,VRecs.nil _ _ _ _,fun k u hu => by simp at hu⟩
 ·have hget : ∀ (j i : Nat),((List.range rs.length).map fun j => (List.range m).map fun i => cur.getD (j * m + i) undef)[j]? = if j < rs.length then some ((List.range m).map fun i => cur.getD (j * m + i) undef) else none:=by
   intro j _;rw [List.getElem?_map]
   split
   ·next e => rw [List.getElem?_range e];rfl
   ·next e => rw [List.getElem?_eq_none (by simpa using e)];rfl
  have hval : ∀ (j : Nat) r,rs[j]? = some r → ∀ (i : Nat),i < m → ∃ f v,r[i]? = some f ∧ cur[j * m + i]? = some v ∧ f.Own w (H j i) S g v ∧ ((List.range m).map fun i => cur.getD (j * m + i) undef)[i]? = some v:=by
   intro j r hr i hi;have hl:=h5.len j r hr;have hf:=List.getElem?_eq_getElem (l:=r) (i:=i) (by omega);obtain ⟨v,q1,q2⟩:=h5.cell j r hr i _ hf;refine ⟨_,v,hf,q1,q2,?_⟩;rw [List.getElem?_map,List.getElem?_range hi]
   simp [Array.getD_eq_getD_getElem?,q1]
  have hvrecs : VRecs w S m rs ((List.range rs.length).map fun j => (List.range m).map fun i => cur.getD (j * m + i) undef) H:=by
   refine ⟨by simp,fun j vs hv => ?_,h5.len,fun j r vs hr hv i f hf => ?_,h5.inj⟩
   ·rw [hget j 0] at hv
    split at hv
    ·cases hv;simp
    ·cases hv
   ·rw [hget j 0,if_pos (List.getElem?_eq_some_iff.1 hr).1] at hv
    cases hv
    have hi : i < m:=by rw [← h5.len j r hr];exact (List.getElem?_eq_some_iff.1 hf).1
    obtain ⟨f',v,q1,q2,q3,q4⟩:=hval j r hr i hi;rw [hf] at q1
    cases q1
    exact ⟨v,q4,q3.fr⟩
  refine ⟨_,H,hvrecs,fun k u hu => ⟨g,rfl,h5.inS,?_⟩⟩;obtain ⟨j,i,vs,e1,e2,rfl⟩:=flat_inv hvrecs.all hu;rw [hget j 0] at e1
  split at e1
  ·next e =>
   cases e1
   have hi : i < m:=by have:=(List.getElem?_eq_some_iff.1 e2).1;simpa using this
   obtain ⟨f',v,q1,q2,q3,q4⟩:=hval j _ (List.getElem?_eq_getElem e) i hi;rw [e2] at q4
   cases q4
   exact (cellK h5.blk _).trans q2
  ·cases e1

def Bw (y W : World) : Prop:=Below y.heap.size y W
theorem Bw.refl (y : World) : Bw y y:=Below.refl _ _
theorem Bw.below {y W W' : World} (h : Bw y W) (hb : Below W.heap.size W W') : Bw y W':=Below.trans h (hb.mono (Below.size h))
theorem Bw.kept {y W W' : World} {S : Nat → Prop} (h : Bw y W) (hk : KeptS S W W') (hs : ∀ k,S k → y.heap.size ≤ k) : Bw y W':=Below.trans h (hk.low (Below.size h) hs)
theorem Bw.out {y W : World} (h : Bw y W) : Below y.heap.size y W:=h
theorem Bw.le {y W : World} (h : Bw y W) : y.heap.size ≤ W.heap.size:=Below.size h

def TOwn (w : World) (a : Option Addr) (l c : Nat) (zs : List ByteArray) (S : Nat → Prop) : Prop :=
 TxRow w a l c zs ∧ (zs = [] ∨ ∃ g cur,a = some ⟨g,0,none⟩ ∧ S g ∧ w.heap[g]? = some (.cells cur 9 (0,0)))
theorem TOwn.keep {w w' : World} {a : Option Addr} {l c : Nat} {zs : List ByteArray} {S S' : Nat → Prop} (h : TOwn w a l c zs S) (hk : ∀ k,k < w.heap.size → S k → w'.heap[k]? = w.heap[k]?) (hs : ∀ k,k < w.heap.size → S k → S' k) : TOwn w' a l c zs S':=by
 obtain ⟨⟨h1,h2,h3,h4,h5⟩,h6⟩:=h
 rcases h6 with rfl | ⟨g,cur,rfl,hS,hg⟩
 ·exact ⟨⟨h1,h2,h3,h4,.inl rfl⟩,.inl rfl⟩
 ·have hg':=(hk g (lt_of_some hg) hS).trans hg;refine ⟨⟨h1,h2,h3,h4,h5.imp id ?_⟩,.inr ⟨g,cur,rfl,hs g (lt_of_some hg) hS,hg'⟩⟩;rintro ⟨b,o,e,hlt,hc⟩
  cases e
  exact ⟨g,0,rfl,lt_of_some hg',fun j x hx => by have:=hc j x hx;rw [cellK hg] at this;rw [cellK hg'];exact this⟩
theorem TOwn.below {w w' : World} {a : Option Addr} {l c : Nat} {zs : List ByteArray} {S : Nat → Prop} (h : TOwn w a l c zs S) (hb : Below w.heap.size w w') : TOwn w' a l c zs S:=h.keep (fun k hk _ => hb.block k hk) (fun _ _ s => s)
theorem TOwn.into {w : World} {a : Option Addr} {l c : Nat} {zs : List ByteArray} {S S' : Nat → Prop} (h : TOwn w a l c zs S) (hs : ∀ k,k < w.heap.size → S k → S' k) : TOwn w a l c zs S':=h.keep (fun _ _ _ => rfl) hs
theorem TOwn.of_row {w : World} {base n : Nat} {v : Value} {zs : List ByteArray} (h : w.ownsRow base 9 1 v n (zs.map Value.string)) (hs : ∀ (j : Nat) x,zs[j]? = some x → x.size ≤ 9223372036854775807) : ∃ a c,v = .slice a n c ∧ TOwn w a n c zs (fun k => base ≤ k):=by
 obtain ⟨hl,h⟩:=h
 have hl' : zs.length = n:=by simpa using hl
 rcases h with ⟨rfl,rfl⟩ | ⟨g,cap,cur,rfl,hbg,hg,hnc,hcm,hsz,htk⟩
 ·obtain rfl : zs = []:=List.eq_nil_of_length_eq_zero hl';exact ⟨none,0,rfl,⟨rfl,Nat.le_refl _,by omega,fun j x hx => by simp at hx,.inl rfl⟩,.inl rfl⟩
 ·refine ⟨some ⟨g,0,none⟩,cap,rfl,⟨hl',hnc,by unfold maxLen at hcm;omega,hs,.inr ⟨g,0,rfl,lt_of_some hg,fun j x hx => ?_⟩⟩,.inr ⟨g,cur,rfl,hbg,hg⟩⟩;rw [Nat.zero_add,cellK hg]
  have hj : j < n:=by have:=(List.getElem?_eq_some_iff.1 hx).1;omega
  have e1 : (cur.toList.take (n * 1))[j]? = some (.string x):=by rw [htk];simp [hx]
  rw [List.getElem?_take,if_pos (by omega)] at e1
  simpa using e1
theorem owns_below {w w' : World} {base n m : Nat} {T : TypeId} {v : Value} {xs : List Value} (h : w.ownsRow base T m v n xs) (hb : Below w.heap.size w w') : w'.ownsRow base T m v n xs:=by
 refine ⟨h.1,h.2.imp id ?_⟩;rintro ⟨g,cap,cur,h1,h2,h3,h4⟩;exact ⟨g,cap,cur,h1,h2,(hb.block _ (lt_of_some h3)).trans h3,h4⟩

theorem mkN_up : ∀ (r : List Fv) (k : Int),(∀ (i : Nat) zs,r[i]? = some (.l zs) → zs.length ≤ 1048576) → mkN k r ≤ k + r.length * 1048577
 | [],k,_ => by simp [mkN]
 | f :: r,k,h => by
  have h1:=mkN_up r (mkN1 k f) (fun i zs hi => h (i + 1) zs (by simpa using hi))
  have h2 : mkN1 k f ≤ k + 1048577:=by
   cases f with
   | l zs => have:=h 0 zs rfl;simp only [mkN1];omega
   | _ => simp only [mkN1];omega
  simp only [mkN,List.length_cons]
  omega
theorem mkNs_up {m : Nat} : ∀ (rs : List (List Fv)) (k : Int),(∀ (j : Nat) r,rs[j]? = some r → r.length ≤ m ∧ ∀ (i : Nat) zs,r[i]? = some (.l zs) → zs.length ≤ 1048576) → mkNs k rs ≤ k + rs.length * (m * 1048577)
 | [],k,_ => by simp [mkNs]
 | r :: rs,k,h => by
  have h1:=mkNs_up rs (mkN k r) (fun j r' hj => h (j + 1) r' (by simpa using hj));obtain ⟨h2,h3⟩:=h 0 r rfl;have h4:=mkN_up r k h3;have h5 : r.length * 1048577 ≤ m * 1048577:=Nat.mul_le_mul_right _ h2
  have h6 : ((rs.length + 1 : Nat) : Int) * (m * 1048577) = rs.length * (m * 1048577) + m * 1048577:=by
   rw [Int.natCast_add]
   simp [Int.add_mul]
  simp only [mkNs,List.length_cons];rw [h6]
  omega
theorem flat_fit {α : Type} {F : α → List Fv} {xs : List α} {m : Nat} (hm : ∀ x,(F x).length ≤ m) (hl : ∀ (j : Nat) x,xs[j]? = some x → ∀ (i : Nat) zs,(F x)[i]? = some (.l zs) → zs.length ≤ 1048576) (hx : xs.length ≤ 1048576) (hm8 : m ≤ 8) (k : Int) : mkNs k (xs.map F) ≤ k + 8796101410816:=by
 have h:=mkNs_up (m:=m) (xs.map F) k (fun j r hj => by
  rw [List.getElem?_map] at hj;obtain ⟨x,h1,rfl⟩:=Option.map_eq_some_iff.1 hj
  exact ⟨hm x,hl j x h1⟩)
 rw [List.length_map] at h;have h2 : xs.length * (m * 1048577) ≤ 1048576 * (8 * 1048577):=Nat.mul_le_mul hx (Nat.mul_le_mul_right _ hm8)
 have h3 : ((xs.length * (m * 1048577) : Nat) : Int) = (xs.length : Int) * ((m : Int) * 1048577):=by rw [Int.natCast_mul,Int.natCast_mul];rfl
 rw [← h3] at h
 omega
theorem ClFit.marks2 {c : Cl} (h : ClFit c) : mkCn 1 c.raw ≤ 1000000000000000:=by
 have one : ∀ {zs zs' : List ByteArray},zs.length ≤ 1048576 → some (Fv.l zs) = some (.l zs') → zs'.length ≤ 1048576:=fun h e => by cases e;exact h
 have a1:=fun k => flat_fit (F:=ndF) (m:=7) (xs:=c.ns) (fun _ => Nat.le_refl _) (fun j x hx i zs hi => by
  rcases i with _ | _ | _ | _ | _ | _ | _ | i <;> first | (simp [ndF] at hi;done) | exact one (h.f1 j x hx) hi) h.l1 (by decide) k
 have a2:=fun k => flat_fit (F:=kdF) (m:=4) (xs:=c.ks) (fun _ => Nat.le_refl _) (fun j x hx i zs hi => by
  rcases i with _ | _ | _ | _ | i <;> (simp [kdF] at hi)) h.l2 (by decide) k
 have a3:=fun k => flat_fit (F:=vdF) (m:=8) (xs:=c.vs) (fun _ => Nat.le_refl _) (fun j x hx i zs hi => by
  rcases i with _ | _ | _ | _ | _ | _ | _ | _ | i <;> first | (simp [vdF] at hi;done) | exact one (h.f3 j x hx) hi) h.l3 (by decide) k
 have a4:=fun k => flat_fit (F:=xdF) (m:=5) (xs:=c.xs) (fun _ => Nat.le_refl _) (fun j x hx i zs hi => by
  rcases i with _ | _ | _ | _ | _ | i <;> (simp [xdF] at hi)) h.l4 (by decide) k
 have a5:=fun k => flat_fit (F:=pdF) (m:=6) (xs:=c.ps) (fun _ => Nat.le_refl _) (fun j x hx i zs hi => by
  rcases i with _ | _ | _ | _ | _ | _ | i <;> first | (simp [pdF] at hi;done) | exact one (h.f5 j x hx) hi) h.l5 (by decide) k
 unfold mkCn Cl.raw;have b1:=a1 1;have b2:=a2 (mkNs 1 (c.ns.map ndF));have b3:=a3 (mkNs (mkNs 1 (c.ns.map ndF)) (c.ks.map kdF));have b4:=a4 (mkNs (mkNs (mkNs 1 (c.ns.map ndF)) (c.ks.map kdF)) (c.vs.map vdF));have b5:=a5 (mkNs (mkNs (mkNs (mkNs 1 (c.ns.map ndF)) (c.ks.map kdF)) (c.vs.map vdF)) (c.xs.map xdF));simp only []
 omega
theorem ClFit.marks {c : Cl} (h : ClFit c) : mkCn 1 c.raw ≤ 1152921504606846976:=Int.le_trans h.marks2 (by decide)

end Rc
end Go.Proofs.YtmknjejaochfjaaGreatDoor

namespace Go.Proofs.YtmknjejaochfjaaGreatDoor
open Go.RowKit
namespace Ap

def OwnAns (zs : List ByteArray) (w : World) (a : Option Addr) (len cap : Nat) (w' : World) : Prop :=
 TxRow w' a len cap zs ∧ (zs = [] ∨ ∃ g cur,a = some ⟨g,0,none⟩ ∧ w.heap.size ≤ g ∧ w'.heap[g]? = some (.cells cur 9 (0,0))) ∧ Below w.heap.size w w'
theorem own_of {w w0 : World} {base n : Nat} {v : Value} {zs : List ByteArray} (h : w.ownsRow base 9 1 v n (zs.map Value.string)) (hb : Below base w0 w) (hB : base = w0.heap.size) (hs : ∀ (j : Nat) x,zs[j]? = some x → x.size ≤ 9223372036854775807) :
  ∃ a l c,v = .slice a l c ∧ OwnAns zs w0 a l c w:=by
 subst hB;obtain ⟨hl,h⟩:=h
 have hl' : zs.length = n:=by simpa using hl
 rcases h with ⟨rfl,rfl⟩ | ⟨g,cap,cur,rfl,hbg,hg,hnc,hcm,hsz,htk⟩
 ·obtain rfl : zs = []:=List.eq_nil_of_length_eq_zero hl';exact ⟨none,0,0,rfl,⟨rfl,Nat.le_refl _,by omega,fun j x hx => by simp at hx,.inl rfl⟩,.inl rfl,hb⟩
 ·refine ⟨some ⟨g,0,none⟩,n,cap,rfl,⟨hl',hnc,by unfold maxLen at hcm;omega,hs,.inr ⟨g,0,rfl,lt_of_some hg,fun j x hx => ?_⟩⟩,.inr ⟨g,cur,rfl,hbg,hg⟩,hb⟩;rw [Nat.zero_add,cellK hg]
  have hj : j < n:=by have:=(List.getElem?_eq_some_iff.1 hx).1;omega
  have e1 : (cur.toList.take (n * 1))[j]? = some (.string x):=by rw [htk];simp [hx]
  rw [List.getElem?_take,if_pos (by omega)] at e1
  simpa using e1
theorem news_of {w : World} {ad : Addr} {len cap : Nat} {zs : List ByteArray} (h : TxRow w (some ad) len cap zs) : ∀ j u,(zs.map Value.string)[j]? = some u → w.cell? (ad.add j) = some u:=by
 intro j u hu;rw [List.getElem?_map] at hu;obtain ⟨x,hx,rfl⟩:=Option.map_eq_some_iff.1 hu
 rcases h.2.2.2.2 with h | ⟨b,o,e,_,hc⟩
 ·subst h;simp at hx
 ·cases e
  rw [Addr.add_lit];exact hc j x hx

theorem ownNames_any (a : Option Addr) (len cap : Nat) (zs : List ByteArray) (w : World) (hr : TxRow w a len cap zs) (hl : len ≤ 8001) :
  Calls Tryz.prog 174 #[.slice a len cap] w fun e w' => ∃ a' l c,e = .returned (.slice a' l c) ∧ OwnAns zs w a' l c w':=by
 cases a with
 | none =>
  obtain rfl : zs = []:=by
   rcases hr.2.2.2.2 with h | ⟨b,o,e,_⟩
   ·exact h
   ·cases e
  obtain rfl : len = 0:=by have:=hr.1;simpa using this.symm
  clear hr
  go_enter Tryz.func174,Tryz.ntmps174
  go_wp2
  go_ret;exact ⟨_,_,_,rfl,⟨rfl,Nat.le_refl _,by omega,fun j x hx => by simp at hx,.inl rfl⟩,.inl rfl,Below.refl _ _⟩
 | some ad =>
  have HN:=hidK (news_of hr);have HZ:=hidK hr.2.2.2.1;have hzl : zs.length = len:=hr.1;clear hr;obtain ⟨i0,hi,hz0,hz1,hz2⟩:=info_parts infoStr
  go_enter Tryz.func174,Tryz.ntmps174
  go_wp2_with (first | (at_builtin;refine wpList_append_own _ rfl _ _ 85 rfl w.heap.size 9 i0 (.string ⟨#[]⟩) 1 16 Tryz.underlying85 hi hz0 hz1 hz2 rfl (by decide) _ 0 _ rfl (World.ownsRow_nil w w.heap.size 9 1) ad len cap (zs.map Value.string) rfl ?c1 HN.out ?c3 ?c4 ?c5 (Nat.le_refl _) ?_))
  case c1 => simpa using hzl
  case c3 => intro u hu;obtain ⟨x,_,rfl⟩:=List.mem_map.1 hu;rfl
  case c4 => unfold maxLen;omega
  case c5 => omega
  intro v' w3 hown3 hgrow hv;have HB3:=hidK ((Below.refl w.heap.size w).grown hgrow (Nat.le_refl _) (fun k hk => by cases hk));have HO:=hidK hown3;clear hown3 hgrow hv
  go_wp2
  go_ret;obtain ⟨a',l,c,rfl,h2⟩:=own_of HO.out HB3.out rfl HZ.out;exact ⟨a',l,c,rfl,h2⟩

theorem OwnAns.set {zs : List ByteArray} {w w' : World} {a : Option Addr} {l p b i X : Nat} {v : Value} (h : TxRow w' a l p zs ∧ (zs = [] ∨ ∃ g cur,a = some ⟨g,0,none⟩ ∧ X ≤ g ∧ w'.heap[g]? = some (.cells cur 9 (0,0))) ∧ Below w.heap.size w w') (hb : w.heap.size ≤ b) (hX : b < X) :
  TxRow (w'.setCell ⟨b,i,none⟩ v) a l p zs ∧ (zs = [] ∨ ∃ g cur,a = some ⟨g,0,none⟩ ∧ X ≤ g ∧ (w'.setCell ⟨b,i,none⟩ v).heap[g]? = some (.cells cur 9 (0,0))) ∧ Below w.heap.size w (w'.setCell ⟨b,i,none⟩ v):=by
 obtain ⟨⟨h1,h2,h3,h4,h5⟩,h6,h7⟩:=h;refine ⟨⟨h1,h2,h3,h4,?_⟩,?_,h7.setCell hb v⟩
 ·rcases h6 with h6 | ⟨g,cur,rfl,hg,hh⟩
  ·exact .inl h6
  ·rcases h5 with h5 | ⟨g',o,e,hl,hc⟩
   ·exact .inl h5
   ·cases e
    have hs : (w'.setCell ⟨b,i,none⟩ v).heap[g]? = w'.heap[g]?:=Below.heap_setCell _ _ _ _ (show g ≠ b by omega);exact .inr ⟨g,0,rfl,by simpa [World.setCell] using hl,fun j x hx => by have:=hc j x hx;simp only [World.cell?,hs] at this ⊢;exact this⟩
 ·rcases h6 with h6 | ⟨g,cur,rfl,hg,hh⟩
  ·exact .inl h6
  ·exact .inr ⟨g,cur,rfl,hg,(Below.heap_setCell _ _ _ _ (show g ≠ b by omega)).trans hh⟩

theorem scopy_any (n : ByteArray) (c : Int) (z : ByteArray) (k : ByteArray) (x : Bool) (m : ByteArray) (y : Bool) (a : Option Addr) (len cap : Nat) (zs : List ByteArray) (w : World) (hr : TxRow w a len cap zs) (hl : len ≤ 8001) :
  Calls Tryz.prog 50 #[.agg #[.string n,.int .i64 c,.string z,.string k,.bool x,.string m,.bool y,.slice a len cap]] w fun e w' => ∃ a' l p,e = .returned (.agg #[.string n,.int .i64 c,.string z,.string k,.bool x,.string m,.bool y,.slice a' l p]) ∧ OwnAns zs w a' l p w':=by
 have hown : (((w.alloc (.cells #[.string n,.int .i64 c,.string z,.string k,.bool x,.string m,.bool y,.slice a len cap] 100)).alloc (.cells #[.string ⟨#[]⟩,.int .i64 0,.string ⟨#[]⟩,.string ⟨#[]⟩,.bool false,.string ⟨#[]⟩,.bool false,.slice none 0 0] 100)).alloc (.cells #[] 9)).ownsRow (w.heap.size + 1 + 1) 9 1 (.slice (some ⟨w.heap.size + 1 + 1,0,none⟩) 0 0) 0 []:=⟨rfl,.inr ⟨w.heap.size + 1 + 1,0,#[],rfl,Nat.le_refl _,heap3_2 _ _ _ _,Nat.le_refl _,by unfold maxLen;omega,rfl,rfl⟩⟩;have HOW:=hidK hown;have hr3:=hr.below (below3 w (.cells #[.string n,.int .i64 c,.string z,.string k,.bool x,.string m,.bool y,.slice a len cap] 100) (.cells #[.string ⟨#[]⟩,.int .i64 0,.string ⟨#[]⟩,.string ⟨#[]⟩,.bool false,.string ⟨#[]⟩,.bool false,.slice none 0 0] 100) (.cells #[] 9));have HZ:=hidK hr.2.2.2.1;have hzl : zs.length = len:=hr.1;have HR3:=hidK hr3;clear hown hr3;obtain ⟨i0,hi,hz0,hz1,hz2⟩:=info_parts infoStr
 cases a with
 | none =>
  obtain rfl : zs = []:=by
   rcases hr.2.2.2.2 with h | ⟨b,o,e,_⟩
   ·exact h
   ·cases e
  obtain rfl : len = 0:=by simpa using hzl.symm
  clear hr HOW HR3 hi hz0 hz1 hz2
  go_enter Tryz.func50,Tryz.ntmps50
  go_wp2
  exact bodyPost_ret (v:=.agg #[.string n,.int .i64 c,.string z,.string k,.bool x,.string m,.bool y,.slice (some ⟨w.heap.size + 1 + 1,0,none⟩) 0 0]) (by simp [results,Tryz.results50,go_sem]) rfl ⟨_,_,_,rfl,⟨rfl,Nat.le_refl _,by omega,fun j x hx => by simp at hx,.inl rfl⟩,.inl rfl,below3 _ _ _ _⟩
 | some ad =>
  have HN:=hidK (news_of HR3.out);clear hr
  go_enter Tryz.func50,Tryz.ntmps50
  go_wp2_with (first | (at_builtin;refine wpList_append_own _ rfl _ _ 85 rfl (w.heap.size + 1 + 1) 9 i0 (.string ⟨#[]⟩) 1 16 Tryz.underlying85 hi hz0 hz1 hz2 rfl (by decide) _ 0 _ rfl HOW.out ad len cap (zs.map Value.string) rfl ?c1 HN.out ?c3 ?c4 ?c5 (by simp) ?_))
  case c1 => simpa using hzl
  case c3 => intro u hu;obtain ⟨x,_,rfl⟩:=List.mem_map.1 hu;rfl
  case c4 => unfold maxLen;omega
  case c5 => omega
  intro v' w3 hown3 hgrow hv;have hb3:=(Below.refl (w.heap.size + 1 + 1) _).grown hgrow (by simp) (fun k hk => by simp [Value.ownBlock] at hk;omega);have g0:=(hb3.block w.heap.size (by omega)).trans (heap3_0 _ _ _ _);have g1:=(hb3.block (w.heap.size + 1) (by omega)).trans (heap3_1 _ _ _ _)
  obtain ⟨a',l,p,rfl,hq⟩ : ∃ a' l p,v' = .slice a' l p ∧ (TxRow w3 a' l p zs ∧ (zs = [] ∨ ∃ g cur,a' = some ⟨g,0,none⟩ ∧ w.heap.size + 1 + 1 ≤ g ∧ w3.heap[g]? = some (.cells cur 9 (0,0))) ∧ Below w.heap.size w w3):=by
   have hbw : Below w.heap.size w w3:=(below3 w _ _ _).trans (hb3.mono (by omega));have ho:=hown3;obtain ⟨hl1,h⟩:=ho;have hl' : zs.length = len:=hzl
   rcases h with ⟨rfl,h0⟩ | ⟨g,cp,cur,rfl,hbg,hg,hnc,hcm,hsz,htk⟩
   ·obtain rfl : zs = []:=List.eq_nil_of_length_eq_zero (by omega);exact ⟨none,0,0,rfl,⟨rfl,Nat.le_refl _,by omega,fun j x hx => by simp at hx,.inl rfl⟩,.inl rfl,hbw⟩
   ·refine ⟨some ⟨g,0,none⟩,len,cp,rfl,⟨hl',hnc,by unfold maxLen at hcm;omega,HZ.out,.inr ⟨g,0,rfl,lt_of_some hg,fun j x hx => ?_⟩⟩,.inr ⟨g,cur,rfl,hbg,hg⟩,hbw⟩;rw [Nat.zero_add,cellK hg]
    have hj : j < len:=by have:=(List.getElem?_eq_some_iff.1 hx).1;omega
    have e1 : (cur.toList.take (len * 1))[j]? = some (.string x):=by rw [htk];simp [hx]
    rw [List.getElem?_take,if_pos (by omega)] at e1
    simpa using e1
  have HQ:=hidK hq;have d0 : w3.cell? ⟨w.heap.size,0,none⟩ = some (.string n):=cellK g0 0;have df0:=froK g0 0;have d1 : w3.cell? ⟨w.heap.size,1,none⟩ = some (.int .i64 c):=cellK g0 1;have df1:=froK g0 1;have d2 : w3.cell? ⟨w.heap.size,2,none⟩ = some (.string z):=cellK g0 2;have df2:=froK g0 2;have d3 : w3.cell? ⟨w.heap.size,3,none⟩ = some (.string k):=cellK g0 3;have df3:=froK g0 3;have d4 : w3.cell? ⟨w.heap.size,4,none⟩ = some (.bool x):=cellK g0 4;have df4:=froK g0 4;have d5 : w3.cell? ⟨w.heap.size,5,none⟩ = some (.string m):=cellK g0 5;have df5:=froK g0 5;have d6 : w3.cell? ⟨w.heap.size,6,none⟩ = some (.bool y):=cellK g0 6;have df6:=froK g0 6;have d7 : w3.cell? ⟨w.heap.size,7,none⟩ = some (.slice (some ad) len cap):=cellK g0 7;have df7:=froK g0 7;have e0 : w3.cell? ⟨w.heap.size + 1,0,none⟩ = some (.string ⟨#[]⟩):=cellK g1 0;have ef0:=froK g1 0;have e1 : w3.cell? ⟨w.heap.size + 1,1,none⟩ = some (.int .i64 0):=cellK g1 1;have ef1:=froK g1 1;have e2 : w3.cell? ⟨w.heap.size + 1,2,none⟩ = some (.string ⟨#[]⟩):=cellK g1 2;have ef2:=froK g1 2;have e3 : w3.cell? ⟨w.heap.size + 1,3,none⟩ = some (.string ⟨#[]⟩):=cellK g1 3;have ef3:=froK g1 3;have e4 : w3.cell? ⟨w.heap.size + 1,4,none⟩ = some (.bool false):=cellK g1 4;have ef4:=froK g1 4;have e5 : w3.cell? ⟨w.heap.size + 1,5,none⟩ = some (.string ⟨#[]⟩):=cellK g1 5;have ef5:=froK g1 5;have e6 : w3.cell? ⟨w.heap.size + 1,6,none⟩ = some (.bool false):=cellK g1 6;have ef6:=froK g1 6;have e7 : w3.cell? ⟨w.heap.size + 1,7,none⟩ = some (.slice none 0 0):=cellK g1 7;have ef7:=froK g1 7
  have HQ2:=hidK (OwnAns.set (OwnAns.set (OwnAns.set (OwnAns.set (OwnAns.set (OwnAns.set (OwnAns.set (OwnAns.set (OwnAns.set HQ.out (b:=w.heap.size) (i:=7) (by omega) (by omega) (v:=.slice a' l p)) (b:=w.heap.size + 1) (i:=0) (by omega) (by omega) (v:=(.string n))) (b:=w.heap.size + 1) (i:=1) (by omega) (by omega) (v:=(.int .i64 c))) (b:=w.heap.size + 1) (i:=2) (by omega) (by omega) (v:=(.string z))) (b:=w.heap.size + 1) (i:=3) (by omega) (by omega) (v:=(.string k))) (b:=w.heap.size + 1) (i:=4) (by omega) (by omega) (v:=(.bool x))) (b:=w.heap.size + 1) (i:=5) (by omega) (by omega) (v:=(.string m))) (b:=w.heap.size + 1) (i:=6) (by omega) (by omega) (v:=(.bool y))) (b:=w.heap.size + 1) (i:=7) (by omega) (by omega) (v:=(.slice a' l p)));clear hown3 hgrow hv hb3 g0 g1 hq;go_wp2_with fail;refine bodyPost_ret (v:=.agg #[.string n,.int .i64 c,.string z,.string k,.bool x,.string m,.bool y,.slice a' l p]) (by simp [results,Tryz.results50,go_sem, *]) rfl ⟨a',l,p,rfl,HQ2.out.1,?_,HQ2.out.2.2⟩
  rcases HQ2.out.2.1 with h | ⟨g,cur,h1,h2,h3⟩
  ·exact .inl h
  ·exact .inr ⟨g,cur,h1,by omega,h3⟩

theorem iown_any (n : ByteArray) (c : Int) (z : ByteArray) (k : ByteArray) (x : Bool) (m : ByteArray) (y : Bool) (a : Option Addr) (len cap : Nat) (zs : List ByteArray) (w : World) (hr : TxRow w a len cap zs) (hl : len ≤ 8001) :
  Calls Tryz.prog 147 #[.agg #[.string n,.int .i64 c,.string z,.string k,.bool x,.string m,.bool y,.slice a len cap]] w fun e w' => ∃ a' l p,e = .returned (.agg #[.string n,.int .i64 c,.string z,.string k,.bool x,.string m,.bool y,.slice a' l p]) ∧ OwnAns zs w a' l p w':=by
 have HR:=hidK (hr.below (below2 w (.cells #[.string n,.int .i64 c,.string z,.string k,.bool x,.string m,.bool y,.slice a len cap] 100) (.cells #[.string ⟨#[]⟩,.int .i64 0,.string ⟨#[]⟩,.string ⟨#[]⟩,.bool false,.string ⟨#[]⟩,.bool false,.slice none 0 0] 100)));clear hr
 go_enter Tryz.func147,Tryz.ntmps147
 go_wp2_with fail;refine (ownNames_any a len cap zs _ HR.out hl).mono ?_;rintro e w3 ⟨a',l,p,rfl,h1,h2,hb⟩;have g0:=(hb.block w.heap.size (by simp;omega)).trans (heap2_0 _ _ _);have g1:=(hb.block (w.heap.size + 1) (by simp)).trans (heap2_1 _ _ _);have HQ : Hid (TxRow w3 a' l p zs ∧ (zs = [] ∨ ∃ g cur,a' = some ⟨g,0,none⟩ ∧ w.heap.size + 1 + 1 ≤ g ∧ w3.heap[g]? = some (.cells cur 9 (0,0))) ∧ Below w.heap.size w w3):=⟨h1,by simpa using h2,(below2 w _ _).trans (hb.mono (by simp;omega))⟩;have d0 : w3.cell? ⟨w.heap.size,0,none⟩ = some (.string n):=cellK g0 0;have df0:=froK g0 0;have d1 : w3.cell? ⟨w.heap.size,1,none⟩ = some (.int .i64 c):=cellK g0 1;have df1:=froK g0 1;have d2 : w3.cell? ⟨w.heap.size,2,none⟩ = some (.string z):=cellK g0 2;have df2:=froK g0 2;have d3 : w3.cell? ⟨w.heap.size,3,none⟩ = some (.string k):=cellK g0 3;have df3:=froK g0 3;have d4 : w3.cell? ⟨w.heap.size,4,none⟩ = some (.bool x):=cellK g0 4;have df4:=froK g0 4;have d5 : w3.cell? ⟨w.heap.size,5,none⟩ = some (.string m):=cellK g0 5;have df5:=froK g0 5;have d6 : w3.cell? ⟨w.heap.size,6,none⟩ = some (.bool y):=cellK g0 6;have df6:=froK g0 6;have d7 : w3.cell? ⟨w.heap.size,7,none⟩ = some (.slice a len cap):=cellK g0 7;have df7:=froK g0 7;have e0 : w3.cell? ⟨w.heap.size + 1,0,none⟩ = some (.string ⟨#[]⟩):=cellK g1 0;have ef0:=froK g1 0;have e1 : w3.cell? ⟨w.heap.size + 1,1,none⟩ = some (.int .i64 0):=cellK g1 1;have ef1:=froK g1 1;have e2 : w3.cell? ⟨w.heap.size + 1,2,none⟩ = some (.string ⟨#[]⟩):=cellK g1 2;have ef2:=froK g1 2;have e3 : w3.cell? ⟨w.heap.size + 1,3,none⟩ = some (.string ⟨#[]⟩):=cellK g1 3;have ef3:=froK g1 3;have e4 : w3.cell? ⟨w.heap.size + 1,4,none⟩ = some (.bool false):=cellK g1 4;have ef4:=froK g1 4;have e5 : w3.cell? ⟨w.heap.size + 1,5,none⟩ = some (.string ⟨#[]⟩):=cellK g1 5;have ef5:=froK g1 5
 have e6 : w3.cell? ⟨w.heap.size + 1,6,none⟩ = some (.bool false):=cellK g1 6;have ef6:=froK g1 6;have e7 : w3.cell? ⟨w.heap.size + 1,7,none⟩ = some (.slice none 0 0):=cellK g1 7;have ef7:=froK g1 7;have HQ2:=hidK (OwnAns.set (OwnAns.set (OwnAns.set (OwnAns.set (OwnAns.set (OwnAns.set (OwnAns.set (OwnAns.set (OwnAns.set HQ.out (b:=w.heap.size) (i:=7) (by omega) (by omega) (v:=.slice a' l p)) (b:=w.heap.size + 1) (i:=0) (by omega) (by omega) (v:=.string n)) (b:=w.heap.size + 1) (i:=1) (by omega) (by omega) (v:=.int .i64 c)) (b:=w.heap.size + 1) (i:=2) (by omega) (by omega) (v:=.string z)) (b:=w.heap.size + 1) (i:=3) (by omega) (by omega) (v:=.string k)) (b:=w.heap.size + 1) (i:=4) (by omega) (by omega) (v:=.bool x)) (b:=w.heap.size + 1) (i:=5) (by omega) (by omega) (v:=.string m)) (b:=w.heap.size + 1) (i:=6) (by omega) (by omega) (v:=.bool y)) (b:=w.heap.size + 1) (i:=7) (by omega) (by omega) (v:=.slice a' l p));clear h1 h2 hb g0 g1;go_wp2_with fail;refine bodyPost_ret (v:=.agg #[.string n,.int .i64 c,.string z,.string k,.bool x,.string m,.bool y,.slice a' l p]) (by simp [results,Tryz.results147,go_sem, *]) rfl ⟨a',l,p,rfl,HQ2.out.1,?_,HQ2.out.2.2⟩
 rcases HQ2.out.2.1 with h | ⟨g,cur,h1,h2,h3⟩
 ·exact .inl h
 ·exact .inr ⟨g,cur,h1,by omega,h3⟩

end Ap
end Go.Proofs.YtmknjejaochfjaaGreatDoor

namespace Go.Proofs.YtmknjejaochfjaaGreatDoor
open Go.RowKit
namespace Rc
open Mk

theorem TOwn.fr {w : World} {a : Option Addr} {l c : Nat} {zs : List ByteArray} {S : Nat → Prop} (h : TOwn w a l c zs S) : ∃ g,LFr w g S zs (.slice a l c):=by
 obtain ⟨⟨h1,h2,h3,h4,h5⟩,h6⟩:=h
 rcases h6 with rfl | ⟨g,cur,rfl,hS,hg⟩
 ·exact ⟨0,_,_,_,rfl,h1,h2,h3,h4,.inl rfl⟩
 ·refine ⟨g,_,_,_,rfl,h1,h2,h3,h4,h5.imp id ?_⟩;rintro ⟨b,o,e,hlt,hc⟩
  cases e
  exact ⟨rfl,hS,cur,hg,fun j x hx => by have:=hc j x hx;rw [cellK hg,Nat.zero_add] at this;exact this⟩
theorem LFr.lt {w : World} {h : Nat} {S : Nat → Prop} {zs : List ByteArray} {v : Value} (k : LFr w h S zs v) (hz : zs ≠ []) : S h ∧ h < w.heap.size:=by
 obtain ⟨a',l',c',h1,h2,h3,h4,h5,h6⟩:=k
 rcases h6 with h6 | ⟨_,q2,cu,q4,_⟩
 ·exact absurd h6 hz
 ·exact ⟨q2,lt_of_some q4⟩
theorem news_alloc (w : World) (vs : List Value) (T : TypeId) : ∀ (j : Nat) u,vs[j]? = some u → (w.alloc (.cells vs.toArray T)).cell? ((⟨w.heap.size,0,none⟩ : Addr).add j) = some u:=by
 intro j u hu;rw [Addr.add_lit,cellK (heap_alloc_new w _),Nat.zero_add]
 simpa using hu
theorem VRecs.app {w W w' : World} {S : Nat → Prop} {m : Nat} {rs : List (List Fv)} {vss : List (List Value)} {H : Nat → Nat → Nat} {base n : Nat} {T : TypeId} {v : Value} {xs : List Value} (h : VRecs w S m rs vss H) (hb : Below w.heap.size w W) (ho : W.ownsRow base T m v n xs) (hT : ¬ T = 9) (hg : W.grownBy w' v.ownBlock)
  {r : List Fv} {vs : List Value} {hh : Nat} (hr : r.length = m) (hvs : vs.length = m) (hc : ∀ (i : Nat) f,r[i]? = some f → ∃ v,vs[i]? = some v ∧ f.Fr W hh S v) (hfr : ∀ (i : Nat) zs,r[i]? = some (.l zs) → zs ≠ [] → w.heap.size ≤ hh)
  (h1 : ∀ (i i' : Nat) zs zs',r[i]? = some (.l zs) → zs ≠ [] → r[i']? = some (.l zs') → zs' ≠ [] → i = i') : VRecs w' S m (rs ++ [r]) (vss ++ [vs]) (fun j => if j = rs.length then fun _ => hh else H j) :=
 ((h.below hb).push hr hvs hc (fun i zs a b j r' i' zs' c d e q => by have q1:=h.lt c d e;have q2:=hfr i zs a b;omega) h1).grown ho hT hg

theorem nd_l {x : Nd} {i : Nat} {zs : List ByteArray} (h : (ndF x)[i]? = some (.l zs)) : i = 6 ∧ zs = x.zs:=by
 rcases i with _ | _ | _ | _ | _ | _ | _ | i
 ·cases h
 ·cases h
 ·cases h
 ·cases h
 ·cases h
 ·cases h
 ·cases h;exact ⟨rfl,rfl⟩
 ·simp [ndF] at h
theorem nd_fr {w : World} {x : Nd} {g : Nat} {Q : Nat → Prop} {a : Option Addr} {l c : Nat} (hn : x.n.size ≤ 9223372036854775807) (hz : x.z.size ≤ 9223372036854775807) (hl : LFr w g Q x.zs (.slice a l c)) : ∀ (i : Nat) f,(ndF x)[i]? = some f → ∃ v,[.string x.n,.string x.z,.int .i64 x.c,.int .i64 x.s,.int .i64 x.u,.bool x.d,.slice a l c][i]? = some v ∧ f.Fr w g Q v:=by
 intro i f h
 rcases i with _ | _ | _ | _ | _ | _ | _ | i
 ·cases h;exact ⟨_,rfl,rfl,hn⟩
 ·cases h;exact ⟨_,rfl,rfl,hz⟩
 ·cases h;exact ⟨_,rfl,rfl⟩
 ·cases h;exact ⟨_,rfl,rfl⟩
 ·cases h;exact ⟨_,rfl,rfl⟩
 ·cases h;exact ⟨_,rfl,rfl⟩
 ·cases h;exact ⟨_,rfl,hl⟩
 ·simp [ndF] at h

theorem iownnd_any (x : Nd) (va : Option Addr) (vl vc : Nat) (w : World) (hr : TxRow w va vl vc x.zs) (hl : vl ≤ 8001) :
  Calls Tryz.prog 154 #[.agg #[.string x.n,.string x.z,.int .i64 x.c,.int .i64 x.s,.int .i64 x.u,.bool x.d,.slice va vl vc]] w fun e w' => ∃ a' l' c',e = .returned (.agg #[.string x.n,.string x.z,.int .i64 x.c,.int .i64 x.s,.int .i64 x.u,.bool x.d,.slice a' l' c']) ∧ TOwn w' a' l' c' x.zs (fun k => w.heap.size ≤ k) ∧ Below w.heap.size w w':=by
 have HR:=hidK hr;have HB:=hidK (Below.refl w.heap.size w);clear hr
 go_enter Tryz.func154,Tryz.ntmps154
 go_wp2_with fail;refine (Ap.ownNames_any va vl vc x.zs _ (HR.out.below (HB.out.trans ((below2 _ _ _).mono HB.out.size))) hl).mono ?_;rintro e w1 ⟨a',l',c',rfl,h1,h2,hb⟩;obtain ⟨HA0,HA1,hbx⟩:=slots2 hb;have Bp:=hidK HA0;have Br:=hidK HA1;replace HB:=upB HB hbx;clear hb hbx HA0 HA1;have HO : Hid (TOwn w1 a' l' c' x.zs (fun k => w.heap.size + 1 + 1 ≤ k)):=⟨h1,h2.imp id fun ⟨g,cur,e1,e2,e3⟩ => ⟨g,cur,e1,by simpa using e2,e3⟩⟩;clear h1 h2;obtain ⟨p0,p1,p2,p3,p4,p5,p6⟩:=cs7 Bp.out;have ltp_1:=lt_of_some Bp.out;obtain ⟨r0,r1,r2,r3,r4,r5,r6⟩:=cs7 Br.out;have ltr_1:=lt_of_some Br.out;have fp0:=froK Bp.out 0;have fr0:=froK Br.out 0;have fp1:=froK Bp.out 1;have fr1:=froK Br.out 1;have fp2:=froK Bp.out 2;have fr2:=froK Br.out 2;have fp3:=froK Bp.out 3;have fr3:=froK Br.out 3;have fp4:=froK Bp.out 4;have fr4:=froK Br.out 4;have fp5:=froK Bp.out 5;have fr5:=froK Br.out 5;have fp6:=froK Bp.out 6;have fr6:=froK Br.out 6;go_wp2_with fail;refine bodyPost_ret (v:=.agg #[.string x.n,.string x.z,.int .i64 x.c,.int .i64 x.s,.int .i64 x.u,.bool x.d,.slice a' l' c']) (by simp [results,Tryz.results154,go_sem, *]) rfl ⟨a',l',c',rfl,HO.out.keep (fun k _ s => by have s1 : w.heap.size + 1 + 1 ≤ k:=s;rw [Below.heap_setCell _ _ _ _ (show k ≠ w.heap.size + 1 by omega),Below.heap_setCell _ _ _ _ (show k ≠ w.heap.size + 1 by omega),Below.heap_setCell _ _ _ _ (show k ≠ w.heap.size + 1 by omega),Below.heap_setCell _ _ _ _ (show k ≠ w.heap.size + 1 by omega),Below.heap_setCell _ _ _ _ (show k ≠ w.heap.size + 1 by omega),Below.heap_setCell _ _ _ _ (show k ≠ w.heap.size + 1 by omega),Below.heap_setCell _ _ _ _ (show k ≠ w.heap.size + 1 by omega),Below.heap_setCell _ _ _ _ (show k ≠ w.heap.size by omega)]) (fun k _ s => by have s1 : w.heap.size + 1 + 1 ≤ k:=s;show w.heap.size ≤ k;omega),sb1 (sb1 (sb1 (sb1 (sb1 (sb1 (sb1 (set_below (Nat.le_refl _) (HB.out))))))))⟩

theorem iownednd_any (a : Option Addr) (len cap : Nat) (xs : List Nd) (w : World) (hr : RRow w a len cap 7 (xs.map ndF)) (hl : len ≤ 8) (hs : ∀ (j : Nat) x,xs[j]? = some x → x.zs.length ≤ 8001) :
  Calls Tryz.prog 153 #[.slice a len cap,.func (.func 154) #[] #[]] w fun e w' => ∃ a' c',e = .returned (.slice a' len c') ∧ ROwn w' a' len c' 7 99 (xs.map ndF) (fun k => w.heap.size ≤ k) ∧ Below w.heap.size w w':=by
 have HR:=hidK hr;have HS:=hidK hs
 have hxl : xs.length = len:=by simpa using hr.1
 clear hr hs;obtain ⟨i0,hi,hz0,hz1,hz2⟩:=info_parts infond;have HI0:=hidK (And.intro hi (And.intro hz0 (And.intro hz1 hz2)));clear hi hz0 hz1 hz2
 go_enter Tryz.func153,Tryz.ntmps153
 go_wp2
 go_loopw [5,10] (fun vo vi wr => ∃ (k : Nat) (vss : List (List Value)) (H : Nat → Nat → Nat),k ≤ len ∧ vi = .int .i64 k ∧ Hid (wr.ownsRow w.heap.size 99 7 vo k vss.flatten) ∧ Hid (VRecs wr (fun k => w.heap.size ≤ k) 7 ((xs.take k).map ndF) vss H) ∧ Hid (Below w.heap.size w wr)) (fun _ vi _ => len - (intOf vi).toNat)
 case atStart => exact ⟨0,[],fun _ _ => 0,by omega,rfl,World.ownsRow_nil _ _ _ _,VRecs.nil _ _ _ _,Below.refl _ _⟩
 case round =>
  obtain ⟨k,vss,H,hk,rfl,HO,HV,HB⟩:=hrel;have hBs:=HB.out.size
  by_cases hlt : k < len
  ·obtain ⟨b,o,x,rfl,hb,hx,hat⟩:=nd_at (HR.out.below HB.out) hlt;obtain ⟨va,vl,vc,hvr,z0,z1,c0,c1,c2,c3,c4,c5,c6⟩:=nd_cells hat
   have hz8 : vl ≤ 8001:=by have h1:=hvr.1;have h2:=HS.out k x hx;omega
   have HX:=hidK hx;have HT:=hidK hvr;have HZz0:=hidK z0;have HZz1:=hidK z1;clear hat hx hvr z0 z1;go_wp2_with fail;refine (iownnd_any x va vl vc _ (HT.out.below (below1 _ _)) hz8).mono ?_;rintro e w2 ⟨a',l',c',rfl,ho,hb2⟩;obtain ⟨-,hbx⟩:=slots1 hb2;rw [size1] at ho;obtain ⟨g,hg⟩:=ho.fr;have HG:=hidK hg;have HX2:=hidK hbx;have HO2:=hidK (owns_below HO.out hbx)
   have hs2 : wr.heap.size < w2.heap.size:=by have:=hb2.size;rw [size1] at this;omega
   clear ho hb2 hbx hg hb c0 c1 c2 c3 c4 c5 c6
   go_wp2_with (first | (at_builtin;refine wpList_append_own _ rfl _ _ 30 rfl w.heap.size 99 i0 (.agg #[.string ⟨#[]⟩,.string ⟨#[]⟩,.int .i64 0,.int .i64 0,.int .i64 0,.bool false,.slice none 0 0]) 7 88 Tryz.underlying30 HI0.out.1 HI0.out.2.1 HI0.out.2.2.1 HI0.out.2.2.2 rfl (by decide) _ _ _ rfl (HO2.out.alloc _) ⟨w2.heap.size,0,none⟩ 1 1 [.string x.n,.string x.z,.int .i64 x.c,.int .i64 x.s,.int .i64 x.u,.bool x.d,.slice a' l' c'] rfl rfl ?c1 ?c2 ?c3 ?c4 ?c5 ?_))
   case c1 => exact news_alloc _ _ _
   case c2 => intro u hu;simp only [List.mem_cons,List.not_mem_nil,or_false] at hu;rcases hu with rfl | rfl | rfl | rfl | rfl | rfl | rfl <;> rfl
   case c3 => unfold maxLen;omega
   case c4 => omega
   case c5 => simp;omega
   rintro v' w3 hown3 hgrow -
   have HO3 : Hid (w3.ownsRow w.heap.size 99 7 v' (k + 1) (vss ++ ([[.string x.n,.string x.z,.int .i64 x.c,.int .i64 x.s,.int .i64 x.u,.bool x.d,.slice a' l' c']] : List (List Value))).flatten):=by
    show World.ownsRow _ _ _ _ _ _ _
    rw [List.flatten_append]
    simpa using hown3
   have hb23 : Below wr.heap.size wr (w2.alloc (.cells #[.string x.n,.string x.z,.int .i64 x.c,.int .i64 x.s,.int .i64 x.u,.bool x.d,.slice a' l' c'] 99)):=HX2.out.trans ((below1 _ _).mono (Nat.le_of_lt hs2))
   have hV:=HV.out.app (r:=ndF x) (vs:=[.string x.n,.string x.z,.int .i64 x.c,.int .i64 x.s,.int .i64 x.u,.bool x.d,.slice a' l' c']) (hh:=g) hb23 (HO2.out.alloc _) (by decide) hgrow rfl rfl
    (nd_fr HZz0.out HZz1.out (HG.out.keep (S':=fun k => w.heap.size ≤ k) (fun cu _ q => Below.heap_alloc _ _ _ (lt_of_some q)) (fun _ s => by have s1 : wr.heap.size + 1 ≤ g:=s;show w.heap.size ≤ g;omega)))
    (fun i zs hi hz => by obtain ⟨_,rfl⟩:=nd_l hi;have s1 : wr.heap.size + 1 ≤ g:=(HG.out.lt hz).1;omega) (fun i i' zs zs' h1 _ h2 _ => (nd_l h1).1.trans (nd_l h2).1.symm)
   have e1 : (xs.take (k + 1)).map ndF = (xs.take k).map ndF ++ [ndF x]:=by rw [List.take_add_one,HX.out];simp
   rw [← e1] at hV;have HV3:=hidK hV;have HB3:=hidK ((HB.out.trans (hb23.mono hBs)).grown hgrow (by simp;omega) (fun g hg => (HO2.out.lt g hg).1));clear hown3 hgrow hb23 hV e1
   go_wp2
   exact ⟨⟨k + 1,_,_,by omega,by go_num,HO3,HV3,HB3⟩,by simp [intOf];omega⟩
  ·obtain rfl : len = k:=by omega
   have h5:=HV.out;rw [List.take_of_length_le (by omega)] at h5;obtain ⟨a',c',rfl,hR⟩:=h5.own HO.out (by simp [hxl]) (by decide) (fun g hg => (HO.out.lt g hg).1);have HR5:=hidK hR
   have hl5 : (xs.map ndF).length = len:=by simpa using hxl
   rw [hl5] at HR5;rw [hl5];clear h5 hR HV HO
   go_wp2
   go_ret;exact ⟨a',c',rfl,HR5.out,HB.out⟩

theorem vd_l {x : Vd} {i : Nat} {zs : List ByteArray} (h : (vdF x)[i]? = some (.l zs)) : i = 7 ∧ zs = x.zs:=by
 rcases i with _ | _ | _ | _ | _ | _ | _ | _ | i
 ·cases h
 ·cases h
 ·cases h
 ·cases h
 ·cases h
 ·cases h
 ·cases h
 ·cases h;exact ⟨rfl,rfl⟩
 ·simp [vdF] at h
theorem vd_fr {w : World} {x : Vd} {g : Nat} {Q : Nat → Prop} {a : Option Addr} {l c : Nat} (hn : x.n.size ≤ 9223372036854775807) (hz : x.z.size ≤ 9223372036854775807) (hk : x.k.size ≤ 9223372036854775807) (hm : x.m.size ≤ 9223372036854775807) (hl : LFr w g Q x.zs (.slice a l c)) : ∀ (i : Nat) f,(vdF x)[i]? = some f → ∃ v,[.string x.n,.int .i64 x.c,.string x.z,.string x.k,.bool x.x,.string x.m,.bool x.y,.slice a l c][i]? = some v ∧ f.Fr w g Q v:=by
 intro i f h
 rcases i with _ | _ | _ | _ | _ | _ | _ | _ | i
 ·cases h;exact ⟨_,rfl,rfl,hn⟩
 ·cases h;exact ⟨_,rfl,rfl⟩
 ·cases h;exact ⟨_,rfl,rfl,hz⟩
 ·cases h;exact ⟨_,rfl,rfl,hk⟩
 ·cases h;exact ⟨_,rfl,rfl⟩
 ·cases h;exact ⟨_,rfl,rfl,hm⟩
 ·cases h;exact ⟨_,rfl,rfl⟩
 ·cases h;exact ⟨_,rfl,hl⟩
 ·simp [vdF] at h

theorem iownvd_any (x : Vd) (va : Option Addr) (vl vc : Nat) (w : World) (hr : TxRow w va vl vc x.zs) (hl : vl ≤ 8001) :
  Calls Tryz.prog 147 #[.agg #[.string x.n,.int .i64 x.c,.string x.z,.string x.k,.bool x.x,.string x.m,.bool x.y,.slice va vl vc]] w fun e w' => ∃ a' l' c',e = .returned (.agg #[.string x.n,.int .i64 x.c,.string x.z,.string x.k,.bool x.x,.string x.m,.bool x.y,.slice a' l' c']) ∧ TOwn w' a' l' c' x.zs (fun k => w.heap.size ≤ k) ∧ Below w.heap.size w w':=by
 refine (Ap.iown_any x.n x.c x.z x.k x.x x.m x.y va vl vc x.zs w hr hl).mono ?_;rintro e w' ⟨a',l',c',rfl,h1,h2,hb⟩;exact ⟨a',l',c',rfl,⟨h1,h2⟩,hb⟩

theorem iownedvd_any (a : Option Addr) (len cap : Nat) (xs : List Vd) (w : World) (hr : RRow w a len cap 8 (xs.map vdF)) (hl : len ≤ 8) (hs : ∀ (j : Nat) x,xs[j]? = some x → x.zs.length ≤ 8001) :
  Calls Tryz.prog 155 #[.slice a len cap,.func (.func 147) #[] #[]] w fun e w' => ∃ a' c',e = .returned (.slice a' len c') ∧ ROwn w' a' len c' 8 100 (xs.map vdF) (fun k => w.heap.size ≤ k) ∧ Below w.heap.size w w':=by
 have HR:=hidK hr;have HS:=hidK hs
 have hxl : xs.length = len:=by simpa using hr.1
 clear hr hs;obtain ⟨i0,hi,hz0,hz1,hz2⟩:=info_parts infovd;have HI0:=hidK (And.intro hi (And.intro hz0 (And.intro hz1 hz2)));clear hi hz0 hz1 hz2
 go_enter Tryz.func155,Tryz.ntmps155
 go_wp2
 go_loopw [5,10] (fun vo vi wr => ∃ (k : Nat) (vss : List (List Value)) (H : Nat → Nat → Nat),k ≤ len ∧ vi = .int .i64 k ∧ Hid (wr.ownsRow w.heap.size 100 8 vo k vss.flatten) ∧ Hid (VRecs wr (fun k => w.heap.size ≤ k) 8 ((xs.take k).map vdF) vss H) ∧ Hid (Below w.heap.size w wr)) (fun _ vi _ => len - (intOf vi).toNat)
 case atStart => exact ⟨0,[],fun _ _ => 0,by omega,rfl,World.ownsRow_nil _ _ _ _,VRecs.nil _ _ _ _,Below.refl _ _⟩
 case round =>
  obtain ⟨k,vss,H,hk,rfl,HO,HV,HB⟩:=hrel;have hBs:=HB.out.size
  by_cases hlt : k < len
  ·obtain ⟨b,o,x,rfl,hb,hx,hat⟩:=vd_at (HR.out.below HB.out) hlt;obtain ⟨va,vl,vc,hvr,z0,z2,z3,z5,c0,c1,c2,c3,c4,c5,c6,c7⟩:=vd_cells hat
   have hz8 : vl ≤ 8001:=by have h1:=hvr.1;have h2:=HS.out k x hx;omega
   have HX:=hidK hx;have HT:=hidK hvr;have HZz0:=hidK z0;have HZz2:=hidK z2;have HZz3:=hidK z3;have HZz5:=hidK z5;clear hat hx hvr z0 z2 z3 z5;go_wp2_with fail;refine (iownvd_any x va vl vc _ (HT.out.below (below1 _ _)) hz8).mono ?_;rintro e w2 ⟨a',l',c',rfl,ho,hb2⟩;obtain ⟨-,hbx⟩:=slots1 hb2;rw [size1] at ho;obtain ⟨g,hg⟩:=ho.fr;have HG:=hidK hg;have HX2:=hidK hbx;have HO2:=hidK (owns_below HO.out hbx)
   have hs2 : wr.heap.size < w2.heap.size:=by have:=hb2.size;rw [size1] at this;omega
   clear ho hb2 hbx hg hb c0 c1 c2 c3 c4 c5 c6 c7
   go_wp2_with (first | (at_builtin;refine wpList_append_own _ rfl _ _ 32 rfl w.heap.size 100 i0 (.agg #[.string ⟨#[]⟩,.int .i64 0,.string ⟨#[]⟩,.string ⟨#[]⟩,.bool false,.string ⟨#[]⟩,.bool false,.slice none 0 0]) 8 112 Tryz.underlying32 HI0.out.1 HI0.out.2.1 HI0.out.2.2.1 HI0.out.2.2.2 rfl (by decide) _ _ _ rfl (HO2.out.alloc _) ⟨w2.heap.size,0,none⟩ 1 1 [.string x.n,.int .i64 x.c,.string x.z,.string x.k,.bool x.x,.string x.m,.bool x.y,.slice a' l' c'] rfl rfl ?c1 ?c2 ?c3 ?c4 ?c5 ?_))
   case c1 => exact news_alloc _ _ _
   case c2 => intro u hu;simp only [List.mem_cons,List.not_mem_nil,or_false] at hu;rcases hu with rfl | rfl | rfl | rfl | rfl | rfl | rfl | rfl <;> rfl
   case c3 => unfold maxLen;omega
   case c4 => omega
   case c5 => simp;omega
   rintro v' w3 hown3 hgrow -
   have HO3 : Hid (w3.ownsRow w.heap.size 100 8 v' (k + 1) (vss ++ ([[.string x.n,.int .i64 x.c,.string x.z,.string x.k,.bool x.x,.string x.m,.bool x.y,.slice a' l' c']] : List (List Value))).flatten):=by
    show World.ownsRow _ _ _ _ _ _ _
    rw [List.flatten_append]
    simpa using hown3
   have hb23 : Below wr.heap.size wr (w2.alloc (.cells #[.string x.n,.int .i64 x.c,.string x.z,.string x.k,.bool x.x,.string x.m,.bool x.y,.slice a' l' c'] 100)):=HX2.out.trans ((below1 _ _).mono (Nat.le_of_lt hs2))
   have hV:=HV.out.app (r:=vdF x) (vs:=[.string x.n,.int .i64 x.c,.string x.z,.string x.k,.bool x.x,.string x.m,.bool x.y,.slice a' l' c']) (hh:=g) hb23 (HO2.out.alloc _) (by decide) hgrow rfl rfl
    (vd_fr HZz0.out HZz2.out HZz3.out HZz5.out (HG.out.keep (S':=fun k => w.heap.size ≤ k) (fun cu _ q => Below.heap_alloc _ _ _ (lt_of_some q)) (fun _ s => by have s1 : wr.heap.size + 1 ≤ g:=s;show w.heap.size ≤ g;omega)))
    (fun i zs hi hz => by obtain ⟨_,rfl⟩:=vd_l hi;have s1 : wr.heap.size + 1 ≤ g:=(HG.out.lt hz).1;omega) (fun i i' zs zs' h1 _ h2 _ => (vd_l h1).1.trans (vd_l h2).1.symm)
   have e1 : (xs.take (k + 1)).map vdF = (xs.take k).map vdF ++ [vdF x]:=by rw [List.take_add_one,HX.out];simp
   rw [← e1] at hV;have HV3:=hidK hV;have HB3:=hidK ((HB.out.trans (hb23.mono hBs)).grown hgrow (by simp;omega) (fun g hg => (HO2.out.lt g hg).1));clear hown3 hgrow hb23 hV e1
   go_wp2
   exact ⟨⟨k + 1,_,_,by omega,by go_num,HO3,HV3,HB3⟩,by simp [intOf];omega⟩
  ·obtain rfl : len = k:=by omega
   have h5:=HV.out;rw [List.take_of_length_le (by omega)] at h5;obtain ⟨a',c',rfl,hR⟩:=h5.own HO.out (by simp [hxl]) (by decide) (fun g hg => (HO.out.lt g hg).1);have HR5:=hidK hR
   have hl5 : (xs.map vdF).length = len:=by simpa using hxl
   rw [hl5] at HR5;rw [hl5];clear h5 hR HV HO
   go_wp2
   go_ret;exact ⟨a',c',rfl,HR5.out,HB.out⟩

theorem pd_l {x : Pd} {i : Nat} {zs : List ByteArray} (h : (pdF x)[i]? = some (.l zs)) : i = 3 ∧ zs = x.zs:=by
 rcases i with _ | _ | _ | _ | _ | _ | i
 ·cases h
 ·cases h
 ·cases h
 ·cases h;exact ⟨rfl,rfl⟩
 ·cases h
 ·cases h
 ·simp [pdF] at h
theorem pd_fr {w : World} {x : Pd} {g : Nat} {Q : Nat → Prop} {a : Option Addr} {l c : Nat} (hn : x.n.size ≤ 9223372036854775807) (hz : x.z.size ≤ 9223372036854775807) (hd : x.d.size ≤ 9223372036854775807) (hl : LFr w g Q x.zs (.slice a l c)) : ∀ (i : Nat) f,(pdF x)[i]? = some f → ∃ v,[.string x.n,.int .i64 x.c,.string x.z,.slice a l c,.string x.d,.int .i64 x.p][i]? = some v ∧ f.Fr w g Q v:=by
 intro i f h
 rcases i with _ | _ | _ | _ | _ | _ | i
 ·cases h;exact ⟨_,rfl,rfl,hn⟩
 ·cases h;exact ⟨_,rfl,rfl⟩
 ·cases h;exact ⟨_,rfl,rfl,hz⟩
 ·cases h;exact ⟨_,rfl,hl⟩
 ·cases h;exact ⟨_,rfl,rfl,hd⟩
 ·cases h;exact ⟨_,rfl,rfl⟩
 ·simp [pdF] at h

theorem iownpd_any (x : Pd) (va : Option Addr) (vl vc : Nat) (w : World) (hr : TxRow w va vl vc x.zs) (hl : vl ≤ 8001) :
  Calls Tryz.prog 157 #[.agg #[.string x.n,.int .i64 x.c,.string x.z,.slice va vl vc,.string x.d,.int .i64 x.p]] w fun e w' => ∃ a' l' c',e = .returned (.agg #[.string x.n,.int .i64 x.c,.string x.z,.slice a' l' c',.string x.d,.int .i64 x.p]) ∧ TOwn w' a' l' c' x.zs (fun k => w.heap.size ≤ k) ∧ Below w.heap.size w w':=by
 have HR:=hidK hr;have HB:=hidK (Below.refl w.heap.size w);clear hr
 go_enter Tryz.func157,Tryz.ntmps157
 go_wp2_with fail;refine (Ap.ownNames_any va vl vc x.zs _ (HR.out.below (HB.out.trans ((below2 _ _ _).mono HB.out.size))) hl).mono ?_;rintro e w1 ⟨a',l',c',rfl,h1,h2,hb⟩;obtain ⟨HA0,HA1,hbx⟩:=slots2 hb;have Bp:=hidK HA0;have Br:=hidK HA1;replace HB:=upB HB hbx;clear hb hbx HA0 HA1;have HO : Hid (TOwn w1 a' l' c' x.zs (fun k => w.heap.size + 1 + 1 ≤ k)):=⟨h1,h2.imp id fun ⟨g,cur,e1,e2,e3⟩ => ⟨g,cur,e1,by simpa using e2,e3⟩⟩;clear h1 h2;obtain ⟨p0,p1,p2,p3,p4,p5⟩:=cs6 Bp.out;have ltp_1:=lt_of_some Bp.out;obtain ⟨r0,r1,r2,r3,r4,r5⟩:=cs6 Br.out;have ltr_1:=lt_of_some Br.out;have fp0:=froK Bp.out 0;have fr0:=froK Br.out 0;have fp1:=froK Bp.out 1;have fr1:=froK Br.out 1;have fp2:=froK Bp.out 2;have fr2:=froK Br.out 2;have fp3:=froK Bp.out 3;have fr3:=froK Br.out 3;have fp4:=froK Bp.out 4;have fr4:=froK Br.out 4;have fp5:=froK Bp.out 5;have fr5:=froK Br.out 5;go_wp2_with fail;refine bodyPost_ret (v:=.agg #[.string x.n,.int .i64 x.c,.string x.z,.slice a' l' c',.string x.d,.int .i64 x.p]) (by simp [results,Tryz.results157,go_sem, *]) rfl ⟨a',l',c',rfl,HO.out.keep (fun k _ s => by have s1 : w.heap.size + 1 + 1 ≤ k:=s;rw [Below.heap_setCell _ _ _ _ (show k ≠ w.heap.size + 1 by omega),Below.heap_setCell _ _ _ _ (show k ≠ w.heap.size + 1 by omega),Below.heap_setCell _ _ _ _ (show k ≠ w.heap.size + 1 by omega),Below.heap_setCell _ _ _ _ (show k ≠ w.heap.size + 1 by omega),Below.heap_setCell _ _ _ _ (show k ≠ w.heap.size + 1 by omega),Below.heap_setCell _ _ _ _ (show k ≠ w.heap.size + 1 by omega),Below.heap_setCell _ _ _ _ (show k ≠ w.heap.size by omega)]) (fun k _ s => by have s1 : w.heap.size + 1 + 1 ≤ k:=s;show w.heap.size ≤ k;omega),sb1 (sb1 (sb1 (sb1 (sb1 (sb1 (set_below (Nat.le_refl _) (HB.out)))))))⟩

theorem iownedpd_any (a : Option Addr) (len cap : Nat) (xs : List Pd) (w : World) (hr : RRow w a len cap 6 (xs.map pdF)) (hl : len ≤ 8) (hs : ∀ (j : Nat) x,xs[j]? = some x → x.zs.length ≤ 8001) :
  Calls Tryz.prog 156 #[.slice a len cap,.func (.func 157) #[] #[]] w fun e w' => ∃ a' c',e = .returned (.slice a' len c') ∧ ROwn w' a' len c' 6 102 (xs.map pdF) (fun k => w.heap.size ≤ k) ∧ Below w.heap.size w w':=by
 have HR:=hidK hr;have HS:=hidK hs
 have hxl : xs.length = len:=by simpa using hr.1
 clear hr hs;obtain ⟨i0,hi,hz0,hz1,hz2⟩:=info_parts infopd;have HI0:=hidK (And.intro hi (And.intro hz0 (And.intro hz1 hz2)));clear hi hz0 hz1 hz2
 go_enter Tryz.func156,Tryz.ntmps156
 go_wp2
 go_loopw [5,10] (fun vo vi wr => ∃ (k : Nat) (vss : List (List Value)) (H : Nat → Nat → Nat),k ≤ len ∧ vi = .int .i64 k ∧ Hid (wr.ownsRow w.heap.size 102 6 vo k vss.flatten) ∧ Hid (VRecs wr (fun k => w.heap.size ≤ k) 6 ((xs.take k).map pdF) vss H) ∧ Hid (Below w.heap.size w wr)) (fun _ vi _ => len - (intOf vi).toNat)
 case atStart => exact ⟨0,[],fun _ _ => 0,by omega,rfl,World.ownsRow_nil _ _ _ _,VRecs.nil _ _ _ _,Below.refl _ _⟩
 case round =>
  obtain ⟨k,vss,H,hk,rfl,HO,HV,HB⟩:=hrel;have hBs:=HB.out.size
  by_cases hlt : k < len
  ·obtain ⟨b,o,x,rfl,hb,hx,hat⟩:=pd_at (HR.out.below HB.out) hlt;obtain ⟨va,vl,vc,hvr,z0,z2,z4,c0,c1,c2,c3,c4,c5⟩:=pd_cells hat
   have hz8 : vl ≤ 8001:=by have h1:=hvr.1;have h2:=HS.out k x hx;omega
   have HX:=hidK hx;have HT:=hidK hvr;have HZz0:=hidK z0;have HZz2:=hidK z2;have HZz4:=hidK z4;clear hat hx hvr z0 z2 z4;go_wp2_with fail;refine (iownpd_any x va vl vc _ (HT.out.below (below1 _ _)) hz8).mono ?_;rintro e w2 ⟨a',l',c',rfl,ho,hb2⟩;obtain ⟨-,hbx⟩:=slots1 hb2;rw [size1] at ho;obtain ⟨g,hg⟩:=ho.fr;have HG:=hidK hg;have HX2:=hidK hbx;have HO2:=hidK (owns_below HO.out hbx)
   have hs2 : wr.heap.size < w2.heap.size:=by have:=hb2.size;rw [size1] at this;omega
   clear ho hb2 hbx hg hb c0 c1 c2 c3 c4 c5
   go_wp2_with (first | (at_builtin;refine wpList_append_own _ rfl _ _ 34 rfl w.heap.size 102 i0 (.agg #[.string ⟨#[]⟩,.int .i64 0,.string ⟨#[]⟩,.slice none 0 0,.string ⟨#[]⟩,.int .i64 0]) 6 88 Tryz.underlying34 HI0.out.1 HI0.out.2.1 HI0.out.2.2.1 HI0.out.2.2.2 rfl (by decide) _ _ _ rfl (HO2.out.alloc _) ⟨w2.heap.size,0,none⟩ 1 1 [.string x.n,.int .i64 x.c,.string x.z,.slice a' l' c',.string x.d,.int .i64 x.p] rfl rfl ?c1 ?c2 ?c3 ?c4 ?c5 ?_))
   case c1 => exact news_alloc _ _ _
   case c2 => intro u hu;simp only [List.mem_cons,List.not_mem_nil,or_false] at hu;rcases hu with rfl | rfl | rfl | rfl | rfl | rfl <;> rfl
   case c3 => unfold maxLen;omega
   case c4 => omega
   case c5 => simp;omega
   rintro v' w3 hown3 hgrow -
   have HO3 : Hid (w3.ownsRow w.heap.size 102 6 v' (k + 1) (vss ++ ([[.string x.n,.int .i64 x.c,.string x.z,.slice a' l' c',.string x.d,.int .i64 x.p]] : List (List Value))).flatten):=by
    show World.ownsRow _ _ _ _ _ _ _
    rw [List.flatten_append]
    simpa using hown3
   have hb23 : Below wr.heap.size wr (w2.alloc (.cells #[.string x.n,.int .i64 x.c,.string x.z,.slice a' l' c',.string x.d,.int .i64 x.p] 102)):=HX2.out.trans ((below1 _ _).mono (Nat.le_of_lt hs2))
   have hV:=HV.out.app (r:=pdF x) (vs:=[.string x.n,.int .i64 x.c,.string x.z,.slice a' l' c',.string x.d,.int .i64 x.p]) (hh:=g) hb23 (HO2.out.alloc _) (by decide) hgrow rfl rfl
    (pd_fr HZz0.out HZz2.out HZz4.out (HG.out.keep (S':=fun k => w.heap.size ≤ k) (fun cu _ q => Below.heap_alloc _ _ _ (lt_of_some q)) (fun _ s => by have s1 : wr.heap.size + 1 ≤ g:=s;show w.heap.size ≤ g;omega)))
    (fun i zs hi hz => by obtain ⟨_,rfl⟩:=pd_l hi;have s1 : wr.heap.size + 1 ≤ g:=(HG.out.lt hz).1;omega) (fun i i' zs zs' h1 _ h2 _ => (pd_l h1).1.trans (pd_l h2).1.symm)
   have e1 : (xs.take (k + 1)).map pdF = (xs.take k).map pdF ++ [pdF x]:=by rw [List.take_add_one,HX.out];simp
   rw [← e1] at hV;have HV3:=hidK hV;have HB3:=hidK ((HB.out.trans (hb23.mono hBs)).grown hgrow (by simp;omega) (fun g hg => (HO2.out.lt g hg).1));clear hown3 hgrow hb23 hV e1
   go_wp2
   exact ⟨⟨k + 1,_,_,by omega,by go_num,HO3,HV3,HB3⟩,by simp [intOf];omega⟩
  ·obtain rfl : len = k:=by omega
   have h5:=HV.out;rw [List.take_of_length_le (by omega)] at h5;obtain ⟨a',c',rfl,hR⟩:=h5.own HO.out (by simp [hxl]) (by decide) (fun g hg => (HO.out.lt g hg).1);have HR5:=hidK hR
   have hl5 : (xs.map pdF).length = len:=by simpa using hxl
   rw [hl5] at HR5;rw [hl5];clear h5 hR HV HO
   go_wp2
   go_ret;exact ⟨a',c',rfl,HR5.out,HB.out⟩

end Rc
end Go.Proofs.YtmknjejaochfjaaGreatDoor

namespace Go.Proofs.YtmknjejaochfjaaGreatDoor
open Go.RowKit
namespace Gi

abbrev Rs:=Option Tmp → World → World → Prop
structure Rel (R : Rs) (sp : Tmp) : Prop where
 refl : ∀ w,R none w w
 trans : ∀ {a b c},R none a b → R none b c → R none a c
 size : ∀ {a b},R none a b → a.heap.size ≤ b.heap.size
 drew : ∀ w,R none w w.drew
 sub : ∀ s {a b},R s a b → R none a b
 low : ∀ s {a b},¬ s = none → ¬ s = some sp → R s a b → Below a.heap.size a b
abbrev Fact:=Value → World → Nat → Nat → Prop
abbrev Ex:=Tmp → Option Tmp
def Fact.Mono (R : Rs) (ex : Ex) (d : Option Tmp) (φ : Fact) : Prop:=∀ s,¬ s = none → ¬ s = d → (∀ t e,d = some t → ex t = some e → ¬ s = some e) → ∀ v w w' l h,φ v w l h → R s w w' → φ v w' l h
theorem Fact.mono_eq (R : Rs) (ex : Ex) (d : Option Tmp) (c : Value) : Fact.Mono R ex d (fun v _ _ _ => v = c):=fun _ _ _ _ _ _ _ _ _ h _ => h

def slotFact (ex : Ex) (d : Option Tmp) (a0 : Act) (known : List (Tmp × Fact)) (a : Act) (w : World) (lo hi : Tmp → Nat) (t : Tmp) : Prop :=
 match known.lookup t with
 | some φ => (ex t = none ∨ ex t = d) → φ (a.tmps.getD t undef) w (lo t) (hi t)
 | none => a.tmps.getD t undef = a0.tmps.getD t undef

def ApartAt (known : List (Tmp × Fact)) (lo hi : Tmp → Nat) (ts : List Tmp) : Prop:=∀ t ∈ ts,∀ t' ∈ ts,(known.lookup t).isSome = true → (known.lookup t').isSome = true → ¬ t = t' → hi t ≤ lo t' ∨ hi t' ≤ lo t
def Obl (R : Rs) (sp : Tmp) (ex : Ex) (P : Program) (ops : Array Oper) (Q : Exit → Act → World → Prop) (W : World) (a0 : Act) (known : List (Tmp × Fact)) (o : Oper) (φ : Fact) : Prop :=
 ∀ (a : Act) (w : World) (K : Act → World → Prop) (lo hi : Tmp → Nat),a.tmps.size = a0.tmps.size → R none W w → (o.dst = some sp → Below W.heap.size W w) → (∀ t ∈ o.looksAt ops,slotFact ex o.dst a0 known a w lo hi t) → ApartAt known lo hi (o.looksAt ops) →
  (∀ v w',R o.dst w w' → φ v w' w.heap.size w'.heap.size → K (a.put o.dst v) w') → if Region.wanted o (yielded ops a.tmps) = true then o.wp P a w K Q else K (a.put o.dst undef) w

theorem Obl.plain {R : Rs} {sp : Tmp} {ex : Ex} {P : Program} {ops : Array Oper} {Q : Exit → Act → World → Prop} {W : World} {a0 : Act} {known : List (Tmp × Fact)} {o : Oper} {φ : Fact} (hg : o.guard = none)
  (h : ∀ (a : Act) (w : World) (K : Act → World → Prop) (lo hi : Tmp → Nat),a.tmps.size = a0.tmps.size → R none W w → (o.dst = some sp → Below W.heap.size W w) → (∀ t ∈ looksOf o,slotFact ex o.dst a0 known a w lo hi t) → ApartAt known lo hi (looksOf o) → (∀ v w',R o.dst w w' → φ v w' w.heap.size w'.heap.size → K (a.put o.dst v) w') → o.wp P a w K Q) : Obl R sp ex P ops Q W a0 known o φ:=by
 intro a w K lo hi h1 h2 h6 h3 h5 h4
 have hw : Region.wanted o (yielded ops a.tmps) = true:=by simp [Region.wanted,hg]
 rw [if_pos hw]
 have hs : ∀ t ∈ looksOf o,t ∈ o.looksAt ops:=fun t ht => by unfold Oper.looksAt;exact List.mem_append_left _ ht
 exact h a w K lo hi h1 h2 h6 (fun t ht => h3 t (hs t ht)) (fun t ht t' ht' => h5 t (hs t ht) t' (hs t' ht')) h4

def putsAll (a0 : Act) (known : List (Tmp × Fact)) (x : Tmp → Value) : Act:=known.foldr (fun p b => b.put (some p.1) (x p.1)) a0
def Apart (known : List (Tmp × Fact)) (lo hi : Tmp → Nat) : Prop:=∀ p ∈ known,∀ q ∈ known,¬ p.1 = q.1 → hi p.1 ≤ lo q.1 ∨ hi q.1 ≤ lo p.1
def Fin (R : Rs) (ex : Ex) (P : Program) (ops : Array Oper) (Q : Exit → Act → World → Prop) (W : World) (a0 : Act) (back : Option Oper) (known : List (Tmp × Fact)) : Prop :=
 ∀ (x : Tmp → Value) (w : World) (lo hi : Tmp → Nat),R none W w → (∀ p ∈ known,ex p.1 = none → p.2 (x p.1) w (lo p.1) (hi p.1)) → Apart known lo hi → lastStep P ops Q back (putsAll a0 known x) w

def kn (d : Option Tmp) (φ : Fact) (known : List (Tmp × Fact)) : List (Tmp × Fact):=match d with | some t => (t,φ) :: known | none => known

def Grow (R : Rs) (sp : Tmp) (ex : Ex) (P : Program) (ops : Array Oper) (Q : Exit → Act → World → Prop) (W : World) (a0 : Act) (back : Option Oper) : List Oper → List (Tmp × Fact) → Prop
 | [],known => Fin R ex P ops Q W a0 back known
 | o :: rest,known => ∃ φ : Fact,φ.Mono R ex o.dst ∧ Obl R sp ex P ops Q W a0 known o φ ∧ Grow R sp ex P ops Q W a0 back rest (kn o.dst φ known)
theorem Grow.step {R : Rs} {sp : Tmp} {ex : Ex} {P : Program} {ops : Array Oper} {Q : Exit → Act → World → Prop} {W : World} {a0 : Act} {back : Option Oper} {o : Oper} {rest : List Oper} {known : List (Tmp × Fact)} {t : Tmp} (φ : Fact) (hd : o.dst = some t) (hφ : φ.Mono R ex (some t)) (ho : Obl R sp ex P ops Q W a0 known o φ)
  (h : Grow R sp ex P ops Q W a0 back rest ((t,φ) :: known)) : Grow R sp ex P ops Q W a0 back (o :: rest) known:=⟨φ,by rw [hd];exact hφ,ho,by rw [hd];exact h⟩
theorem Grow.stepC {R : Rs} {sp : Tmp} {ex : Ex} {P : Program} {ops : Array Oper} {Q : Exit → Act → World → Prop} {W : World} {a0 : Act} {back : Option Oper} {o : Oper} {rest : List Oper} {known : List (Tmp × Fact)} {t : Tmp} (c : Value) (hd : o.dst = some t) (ho : Obl R sp ex P ops Q W a0 known o (fun v _ _ _ => v = c))
  (h : Grow R sp ex P ops Q W a0 back rest ((t,fun v _ _ _ => v = c) :: known)) : Grow R sp ex P ops Q W a0 back (o :: rest) known:=Grow.step _ hd (Fact.mono_eq R ex _ c) ho h
theorem Grow.done {R : Rs} {sp : Tmp} {ex : Ex} {P : Program} {ops : Array Oper} {Q : Exit → Act → World → Prop} {W : World} {a0 : Act} {back : Option Oper} {known : List (Tmp × Fact)} (h : Fin R ex P ops Q W a0 back known) : Grow R sp ex P ops Q W a0 back [] known:=h

section
variable {R : Rs} {sp : Tmp} {ex : Ex} {P : Program} {ops : Array Oper} {Q : Exit → Act → World → Prop} {W : World} {a0 : Act} {back : Option Oper}

def knAll : List (Tmp × Fact) → List Oper → List Fact → List (Tmp × Fact)
 | known,o :: l,φ :: φs => knAll (kn o.dst φ known) l φs
 | known,_,_ => known
theorem knAll_nil (known : List (Tmp × Fact)) (φs : List Fact) : knAll known [] φs = known:=by cases φs <;> rfl

theorem Grow.spec : ∀ (l : List Oper) (known : List (Tmp × Fact)),Grow R sp ex P ops Q W a0 back l known → ∃ φs : List Fact,φs.length = l.length ∧
  (∀ (i : Nat) (o : Oper) (φ : Fact),l[i]? = some o → φs[i]? = some φ → φ.Mono R ex o.dst ∧ Obl R sp ex P ops Q W a0 (knAll known (l.take i) (φs.take i)) o φ) ∧ Fin R ex P ops Q W a0 back (knAll known l φs)
 | [],known,h => ⟨[],rfl,fun i o φ h => by simp at h,by rw [knAll_nil];exact h⟩
 | o :: l,known,h => by
  obtain ⟨φ,hφ,ho,hr⟩:=h;obtain ⟨φs,hl,hs,hf⟩:=Grow.spec l _ hr;refine ⟨φ :: φs,by simp [hl],?_,hf⟩;intro i o' φ' h1 h2
  cases i with
  | zero =>
   simp only [List.getElem?_cons_zero,Option.some.injEq] at h1 h2;subst h1;subst h2;exact ⟨hφ,ho⟩
  | succ i =>
   simp only [List.getElem?_cons_succ] at h1 h2
   simpa [knAll] using hs i o' φ' h1 h2

theorem lookup_kn (d : Option Tmp) (φ : Fact) (known : List (Tmp × Fact)) (t : Tmp) : (kn d φ known).lookup t = if d = some t then some φ else known.lookup t:=by
 cases d with
 | none => simp [kn]
 | some d =>
  simp only [kn,Option.some.injEq,List.lookup_cons]
  by_cases h : d = t
  ·subst h;simp
  ·rw [if_neg h]
   have : (t == d) = false:=by simpa using fun e => h e.symm
   rw [this]

theorem lookup_some : ∀ (l : List Oper) (φs : List Fact) (known : List (Tmp × Fact)) {t : Tmp} {φ : Fact},(knAll known l φs).lookup t = some φ →
  (∃ (i : Nat) (o : Oper),l[i]? = some o ∧ o.dst = some t ∧ φs[i]? = some φ) ∨ known.lookup t = some φ
 | [],φs,known,t,φ,h => by rw [knAll_nil] at h;exact .inr h
 | o :: l,[],known,t,φ,h => .inr h
 | o :: l,ψ :: φs,known,t,φ,h => by
  rcases lookup_some l φs (kn o.dst ψ known) h with ⟨i,o',h1,h2,h3⟩ | h
  ·exact .inl ⟨i + 1,o',by simpa using h1,h2,by simpa using h3⟩
  ·rw [lookup_kn] at h
   by_cases hd : o.dst = some t
   ·rw [if_pos hd] at h;exact .inl ⟨0,o,rfl,hd,by simpa using h⟩
   ·rw [if_neg hd] at h;exact .inr h
theorem lookup_none : ∀ (l : List Oper) (φs : List Fact) (known : List (Tmp × Fact)) {t : Tmp},(knAll known l φs).lookup t = none →
  known.lookup t = none ∧ ∀ (i : Nat) (o : Oper) (φ : Fact),l[i]? = some o → φs[i]? = some φ → o.dst ≠ some t
 | [],φs,known,t,h => by rw [knAll_nil] at h;exact ⟨h,fun i o φ h => by simp at h⟩
 | o :: l,[],known,t,h => ⟨h,fun i o φ _ h => by simp at h⟩
 | o :: l,ψ :: φs,known,t,h => by
  obtain ⟨h1,h2⟩:=lookup_none l φs (kn o.dst ψ known) h;rw [lookup_kn] at h1
  by_cases hd : o.dst = some t
  ·rw [if_pos hd] at h1;cases h1
  ·rw [if_neg hd] at h1;refine ⟨h1,fun i o' φ h3 h4 => ?_⟩
   cases i with
   | zero => simp only [List.getElem?_cons_zero,Option.some.injEq] at h3;subst h3;exact hd
   | succ i => exact h2 i o' φ (by simpa using h3) (by simpa using h4)
theorem mem_knAll : ∀ (l : List Oper) (φs : List Fact) (known : List (Tmp × Fact)) {p : Tmp × Fact},p ∈ knAll known l φs →
  (∃ (i : Nat) (o : Oper),l[i]? = some o ∧ o.dst = some p.1 ∧ φs[i]? = some p.2) ∨ p ∈ known
 | [],φs,known,p,h => by rw [knAll_nil] at h;exact .inr h
 | o :: l,[],known,p,h => .inr h
 | o :: l,ψ :: φs,known,p,h => by
  rcases mem_knAll l φs (kn o.dst ψ known) h with ⟨i,o',h1,h2,h3⟩ | h
  ·exact .inl ⟨i + 1,o',by simpa using h1,h2,by simpa using h3⟩
  ·cases hd : o.dst with
   | none => rw [hd] at h;exact .inr h
   | some d =>
    rw [hd] at h;simp only [kn,List.mem_cons] at h
    rcases h with rfl | h
    ·exact .inl ⟨0,o,rfl,hd,rfl⟩
    ·exact .inr h

theorem putsAll_size (a0 : Act) (x : Tmp → Value) : ∀ known,(putsAll a0 known x).tmps.size = a0.tmps.size
 | [] => rfl
 | p :: l => by unfold putsAll;rw [List.foldr_cons,size_put];exact putsAll_size a0 x l
theorem putsAll_defers (a0 : Act) (x : Tmp → Value) : ∀ known,(putsAll a0 known x).defers = a0.defers
 | [] => rfl
 | p :: l => by unfold putsAll;rw [List.foldr_cons,defers_put];exact putsAll_defers a0 x l
theorem putsAll_getD (a0 a : Act) (known : List (Tmp × Fact)) (hk : ∀ p ∈ known,p.1 < a0.tmps.size) (t : Tmp) (h : (∀ p ∈ known,p.1 ≠ t) → a.tmps.getD t undef = a0.tmps.getD t undef) :
  (putsAll a0 known (fun t => a.tmps.getD t undef)).tmps.getD t undef = a.tmps.getD t undef:=by
 induction known with
 | nil => exact (h (fun p hp => by simp at hp)).symm
 | cons p l ih =>
  have e : putsAll a0 (p :: l) (fun t => a.tmps.getD t undef) = (putsAll a0 l (fun t => a.tmps.getD t undef)).put (some p.1) (a.tmps.getD p.1 undef):=rfl;rw [e,getD_put,putsAll_size]
  by_cases hp : p.1 = t
  ·subst hp;rw [if_pos ⟨rfl,hk p (by simp)⟩]
  ·rw [if_neg (fun h => hp h.1)]
   exact ih (fun q hq => hk q (by simp [hq])) (fun hn => h (fun q hq => by
    rcases List.mem_cons.1 hq with rfl | hq
    ·exact hp
    ·exact hn q hq))
structure At (R : Rs) (sp : Tmp) (ex : Ex) (front : List Oper) (φs : List Fact) (W : World) (a0 : Act) (listed : Array Bool) (a : Act) (w : World) (lo hi : Tmp → Nat) : Prop where
 size : a.tmps.size = a0.tmps.size
 defers : a.defers = a0.defers
 below : R none W w
 pre : (∀ (i : Nat) (p : Oper),front[i]? = some p → p.dst = some sp → listed.getD i false = false) → Below W.heap.size W w
 known : ∀ (i : Nat) (o : Oper) (φ : Fact),front[i]? = some o → φs[i]? = some φ → ∀ t,o.dst = some t → listed.getD i false = true → (∀ e,ex t = some e → ∀ (i' : Nat) (p' : Oper),front[i']? = some p' → p'.dst = some e → listed.getD i' false = false) → φ (a.tmps.getD t undef) w (lo t) (hi t)
 top : ∀ (i : Nat) (o : Oper),front[i]? = some o → ∀ t,o.dst = some t → listed.getD i false = true → hi t ≤ w.heap.size
 apart : ∀ (i : Nat) (o : Oper) (i' : Nat) (o' : Oper),front[i]? = some o → front[i']? = some o' → ∀ t t',o.dst = some t → o'.dst = some t' → listed.getD i false = true → listed.getD i' false = true → ¬ t = t' → hi t ≤ lo t' ∨ hi t' ≤ lo t
 other : ∀ t,(∀ (i : Nat) (o : Oper),front[i]? = some o → o.dst = some t → listed.getD i false = false) → a.tmps.getD t undef = a0.tmps.getD t undef

theorem At.step {front : List Oper} {φs : List Fact} {listed : Array Bool} {a : Act} {w w' : World} {lo hi : Tmp → Nat} {j : Nat} {o : Oper} {φ : Fact} {v : Value} (hR : Rel R sp) (hds : ¬ o.dst = none) (h : At R sp ex front φs W a0 listed a w lo hi)
  (hn : (front.filterMap (·.dst)).Nodup) (hin : ∀ o ∈ front,∀ t,o.dst = some t → t < a0.tmps.size) (hmono : ∀ (i : Nat) (o : Oper) (φ : Fact),front[i]? = some o → φs[i]? = some φ → φ.Mono R ex o.dst)
  (ho : front[j]? = some o) (hφ : φs[j]? = some φ) (hj : j < listed.size) (hb : R o.dst w w') (hv : φ v w' w.heap.size w'.heap.size) : ∃ lo hi,At R sp ex front φs W a0 (listed.setIfInBounds j true) (a.put o.dst v) w' lo hi:=by
 have old : ∀ (i : Nat) (p : Oper) t,front[i]? = some p → p.dst = some t → ¬ j = i → (listed.setIfInBounds j true).getD i false = true → ¬ o.dst = some t ∧ listed.getD i false = true:=fun i p t hp ht e hl =>
  ⟨fun hd => e (nodup_dst front hn ho hp hd ht),by simpa [Array.getD_eq_getD_getElem?,Array.getElem?_setIfInBounds,e] using hl⟩
 refine ⟨fun t => if o.dst = some t then w.heap.size else lo t,fun t => if o.dst = some t then w'.heap.size else hi t,(size_put _ _ _).trans h.size,(defers_put _ _ _).trans h.defers,hR.trans h.below (hR.sub _ hb),fun hx => ?_,?_,?_,?_,?_⟩
 ·have hns : ¬ o.dst = some sp:=fun e => by
   have:=hx j o ho e
   simp [Array.getD_eq_getD_getElem?,hj] at this
  have h1:=h.pre (fun i p hp hd => by
   have h2:=hx i p hp hd
   have e : ¬ j = i:=fun e => by subst e;exact hns (by rw [Option.some.inj (ho.symm.trans hp)];exact hd)
   simpa [Array.getD_eq_getD_getElem?,Array.getElem?_setIfInBounds,e] using h2)
  exact h1.trans ((hR.low _ hds hns hb).mono h1.size)
 ·intro i p ψ hp hψ t ht hl hx
  by_cases e : j = i
  ·subst e;obtain rfl : o = p:=Option.some.inj (ho.symm.trans hp);obtain rfl : φ = ψ:=Option.some.inj (hφ.symm.trans hψ);simp only [if_pos ht];rw [ht,getD_put,if_pos ⟨rfl,by rw [h.size];exact hin o (List.mem_of_getElem? ho) t ht⟩];exact hv
  ·obtain ⟨hne,hl'⟩:=old i p t hp ht e hl;simp only [if_neg hne]
   have hxo : ∀ e,ex t = some e → ∀ (i' : Nat) (p' : Oper),front[i']? = some p' → p'.dst = some e → ¬ j = i' ∧ listed.getD i' false = false:=fun e9 he i' p' hp' hd' => by
    have h9:=hx e9 he i' p' hp' hd'
    by_cases ej : j = i'
    ·subst ej;simp [Array.getD_eq_getD_getElem?,hj] at h9
    ·exact ⟨ej,by simpa [Array.getD_eq_getD_getElem?,Array.getElem?_setIfInBounds,ej] using h9⟩
   have h1:=hmono i p ψ hp hψ o.dst hds (fun e9 => hne (e9.trans ht)) (fun t9 e9 h8 h9 hd => by
    obtain rfl : t = t9:=Option.some.inj (ht.symm.trans h8)
    exact (hxo e9 h9 j o ho hd).1 rfl) _ _ _ _ _ (h.known i p ψ hp hψ t ht hl' (fun e9 he i' p' hp' hd' => (hxo e9 he i' p' hp' hd').2)) hb
   cases hd : o.dst with
   | none => exact h1
   | some d =>
    rw [getD_put,if_neg (fun hx => hne (hd.trans (by rw [hx.1])))];exact h1
 ·intro i p hp t ht hl
  by_cases e : j = i
  ·subst e;obtain rfl : o = p:=Option.some.inj (ho.symm.trans hp);simp only [if_pos ht];exact Nat.le_refl _
  ·obtain ⟨hne,hl'⟩:=old i p t hp ht e hl;simp only [if_neg hne];exact Nat.le_trans (h.top i p hp t ht hl') (hR.size (hR.sub _ hb))
 ·intro i p i' p' hp hp' t t' ht ht' hl hl' hne
  by_cases e : j = i
  ·subst e;obtain rfl : o = p:=Option.some.inj (ho.symm.trans hp)
   by_cases e' : j = i'
   ·subst e';obtain rfl : o = p':=Option.some.inj (ho.symm.trans hp');exact absurd (Option.some.inj (ht.symm.trans ht')) hne
   ·obtain ⟨hne',hl''⟩:=old i' p' t' hp' ht' e' hl';simp only [if_pos ht,if_neg hne'];exact .inr (h.top i' p' hp' t' ht' hl'')
  ·obtain ⟨hne1,hl1⟩:=old i p t hp ht e hl
   by_cases e' : j = i'
   ·subst e';obtain rfl : o = p':=Option.some.inj (ho.symm.trans hp');simp only [if_pos ht',if_neg hne1];exact .inl (h.top i p hp t ht hl1)
   ·obtain ⟨hne',hl''⟩:=old i' p' t' hp' ht' e' hl';simp only [if_neg hne1,if_neg hne'];exact h.apart i p i' p' hp hp' t t' ht ht' hl1 hl'' hne
 ·intro t ht
  have hne : o.dst ≠ some t:=fun hd => by
   have:=ht j o ho hd
   simp [Array.getD_eq_getD_getElem?,hj] at this
  have h1:=h.other t (fun i p hp hd => by
   have h2:=ht i p hp hd
   have e : ¬ j = i:=fun e => by subst e;exact hne (by rw [Option.some.inj (ho.symm.trans hp)];exact hd)
   simpa [Array.getD_eq_getD_getElem?,Array.getElem?_setIfInBounds,e] using h2)
  cases hd : o.dst with
  | none => exact h1
  | some d =>
   rw [getD_put,if_neg (fun hx => hne (hd.trans (by rw [hx.1])))];exact h1

theorem Fin.last {front : List Oper} {φs : List Fact} {listed : Array Bool} {a : Act} {w : World} {lo hi : Tmp → Nat} (hf : Fin R ex P ops Q W a0 back (knAll [] front φs)) (hlen : φs.length = front.length) (hin : ∀ o ∈ front,∀ t,o.dst = some t → t < a0.tmps.size)
  (h : At R sp ex front φs W a0 listed a w lo hi) (hall : ∀ i,i < front.length → listed.getD i false = true) : lastStep P ops Q back a w:=by
 have h1:=hf (fun t => a.tmps.getD t undef) w lo hi h.below (fun p hp hpe => by
  rcases mem_knAll front φs [] hp with ⟨i,o,h1,h2,h3⟩ | h1
  ·exact h.known i o p.2 h1 h3 p.1 h2 (hall i (List.getElem?_eq_some_iff.1 h1).1) (fun e he => by rw [hpe] at he;cases he)
  ·simp at h1) (fun p hp q hq hne => by
  rcases mem_knAll front φs [] hp with ⟨i,o,h1,h2,h3⟩ | h1
  ·rcases mem_knAll front φs [] hq with ⟨i',o',g1,g2,g3⟩ | g1
   ·exact h.apart i o i' o' h1 g1 p.1 q.1 h2 g2 (hall i (List.getElem?_eq_some_iff.1 h1).1) (hall i' (List.getElem?_eq_some_iff.1 g1).1) hne
   ·simp at g1
  ·simp at h1)
 have e : putsAll a0 (knAll [] front φs) (fun t => a.tmps.getD t undef) = a:=by
  refine act_ext ((putsAll_size _ _ _).trans h.size.symm) ((putsAll_defers _ _ _).trans h.defers.symm) (fun t => putsAll_getD a0 a _ (fun p hp => ?_) t (fun hn => ?_))
  ·rcases mem_knAll front φs [] hp with ⟨i,o,h1,h2,h3⟩ | h1
   ·exact hin o (List.mem_of_getElem? h1) _ h2
   ·simp at h1
  ·refine h.other t (fun i o ho hd => ?_)
   exfalso
   have hi:=(List.getElem?_eq_some_iff.1 ho).1;have hφ : φs[i]? = some (φs[i]'(by omega)):=List.getElem?_eq_getElem _
   cases hk : (knAll [] front φs).lookup t with
   | none => exact (lookup_none front φs [] hk).2 i o _ ho hφ hd
   | some φ =>
    have : ∃ p ∈ knAll [] front φs,p.1 = t:=by
     revert hk
     generalize knAll [] front φs = l
     intro hk
     induction l with
     | nil => simp at hk
     | cons p l ih =>
      rw [List.lookup_cons] at hk
      cases hb : t == p.1 with
      | true => exact ⟨p,by simp,(by simpa using hb : t = p.1).symm⟩
      | false =>
       rw [hb] at hk;obtain ⟨q,hq,he⟩:=ih hk;exact ⟨q,by simp [hq],he⟩
    obtain ⟨p,hp,he⟩:=this;exact hn p hp he
 rw [e] at h1;exact h1

theorem wpAny_grow {front : List Oper} {φs : List Fact} (hR : Rel R sp) (hds : ∀ o ∈ front,¬ o.dst = none) (hops : ops = (front ++ back.toList).toArray) (hB : growB a0.tmps.size front back = true) (hlen : φs.length = front.length)
  (hs : ∀ (i : Nat) (o : Oper) (φ : Fact),front[i]? = some o → φs[i]? = some φ → φ.Mono R ex o.dst ∧ Obl R sp ex P ops Q W a0 (knAll [] (front.take i) (φs.take i)) o φ) (hf : Fin R ex P ops Q W a0 back (knAll [] front φs)) :
  ∀ (fuel : Nat) (listed : Array Bool) (a : Act) (w : World),listed.size = ops.size → listed.toList.count false ≤ fuel → (∀ o,back = some o → listed.getD front.length false = false) → (∃ lo hi,At R sp ex front φs W a0 listed a w lo hi) → wpAny P .any ops Q fuel listed a w:=by
 obtain ⟨hn,hin,hdep,hlt,hback⟩:=growB_spec hB;rw [← hops] at hdep hlt
 have hsz : ops.size = front.length + back.toList.length:=by rw [hops];simp
 -- all have come up
 have hend : ∀ (listed : Array Bool) (a : Act) (w : World),listed.size = ops.size → (∀ i,i < ops.size → listed.getD i false = true) → (∀ o,back = some o → listed.getD front.length false = false) → (∃ lo hi,At R sp ex front φs W a0 listed a w lo hi) → Q .normal a w:=by
  rintro listed a w hz hall hb ⟨lo,hi,h⟩;have h1:=hf.last hlen hin h (fun i hi => hall i (by omega))
  cases hk : back with
  | none => rw [hk] at h1;exact h1
  | some o =>
   have h2:=hb o hk;rw [hall _ (by rw [hsz,hk];simp)] at h2
   cases h2
 intro fuel
 induction fuel with
 | zero =>
  intro listed a w hz hc hb h;have hall : ∀ i,i < ops.size → listed.getD i false = true:=fun i hi => no_false (by omega) i (by omega);refine ⟨?_,hend listed a w hz hall hb h⟩
  cases hr : Region.ready .any ops listed with
  | nil => rfl
  | cons j js =>
   have hm : j ∈ Region.ready .any ops listed:=by rw [hr];simp
   obtain ⟨h1,o,ho,-⟩:=mem_ready.1 hm;have hj:=(Array.getElem?_eq_some_iff.1 ho).1;rw [← getD_ft (by omega),hall j hj] at h1
   cases h1
 | succ fuel ih =>
  intro listed a w hz hc hb hlh;refine ⟨fun hr => hend listed a w hz (all_listed hz hlt hr) hb hlh,fun j hj => ?_⟩;obtain ⟨lo,hi,h⟩:=hlh;obtain ⟨hun,o,ho,hall⟩:=mem_ready.1 hj;have hjs : j < ops.size:=(Array.getElem?_eq_some_iff.1 ho).1;have hcs:=count_set (listed:=listed) (i:=j) (by omega) hun
  by_cases hjf : j < front.length
  ·have hof : front[j]? = some o:=by rw [hops] at ho;simpa [List.getElem?_append_left hjf] using ho
   have hφ : φs[j]? = some (φs[j]'(by omega)):=List.getElem?_eq_getElem _;obtain ⟨hm,hob⟩:=hs j o _ hof hφ
   have hfacts : ∀ t ∈ o.looksAt ops,slotFact ex o.dst a0 (knAll [] (front.take j) (φs.take j)) a w lo hi t:=by
    intro t ht;unfold slotFact
    cases hk : (knAll [] (front.take j) (φs.take j)).lookup t with
    | some φ =>
     rcases lookup_some _ _ _ hk with ⟨i,p,h1,h2,h3⟩ | h1
     ·have hij : i < j:=by have:=(List.getElem?_eq_some_iff.1 h1).1;simp at this;omega
      rw [List.getElem?_take,if_pos hij] at h1 h3;obtain ⟨-,e,he,hon,hbi⟩:=hdep j o hof t ht i p h1 h2;have hl:=hall e he hbi;rw [hon] at hl;intro hex;refine h.known i p φ h1 h3 t h2 hl (fun e9 he i' p' hp' hd' => ?_)
      rcases hex with h9 | h9
      ·rw [h9] at he;cases he
      ·have : i' = j:=nodup_dst front hn hp' hof hd' (h9.symm.trans he);subst this;rw [getD_ft (by omega)];exact hun
     ·simp at h1
    | none =>
     refine h.other t (fun i p hp hd => ?_)
     exfalso
     obtain ⟨hij,-⟩:=hdep j o hof t ht i p hp hd;have hi:=(List.getElem?_eq_some_iff.1 hp).1;exact (lookup_none _ _ _ hk).2 i p (φs[i]'(by omega)) (by rw [List.getElem?_take,if_pos hij];exact hp) (by rw [List.getElem?_take,if_pos hij];exact List.getElem?_eq_getElem _) hd
   have hfind : ∀ t ∈ o.looksAt ops,((knAll [] (front.take j) (φs.take j)).lookup t).isSome = true → ∃ (i : Nat) (p : Oper),front[i]? = some p ∧ p.dst = some t ∧ listed.getD i false = true:=by
    intro t ht hk;obtain ⟨φ,hφ'⟩:=Option.isSome_iff_exists.1 hk
    rcases lookup_some _ _ _ hφ' with ⟨i,p,h1,h2,h3⟩ | h1
    ·have hij : i < j:=by have:=(List.getElem?_eq_some_iff.1 h1).1;simp at this;omega
     rw [List.getElem?_take,if_pos hij] at h1;obtain ⟨-,e,he,hon,hbi⟩:=hdep j o hof t ht i p h1 h2;have hl:=hall e he hbi;rw [hon] at hl;exact ⟨i,p,h1,h2,hl⟩
    ·simp at h1
   have hap : ApartAt (knAll [] (front.take j) (φs.take j)) lo hi (o.looksAt ops):=by
    intro t ht t' ht' hk hk' hne;obtain ⟨i,p,h1,h2,h3⟩:=hfind t ht hk;obtain ⟨i',p',g1,g2,g3⟩:=hfind t' ht' hk';exact h.apart i p i' p' h1 g1 t t' h2 g2 h3 g3 hne
   have hpre : o.dst = some sp → Below W.heap.size W w:=fun hd => h.pre (fun i p hp hd' => by
    have : i = j:=nodup_dst front hn hp hof hd' hd;subst this;rw [getD_ft (by omega)]
    exact hun)
   have h1:=hob a w (wpAny P .any ops Q fuel (listed.setIfInBounds j true)) lo hi h.size h.below hpre hfacts hap (fun v w' hbw hv => by
    refine ih _ _ _ (by simpa using hz) (by omega) (fun o' ho' => ?_) (h.step hR (hds o (List.mem_of_getElem? hof)) hn hin (fun i o φ h1 h2 => (hs i o φ h1 h2).1) hof hφ (by omega) hbw hv);have h2:=hb o' ho'
    have e : ¬ j = front.length:=by omega
    simpa [Array.getD_eq_getD_getElem?,Array.getElem?_setIfInBounds,e] using h2)
   unfold wpOp;rw [ho]
   simp only
   split
   ·rename_i hw;rw [if_pos hw] at h1;exact .inl h1
   ·rename_i hw;rw [if_neg hw] at h1;exact h1
  ·cases hk : back with
   | none => rw [hk] at hsz;simp at hsz;omega
   | some b =>
    have hjn : j = front.length:=by rw [hk] at hsz;simp at hsz;omega
    subst hjn
    have hob : o = b:=by
     rw [hops,hk] at ho
     simp at ho
     exact ho.symm
    subst hob
    have hfl : ∀ i,i < front.length → listed.getD i false = true:=fun i hi => by
     obtain ⟨e,he,hon,hbi⟩:=hback o hk i hi;have:=hall e he hbi
     rwa [hon] at this
    have h1:=hf.last hlen hin h hfl;rw [hk] at h1
    have h2:=h1 (wpAny P .any ops Q fuel (listed.setIfInBounds front.length true)) (fun a' w' hq => by
     have hr : Region.ready .any ops (listed.setIfInBounds front.length true) = []:=by
      cases hr : Region.ready .any ops (listed.setIfInBounds front.length true) with
      | nil => rfl
      | cons i is =>
       have hm : i ∈ Region.ready .any ops (listed.setIfInBounds front.length true):=by rw [hr];simp
       obtain ⟨h3,o',ho',-⟩:=mem_ready.1 hm;have hi:=(Array.getElem?_eq_some_iff.1 ho').1
       exfalso
       by_cases e : front.length = i
       ·subst e
        simp [Array.getD_eq_getD_getElem?,show front.length < listed.size from by omega] at h3
       ·have h4:=hfl i (by rw [hk] at hsz;simp at hsz;omega);rw [getD_ft (by omega)] at h4
        simp [Array.getD_eq_getD_getElem?,e] at h3 h4
        rw [h3] at h4
        cases h4
     cases fuel with
     | zero => exact ⟨hr,hq⟩
     | succ fuel => exact ⟨fun _ => hq,fun i hi => by rw [hr] at hi;cases hi⟩)
    unfold wpOp;rw [ho]
    simp only
    split
    ·rename_i hw;rw [if_pos hw] at h2;exact .inl h2
    ·rename_i hw;rw [if_neg hw] at h2;exact h2
end

theorem wp_region_grow {R : Rs} {sp : Tmp} {ex : Ex} (hR : Rel R sp) {P : Program} {id : Nat} {Q : Exit → Act → World → Prop} {a0 : Act} {W : World} {l : List Oper} {front : List Oper} {back : Option Oper} (hm : P.follows .mixedOrders = true) (hl : l = front ++ back.toList) (hds : front.all (fun o => o.dst.isSome) = true) (hB : growB a0.tmps.size front back = true)
  (h : Grow R sp ex P l.toArray Q W a0 back front []) : (Code.region id l.toArray true).wp P Q a0 W:=by
 obtain ⟨φs,hlen,hs,hf⟩:=Grow.spec _ _ h;refine wp_region_any hm (wpAny_grow hR (fun o ho e => by have:=List.all_eq_true.1 hds o ho;rw [e] at this;cases this) (by rw [hl]) hB hlen hs hf _ _ _ _ (by simp) ?_ (fun o ho => ?_) ⟨fun _ => 0,fun _ => 0,rfl,rfl,hR.drew _,fun _ => (Below.refl _ _).drew,fun i o φ h1 h2 t ht hx _ => ?_,fun i o h1 t ht hx => ?_,fun i o i' o' h1 h2 t t' ht ht' hx => ?_,fun t _ => rfl⟩)
 ·have:=List.count_le_length (a:=false) (l:=(Array.replicate l.toArray.size false).toList)
  simp at this ⊢
 ·exact repl_false _ _
 ·rw [repl_false] at hx;cases hx
 ·rw [repl_false] at hx;cases hx
 ·rw [repl_false] at hx;cases hx
theorem wp_region_grow_last {R : Rs} {sp : Tmp} {ex : Ex} (hR : Rel R sp) {P : Program} {id : Nat} {Q : Exit → Act → World → Prop} {a0 : Act} {W : World} {l : List Oper} {front : List Oper} {last : Oper} (hm : P.follows .mixedOrders = true) (hf : l.dropLast = front) (hb : l.getLast? = some last) (hds : front.all (fun o => o.dst.isSome) = true) (hB : growB a0.tmps.size front (some last) = true)
  (h : Grow R sp ex P l.toArray Q W a0 (some last) front []) : (Code.region id l.toArray true).wp P Q a0 W:=by
 refine wp_region_grow hR hm ?_ hds hB h;obtain ⟨l',rfl⟩:=List.getLast?_eq_some_iff.1 hb;rw [← hf]
 simp

def Bel (w w' : World) : Prop:=Below w.heap.size w w'
theorem Bel.rel (sp : Tmp) : Rel (fun _ => Bel) sp:=⟨fun _ => Below.refl _ _,fun h k => Below.trans h (Below.mono k (Below.size h)),fun h => Below.size h,fun _ => (Below.refl _ _).drew,fun _ _ _ h => h,fun _ _ _ _ _ h => h⟩
end Gi
end Go.Proofs.YtmknjejaochfjaaGreatDoor

namespace Go.Proofs.YtmknjejaochfjaaGreatDoor
open Go.RowKit
namespace Rc
open Mk

structure Sm (c : Cl) : Prop where
 n : c.ns.length ≤ 8
 ns : ∀ (j : Nat) x,c.ns[j]? = some x → x.zs.length ≤ 8001
 k : c.ks.length ≤ 8
 v : c.vs.length ≤ 8
 vs : ∀ (j : Nat) x,c.vs[j]? = some x → x.zs.length ≤ 8001
 x : c.xs.length ≤ 8
 p : c.ps.length ≤ 8
 ps : ∀ (j : Nat) x,c.ps[j]? = some x → x.zs.length ≤ 8001
theorem RightI.sm {c : Cl} (h : RightI c) : Sm c:=by
 obtain ⟨_,⟨⟨h1,h2,_⟩,⟨h3,_⟩,⟨h4,h5,_⟩,⟨h6,_⟩,⟨h7,h8,_⟩⟩,_⟩:=h;refine ⟨by omega,fun j x hj => ?_,by omega,by omega,fun j x hj => ?_,by omega,by omega,fun j x hj => ?_⟩
 ·have:=(h2 j x hj).2.2.2.2.2.1;omega
 ·have:=(names_six (h5 j x hj).2.2.2.2.2.2).1;omega
 ·have:=(h8 j x hj).2.2.2.1.1;omega

def flatV (r : List Fv) : List Value:=r.map fun f => f.val.getD undef
def FlatR (r : List Fv) : Prop:=∀ (i : Nat) f,r[i]? = some f → ∃ v,f.val = some v
theorem Fv.Is.val {w : World} {f : Fv} {v u : Value} (h : f.Is w v) (hu : f.val = some u) : v = u ∧ f.Fr w 0 (fun _ => False) v:=by
 cases f with
 | s t => cases hu;exact ⟨h.1,h⟩
 | i n => cases hu;exact ⟨h,h⟩
 | b x => cases hu;exact ⟨h,h⟩
 | l zs => cases hu
theorem Fv.Fr.any {w w' : World} {f : Fv} {v u : Value} {h h' : Nat} {S S' : Nat → Prop} (k : f.Fr w h S v) (hu : f.val = some u) : f.Fr w' h' S' v:=by
 cases f with
 | l zs => cases hu
 | _ => exact k
theorem flatV_at {r : List Fv} (hf : FlatR r) {i : Nat} {f : Fv} (hi : r[i]? = some f) : ∃ u,f.val = some u ∧ (flatV r)[i]? = some u:=by
 obtain ⟨u,hu⟩:=hf i f hi;exact ⟨u,hu,by rw [flatV,List.getElem?_map,hi];simp [hu]⟩
theorem flatV_inv {r : List Fv} (hf : FlatR r) {i : Nat} {u : Value} (hi : (flatV r)[i]? = some u) : ∃ f,r[i]? = some f ∧ f.val = some u:=by
 rw [flatV,List.getElem?_map] at hi;obtain ⟨f,h1,h2⟩:=Option.map_eq_some_iff.1 hi;obtain ⟨v,hv⟩:=hf i f h1;rw [hv] at h2;exact ⟨f,h1,by rw [hv];simpa using h2⟩
section
variable {w : World} {a : Option Addr} {len cap m : Nat} {rs : List (List Fv)}
theorem flat_all (hm : ∀ (j : Nat) r,rs[j]? = some r → r.length = m) : ∀ (j : Nat) vs,(rs.map flatV)[j]? = some vs → vs.length = m:=by
 intro j vs hj;rw [List.getElem?_map] at hj;obtain ⟨r,h1,rfl⟩:=Option.map_eq_some_iff.1 hj;rw [flatV,List.length_map];exact hm j r h1
theorem flat_news {b o : Nat} (h : RRow w (some ⟨b,o,none⟩) len cap m rs) (hm : ∀ (j : Nat) r,rs[j]? = some r → r.length = m ∧ FlatR r) : ∀ (k : Nat) u,(rs.map flatV).flatten[k]? = some u → w.cell? ((⟨b,o,none⟩ : Addr).add k) = some u:=by
 intro k u hk;obtain ⟨j,i,vs,h1,h2,rfl⟩:=flat_inv (flat_all fun j r hj => (hm j r hj).1) hk;rw [List.getElem?_map] at h1;obtain ⟨r,h3,rfl⟩:=Option.map_eq_some_iff.1 h1;obtain ⟨f,h4,h5⟩:=flatV_inv (hm j r h3).2 h2
 rcases h.2.2.2 with rfl | ⟨b',o',e,_,hc⟩
 ·simp at h3
 ·cases e
  obtain ⟨v,h6,h7⟩:=hc j r h3 i f h4;rw [Addr.add_lit,← Nat.add_assoc,h6,(h7.val h5).1]
theorem flat_recs (h : RRow w a len cap m rs) (hm : ∀ (j : Nat) r,rs[j]? = some r → r.length = m ∧ FlatR r) (w' : World) (S : Nat → Prop) : VRecs w' S m rs (rs.map flatV) (fun _ _ => 0):=by
 refine ⟨by simp,flat_all fun j r hj => (hm j r hj).1,fun j r hj => (hm j r hj).1,fun j r vs hj hv i f hi => ?_,fun j r i zs j' r' i' zs' hj hi => ?_⟩
 ·rw [List.getElem?_map,hj] at hv
  cases hv
  obtain ⟨u,h1,h2⟩:=flatV_at (hm j r hj).2 hi
  rcases h.2.2.2 with rfl | ⟨b',o',e,_,hc⟩
  ·simp at hj
  ·obtain ⟨v,h6,h7⟩:=hc j r hj i f hi;obtain ⟨rfl,h8⟩:=h7.val h1;exact ⟨v,h2,h8.any h1⟩
 ·obtain ⟨v,hv⟩:=(hm j r hj).2 i _ hi
  cases hv
end
theorem wp_copy {o : Oper} {a : Act} {w : World} {K : Act → World → Prop} {Q : Exit → Act → World → Prop} (s x : Operand) (t T : TypeId) (ho : o.op = .call { callee:=.builtin .append,args:=#[s,x],argTypes:=#[t,t] }) (i : TypeInfo) (z : Value) (m bytes : Nat) (ht : Tryz.prog.underlying t = some (.slice T)) (hi : Tryz.prog.info? T = some i) (hz : i.zero = some z)
  (hsize : i.size = m) (hby : i.bytes = bytes) (hzs : z.cells.size = m) (hsz : 0 < m) (hT : ¬ T = 9) (base : Nat) (v0 : Value) (hs : a.eval s = v0) (hown : w.ownsRow base T m v0 0 []) (hbw : base ≤ w.heap.size) {ad : Addr} {len cap : Nat} {rs : List (List Fv)} (hx : a.eval x = .slice (some ad) len cap) (hr : RRow w (some ad) len cap m rs) (hm : ∀ (j : Nat) r,rs[j]? = some r → r.length = m ∧ FlatR r) (hl : len ≤ 8) (hb8 : bytes ≤ 1000)
  (h : ∀ a' c' w',ROwn w' a' len c' m T rs (fun k => base ≤ k ∧ k < w'.heap.size) → w.grownBy w' v0.ownBlock → K (a.put o.dst (.slice a' len c')) w') : o.wp Tryz.prog a w K Q:=by
 have hlen : ((rs.map flatV).flatten).length = len * m:=by rw [flat_len (flat_all fun j r hj => (hm j r hj).1),List.length_map,hr.1]
 have hne : rs = [] ∨ ∃ b o,ad = (⟨b,o,none⟩ : Addr):=by
  rcases hr.2.2.2 with h1 | ⟨b,o,e,_⟩
  ·exact .inl h1
  ·cases e;exact .inr ⟨b,o,rfl⟩
 have hnews : ∀ (j : Nat) u,((rs.map flatV).flatten)[j]? = some u → w.cell? (ad.add j) = some u:=by
  rcases hne with rfl | ⟨b,o,rfl⟩
  ·intro j u hu;simp at hu
  ·exact flat_news hr hm
 refine wp_append_own w s x t ho base T i z m bytes ht hi hz hsize hby hzs hsz v0 0 [] hs hown ad len cap (rs.map flatV).flatten hx hlen hnews (flat_recs hr hm w (fun _ => True)).one (by unfold maxLen;omega) (by have : (0 + len) * bytes ≤ 8 * 1000:=Nat.mul_le_mul (by omega) hb8;omega) hbw ?_;intro v' w' ho' hg' _;rw [Nat.zero_add,List.nil_append] at ho';obtain ⟨a',c',rfl,hR⟩:=(flat_recs hr hm w' (fun k => base ≤ k ∧ k < w'.heap.size)).own ho' hr.1.symm hT (fun g hg => ho'.lt g hg);rw [hr.1] at hR ⊢;exact h a' c' w' hR hg'
theorem kd_flat (x : Kd) : (kdF x).length = 4 ∧ FlatR (kdF x):=⟨rfl,fun i f h => by
 rcases i with _ | _ | _ | _ | i <;> first | (cases h;exact ⟨_,rfl⟩) | (simp [kdF] at h)⟩
theorem xd_flat (x : Xd) : (xdF x).length = 5 ∧ FlatR (xdF x):=⟨rfl,fun i f h => by
 rcases i with _ | _ | _ | _ | _ | i <;> first | (cases h;exact ⟨_,rfl⟩) | (simp [xdF] at h)⟩
theorem map_flat {α : Type} {F : α → List Fv} {m : Nat} (hF : ∀ x,(F x).length = m ∧ FlatR (F x)) (xs : List α) : ∀ (j : Nat) r,(xs.map F)[j]? = some r → r.length = m ∧ FlatR r:=by
 intro j r hj;rw [List.getElem?_map] at hj;obtain ⟨x,_,rfl⟩:=Option.map_eq_some_iff.1 hj;exact hF x
def OwnF (B : Nat) (len m : Nat) (T : TypeId) (rs : List (List Fv)) : Gi.Fact:=fun v w l h => ∃ a c,v = .slice a len c ∧ ROwn w a len c m T rs (fun k => l ≤ k ∧ k < h) ∧ B ≤ l
theorem OwnF.mono (ex : Gi.Ex) (s : Option Tmp) (B len m : Nat) (T : TypeId) (rs : List (List Fv)) : Gi.Fact.Mono (fun _ => Gi.Bel) ex s (OwnF B len m T rs):=by
 rintro s' _ _ _ v w w' l h ⟨a,c,h1,h2,h3⟩ hb;exact ⟨a,c,h1,h2.below hb,h3⟩
def ClF (B : Nat) (c : Cl) : Gi.Fact:=fun v w _ _ => ∃ d : Ad,v = .agg #[.slice d.a1 d.l1 d.c1,.slice d.a2 d.l2 d.c2,.slice d.a3 d.l3 d.c3,.slice d.a4 d.l4 d.c4,.slice d.a5 d.l5 d.c5,.int .i64 c.now] ∧ ClOwn w d c.raw (fun k => B ≤ k)
theorem ClF.mono (ex : Gi.Ex) (s : Option Tmp) (B : Nat) (c : Cl) : Gi.Fact.Mono (fun _ => Gi.Bel) ex s (ClF B c):=by
 rintro s' _ _ _ v w w' l h ⟨d,h1,h2⟩ hb;exact ⟨d,h1,h2.below hb⟩

theorem iownC_any (d : Ad) (c : Cl) (w : World) (hr : ClRow w d c.raw) (hs : Sm c) :
  Calls Tryz.prog 102 #[.agg #[.slice d.a1 d.l1 d.c1,.slice d.a2 d.l2 d.c2,.slice d.a3 d.l3 d.c3,.slice d.a4 d.l4 d.c4,.slice d.a5 d.l5 d.c5,.int .i64 c.now]] w fun e w' => ∃ d',e = .returned (.agg #[.slice d'.a1 d'.l1 d'.c1,.slice d'.a2 d'.l2 d'.c2,.slice d'.a3 d'.l3 d'.c3,.slice d'.a4 d'.l4 d'.c4,.slice d'.a5 d'.l5 d'.c5,.int .i64 c.now]) ∧ ClOwn w' d' c.raw (fun k => w.heap.size ≤ k) ∧ Below w.heap.size w w':=by
 have HR:=hidK hr;have HS:=hidK hs
 have hl1 : c.ns.length = d.l1:=by simpa using (show (c.ns.map ndF).length = d.l1 from hr.n.1)
 have hl2 : c.ks.length = d.l2:=by simpa using (show (c.ks.map kdF).length = d.l2 from hr.k.1)
 have hl3 : c.vs.length = d.l3:=by simpa using (show (c.vs.map vdF).length = d.l3 from hr.v.1)
 have hl4 : c.xs.length = d.l4:=by simpa using (show (c.xs.map xdF).length = d.l4 from hr.x.1)
 have hl5 : c.ps.length = d.l5:=by simpa using (show (c.ps.map pdF).length = d.l5 from hr.p.1)
 clear hr hs;obtain ⟨i2,hi2⟩:=Option.map_eq_some_iff.1 infokd;obtain ⟨i4,hi4⟩:=Option.map_eq_some_iff.1 infoxd;have HI2:=hidK hi2;have HI4:=hidK hi4;clear hi2 hi4;obtain ⟨W,hW0⟩ : ∃ W,W = (w.alloc (.cells #[.slice d.a1 d.l1 d.c1,.slice d.a2 d.l2 d.c2,.slice d.a3 d.l3 d.c3,.slice d.a4 d.l4 d.c4,.slice d.a5 d.l5 d.c5,.int .i64 c.now] 36)).alloc (.cells #[.slice none 0 0,.slice none 0 0,.slice none 0 0,.slice none 0 0,.slice none 0 0,.int .i64 0] 36):=⟨_,rfl⟩
 have HB : Hid (Below w.heap.size w W):=by rw [hW0];exact below2 _ _ _
 have Bk : Hid (W.heap[w.heap.size]? = some (.cells #[.slice d.a1 d.l1 d.c1,.slice d.a2 d.l2 d.c2,.slice d.a3 d.l3 d.c3,.slice d.a4 d.l4 d.c4,.slice d.a5 d.l5 d.c5,.int .i64 c.now] 36 (0,0))):=by rw [hW0];exact heap2_0 _ _ _
 have Br : Hid (W.heap[w.heap.size + 1]? = some (.cells #[.slice none 0 0,.slice none 0 0,.slice none 0 0,.slice none 0 0,.slice none 0 0,.int .i64 0] 36 (0,0))):=by rw [hW0];exact heap2_1 _ _ _
 have hWs : W.heap.size = w.heap.size + 1 + 1:=by rw [hW0];simp
 go_enter Tryz.func102,Tryz.ntmps102
 go_wp2_with fail;rw [← hW0];clear hW0;rename_i K0 hK0;refine Gi.wp_region_grow_last (ex:=fun _ => none) (Gi.Bel.rel 0) (by kernel_rfl) rfl rfl (by kernel_rfl) (by kernel_rfl) ?_;refine' Gi.Grow.stepC _ rfl ?_ ?_;rotate_left 1
 ·refine Gi.Obl.plain rfl ?_;intro ac wg K lo hi hsz hW hpr hf hap hK;clear hsz hap hpr;have e1:=hf 1 (by decide)
  simp [Gi.slotFact,List.lookup] at e1
  clear hf;go_simp;refine hK _ _ (Below.refl _ _) ?_;with_reducible rfl
 refine' Gi.Grow.stepC _ rfl ?_ ?_;rotate_left 1
 ·refine Gi.Obl.plain rfl ?_;intro ac wg K lo hi hsz hW hpr hf hap hK;clear hsz hap hpr;have e3:=hf 3 (by decide)
  simp [Gi.slotFact,List.lookup] at e3
  clear hf;obtain ⟨k0,k1,k2,k3,k4,k5⟩:=cs6 ((Below.block hW _ (lt_of_some Bk.out)).trans Bk.out);go_simp;refine hK _ _ (Below.refl _ _) ?_;with_reducible rfl
 refine Gi.Grow.step (OwnF W.heap.size d.l1 7 99 (c.ns.map ndF)) rfl (OwnF.mono _ _ _ _ _ _ _) ?_ ?_
 ·refine Gi.Obl.plain rfl ?_;intro ac wg K lo hi hsz hW hpr hf hap hK;clear hsz hpr hap;have e4:=hf 4 (by decide)
  simp [Gi.slotFact,List.lookup] at e4
  clear hf;go_simp;refine (iownednd_any d.a1 d.l1 d.c1 c.ns _ (HR.out.n.below (HB.out.trans (Below.mono hW HB.out.size))) (by have:=HS.out.n;omega) HS.out.ns).mono ?_;rintro e w6 ⟨a',c',rfl,ho,hb6⟩;exact hK _ _ hb6 ⟨a',c',rfl,ho.into (fun k hk s => ⟨s,hk⟩),Below.size hW⟩
 refine' Gi.Grow.stepC _ rfl ?_ ?_;rotate_left 1
 ·refine Gi.Obl.plain rfl ?_;intro ac wg K lo hi hsz hW hpr hf hap hK;clear hsz hap hpr;have e1:=hf 1 (by decide)
  simp [Gi.slotFact,List.lookup] at e1
  clear hf;go_simp;refine hK _ _ (Below.refl _ _) ?_;with_reducible rfl
 refine' Gi.Grow.stepC _ rfl ?_ ?_;rotate_left 1
 ·refine Gi.Obl.plain rfl ?_;intro ac wg K lo hi hsz hW hpr hf hap hK;clear hsz hap hpr;have e6:=hf 6 (by decide)
  simp [Gi.slotFact,List.lookup] at e6
  clear hf;obtain ⟨k0,k1,k2,k3,k4,k5⟩:=cs6 ((Below.block hW _ (lt_of_some Bk.out)).trans Bk.out);go_simp;refine hK _ _ (Below.refl _ _) ?_;with_reducible rfl
 refine Gi.Grow.step (OwnF W.heap.size d.l2 4 57 (c.ks.map kdF)) rfl (OwnF.mono _ _ _ _ _ _ _) ?_ ?_
 ·refine Gi.Obl.plain rfl ?_;intro ac wg K lo hi hsz hW hpr hf hap hK;clear hsz hpr hap;have e7:=hf 7 (by decide)
  simp [Gi.slotFact,List.lookup] at e7
  clear hf
  cases hq : d.a2 with
  | none =>
   have h0 : c.ks = []:=by
    rcases HR.out.k.2.2.2 with h | ⟨b,o,e,_⟩
    ·have h9 : c.ks.map kdF = []:=h
     simpa using h9
    ·rw [hq] at e;cases e
   have hl0 : d.l2 = 0:=by rw [← hl2,h0];rfl
   rw [hq,hl0] at e7;go_simp;refine hK _ _ (Below.refl _ _) ⟨none,0,by rw [hl0],?_,Below.size hW⟩;rw [hl0,h0];exact ROwn.nil _ _ _ _ _ (by omega)
  | some ad =>
   rw [hq] at e7;have hin:=HR.out.k.below (HB.out.trans (Below.mono hW HB.out.size));have hin2 : RRow wg d.a2 d.l2 d.c2 4 (c.ks.map kdF):=hin;rw [hq] at hin2
   have hz : i2.zero = some (.agg #[.string ⟨#[]⟩,.bool false,.bool false,.string ⟨#[]⟩]) ∧ i2.size = 4 ∧ i2.bytes = 40:=by have:=HI2.out.2;simp only [Prod.mk.injEq] at this;exact this
   refine wp_copy _ (.tmp 7) 31 57 rfl i2 (.agg #[.string ⟨#[]⟩,.bool false,.bool false,.string ⟨#[]⟩]) 4 40 Tryz.underlying31 HI2.out.1 hz.1 hz.2.1 hz.2.2 rfl (by decide) (by decide) wg.heap.size (.slice none 0 0) rfl (World.ownsRow_nil _ _ _ _) (Nat.le_refl _) (by simpa [Act.eval] using e7) hin2 (map_flat kd_flat _) (by have:=HS.out.k;omega) (by decide) ?_;intro a' c' w' hR hg;exact hK _ _ ((Below.refl _ _).grown hg (Nat.le_refl _) (fun k hk => by cases hk)) ⟨a',c',rfl,hR,Below.size hW⟩
 refine' Gi.Grow.stepC _ rfl ?_ ?_;rotate_left 1
 ·refine Gi.Obl.plain rfl ?_;intro ac wg K lo hi hsz hW hpr hf hap hK;clear hsz hap hpr;have e1:=hf 1 (by decide)
  simp [Gi.slotFact,List.lookup] at e1
  clear hf;go_simp;refine hK _ _ (Below.refl _ _) ?_;with_reducible rfl
 refine' Gi.Grow.stepC _ rfl ?_ ?_;rotate_left 1
 ·refine Gi.Obl.plain rfl ?_;intro ac wg K lo hi hsz hW hpr hf hap hK;clear hsz hap hpr;have e9:=hf 9 (by decide)
  simp [Gi.slotFact,List.lookup] at e9
  clear hf;obtain ⟨k0,k1,k2,k3,k4,k5⟩:=cs6 ((Below.block hW _ (lt_of_some Bk.out)).trans Bk.out);go_simp;refine hK _ _ (Below.refl _ _) ?_;with_reducible rfl
 refine Gi.Grow.step (OwnF W.heap.size d.l3 8 100 (c.vs.map vdF)) rfl (OwnF.mono _ _ _ _ _ _ _) ?_ ?_
 ·refine Gi.Obl.plain rfl ?_;intro ac wg K lo hi hsz hW hpr hf hap hK;clear hsz hpr hap;have e10:=hf 10 (by decide)
  simp [Gi.slotFact,List.lookup] at e10
  clear hf;go_simp;refine (iownedvd_any d.a3 d.l3 d.c3 c.vs _ (HR.out.v.below (HB.out.trans (Below.mono hW HB.out.size))) (by have:=HS.out.v;omega) HS.out.vs).mono ?_;rintro e w6 ⟨a',c',rfl,ho,hb6⟩;exact hK _ _ hb6 ⟨a',c',rfl,ho.into (fun k hk s => ⟨s,hk⟩),Below.size hW⟩
 refine' Gi.Grow.stepC _ rfl ?_ ?_;rotate_left 1
 ·refine Gi.Obl.plain rfl ?_;intro ac wg K lo hi hsz hW hpr hf hap hK;clear hsz hap hpr;have e1:=hf 1 (by decide)
  simp [Gi.slotFact,List.lookup] at e1
  clear hf;go_simp;refine hK _ _ (Below.refl _ _) ?_;with_reducible rfl
 refine' Gi.Grow.stepC _ rfl ?_ ?_;rotate_left 1
 ·refine Gi.Obl.plain rfl ?_;intro ac wg K lo hi hsz hW hpr hf hap hK;clear hsz hap hpr;have e12:=hf 12 (by decide)
  simp [Gi.slotFact,List.lookup] at e12
  clear hf;obtain ⟨k0,k1,k2,k3,k4,k5⟩:=cs6 ((Below.block hW _ (lt_of_some Bk.out)).trans Bk.out);go_simp;refine hK _ _ (Below.refl _ _) ?_;with_reducible rfl
 refine Gi.Grow.step (OwnF W.heap.size d.l4 5 55 (c.xs.map xdF)) rfl (OwnF.mono _ _ _ _ _ _ _) ?_ ?_
 ·refine Gi.Obl.plain rfl ?_;intro ac wg K lo hi hsz hW hpr hf hap hK;clear hsz hpr hap;have e13:=hf 13 (by decide)
  simp [Gi.slotFact,List.lookup] at e13
  clear hf
  cases hq : d.a4 with
  | none =>
   have h0 : c.xs = []:=by
    rcases HR.out.x.2.2.2 with h | ⟨b,o,e,_⟩
    ·have h9 : c.xs.map xdF = []:=h
     simpa using h9
    ·rw [hq] at e;cases e
   have hl0 : d.l4 = 0:=by rw [← hl4,h0];rfl
   rw [hq,hl0] at e13;go_simp;refine hK _ _ (Below.refl _ _) ⟨none,0,by rw [hl0],?_,Below.size hW⟩;rw [hl0,h0];exact ROwn.nil _ _ _ _ _ (by omega)
  | some ad =>
   rw [hq] at e13;have hin:=HR.out.x.below (HB.out.trans (Below.mono hW HB.out.size));have hin2 : RRow wg d.a4 d.l4 d.c4 5 (c.xs.map xdF):=hin;rw [hq] at hin2
   have hz : i4.zero = some (.agg #[.string ⟨#[]⟩,.int .i64 0,.string ⟨#[]⟩,.bool false,.string ⟨#[]⟩]) ∧ i4.size = 5 ∧ i4.bytes = 64:=by have:=HI4.out.2;simp only [Prod.mk.injEq] at this;exact this
   refine wp_copy _ (.tmp 13) 33 55 rfl i4 (.agg #[.string ⟨#[]⟩,.int .i64 0,.string ⟨#[]⟩,.bool false,.string ⟨#[]⟩]) 5 64 Tryz.underlying33 HI4.out.1 hz.1 hz.2.1 hz.2.2 rfl (by decide) (by decide) wg.heap.size (.slice none 0 0) rfl (World.ownsRow_nil _ _ _ _) (Nat.le_refl _) (by simpa [Act.eval] using e13) hin2 (map_flat xd_flat _) (by have:=HS.out.x;omega) (by decide) ?_;intro a' c' w' hR hg;exact hK _ _ ((Below.refl _ _).grown hg (Nat.le_refl _) (fun k hk => by cases hk)) ⟨a',c',rfl,hR,Below.size hW⟩
 refine' Gi.Grow.stepC _ rfl ?_ ?_;rotate_left 1
 ·refine Gi.Obl.plain rfl ?_;intro ac wg K lo hi hsz hW hpr hf hap hK;clear hsz hap hpr;have e1:=hf 1 (by decide)
  simp [Gi.slotFact,List.lookup] at e1
  clear hf;go_simp;refine hK _ _ (Below.refl _ _) ?_;with_reducible rfl
 refine' Gi.Grow.stepC _ rfl ?_ ?_;rotate_left 1
 ·refine Gi.Obl.plain rfl ?_;intro ac wg K lo hi hsz hW hpr hf hap hK;clear hsz hap hpr;have e15:=hf 15 (by decide)
  simp [Gi.slotFact,List.lookup] at e15
  clear hf;obtain ⟨k0,k1,k2,k3,k4,k5⟩:=cs6 ((Below.block hW _ (lt_of_some Bk.out)).trans Bk.out);go_simp;refine hK _ _ (Below.refl _ _) ?_;with_reducible rfl
 refine Gi.Grow.step (OwnF W.heap.size d.l5 6 102 (c.ps.map pdF)) rfl (OwnF.mono _ _ _ _ _ _ _) ?_ ?_
 ·refine Gi.Obl.plain rfl ?_;intro ac wg K lo hi hsz hW hpr hf hap hK;clear hsz hpr hap;have e16:=hf 16 (by decide)
  simp [Gi.slotFact,List.lookup] at e16
  clear hf;go_simp;refine (iownedpd_any d.a5 d.l5 d.c5 c.ps _ (HR.out.p.below (HB.out.trans (Below.mono hW HB.out.size))) (by have:=HS.out.p;omega) HS.out.ps).mono ?_;rintro e w6 ⟨a',c',rfl,ho,hb6⟩;exact hK _ _ hb6 ⟨a',c',rfl,ho.into (fun k hk s => ⟨s,hk⟩),Below.size hW⟩
 refine' Gi.Grow.stepC _ rfl ?_ ?_;rotate_left 1
 ·refine Gi.Obl.plain rfl ?_;intro ac wg K lo hi hsz hW hpr hf hap hK;clear hsz hap hpr;have e1:=hf 1 (by decide)
  simp [Gi.slotFact,List.lookup] at e1
  clear hf;go_simp;refine hK _ _ (Below.refl _ _) ?_;with_reducible rfl
 refine' Gi.Grow.stepC _ rfl ?_ ?_;rotate_left 1
 ·refine Gi.Obl.plain rfl ?_;intro ac wg K lo hi hsz hW hpr hf hap hK;clear hsz hap hpr;have e18:=hf 18 (by decide)
  simp [Gi.slotFact,List.lookup] at e18
  clear hf;obtain ⟨k0,k1,k2,k3,k4,k5⟩:=cs6 ((Below.block hW _ (lt_of_some Bk.out)).trans Bk.out);go_simp;refine hK _ _ (Below.refl _ _) ?_;with_reducible rfl
 refine Gi.Grow.step (ClF W.heap.size c) rfl (ClF.mono _ _ _ _) ?_ ?_
 ·refine Gi.Obl.plain rfl ?_;intro ac wg K lo hi hsz hW hpr hf hap hK;clear hsz hpr;have e5:=hf 5 (by decide)
  simp [Gi.slotFact,List.lookup] at e5
  have e8:=hf 8 (by decide)
  simp [Gi.slotFact,List.lookup] at e8
  have e11:=hf 11 (by decide)
  simp [Gi.slotFact,List.lookup] at e11
  have e14:=hf 14 (by decide)
  simp [Gi.slotFact,List.lookup] at e14
  have e17:=hf 17 (by decide)
  simp [Gi.slotFact,List.lookup] at e17
  have e19:=hf 19 (by decide)
  simp [Gi.slotFact,List.lookup] at e19
  clear hf;obtain ⟨a1,c1,e5,ho1,hB1⟩:=e5;obtain ⟨a2,c2,e8,ho2,hB2⟩:=e8;obtain ⟨a3,c3,e11,ho3,hB3⟩:=e11;obtain ⟨a4,c4,e14,ho4,hB4⟩:=e14;obtain ⟨a5,c5,e17,ho5,hB5⟩:=e17
  have hap2 : ∀ t ∈ [5,8,11,14,17],∀ t' ∈ [5,8,11,14,17],¬ t = t' → hi t ≤ lo t' ∨ hi t' ≤ lo t:=by
   intro t ht t' ht' hne;refine hap t ?_ t' ?_ ?_ ?_ hne
   ·simp only [List.mem_cons,List.not_mem_nil,or_false] at ht;rcases ht with rfl | rfl | rfl | rfl | rfl <;> decide
   ·simp only [List.mem_cons,List.not_mem_nil,or_false] at ht';rcases ht' with rfl | rfl | rfl | rfl | rfl <;> decide
   ·simp only [List.mem_cons,List.not_mem_nil,or_false] at ht;rcases ht with rfl | rfl | rfl | rfl | rfl <;> rfl
   ·simp only [List.mem_cons,List.not_mem_nil,or_false] at ht';rcases ht' with rfl | rfl | rfl | rfl | rfl <;> rfl
  clear hap;have q01:=hap2 5 (by decide) 8 (by decide) (by decide);have q02:=hap2 5 (by decide) 11 (by decide) (by decide);have q03:=hap2 5 (by decide) 14 (by decide) (by decide);have q04:=hap2 5 (by decide) 17 (by decide) (by decide);have q12:=hap2 8 (by decide) 11 (by decide) (by decide);have q13:=hap2 8 (by decide) 14 (by decide) (by decide);have q14:=hap2 8 (by decide) 17 (by decide) (by decide);have q23:=hap2 11 (by decide) 14 (by decide) (by decide);have q24:=hap2 11 (by decide) 17 (by decide) (by decide);have q34:=hap2 14 (by decide) 17 (by decide) (by decide);clear hap2
  have hC : ClOwn wg ⟨a1,d.l1,c1,a2,d.l2,c2,a3,d.l3,c3,a4,d.l4,c4,a5,d.l5,c5⟩ c.raw (fun k => W.heap.size ≤ k):=by
   refine ⟨fun k => if lo 5 ≤ k ∧ k < hi 5 then 1 else if lo 8 ≤ k ∧ k < hi 8 then 2 else if lo 11 ≤ k ∧ k < hi 11 then 3 else if lo 14 ≤ k ∧ k < hi 14 then 4 else 5,?_,?_,?_,?_,?_⟩
   ·exact ho1.into (fun k _ s => ⟨by have s1 : lo 5 ≤ k:=s.1;show W.heap.size ≤ k;omega,by have s1 : lo 5 ≤ k:=s.1;have s2 : k < hi 5:=s.2;show (if lo 5 ≤ k ∧ k < hi 5 then 1 else if lo 8 ≤ k ∧ k < hi 8 then 2 else if lo 11 ≤ k ∧ k < hi 11 then 3 else if lo 14 ≤ k ∧ k < hi 14 then 4 else 5) = 1;rw [if_pos ⟨s1,s2⟩]⟩)
   ·exact ho2.into (fun k _ s => ⟨by have s1 : lo 8 ≤ k:=s.1;show W.heap.size ≤ k;omega,by have s1 : lo 8 ≤ k:=s.1;have s2 : k < hi 8:=s.2;show (if lo 5 ≤ k ∧ k < hi 5 then 1 else if lo 8 ≤ k ∧ k < hi 8 then 2 else if lo 11 ≤ k ∧ k < hi 11 then 3 else if lo 14 ≤ k ∧ k < hi 14 then 4 else 5) = 2;rw [if_neg (by omega)];rw [if_pos ⟨s1,s2⟩]⟩)
   ·exact ho3.into (fun k _ s => ⟨by have s1 : lo 11 ≤ k:=s.1;show W.heap.size ≤ k;omega,by have s1 : lo 11 ≤ k:=s.1;have s2 : k < hi 11:=s.2;show (if lo 5 ≤ k ∧ k < hi 5 then 1 else if lo 8 ≤ k ∧ k < hi 8 then 2 else if lo 11 ≤ k ∧ k < hi 11 then 3 else if lo 14 ≤ k ∧ k < hi 14 then 4 else 5) = 3;rw [if_neg (by omega)];rw [if_neg (by omega)];rw [if_pos ⟨s1,s2⟩]⟩)
   ·exact ho4.into (fun k _ s => ⟨by have s1 : lo 14 ≤ k:=s.1;show W.heap.size ≤ k;omega,by have s1 : lo 14 ≤ k:=s.1;have s2 : k < hi 14:=s.2;show (if lo 5 ≤ k ∧ k < hi 5 then 1 else if lo 8 ≤ k ∧ k < hi 8 then 2 else if lo 11 ≤ k ∧ k < hi 11 then 3 else if lo 14 ≤ k ∧ k < hi 14 then 4 else 5) = 4;rw [if_neg (by omega)];rw [if_neg (by omega)];rw [if_neg (by omega)];rw [if_pos ⟨s1,s2⟩]⟩)
   ·exact ho5.into (fun k _ s => ⟨by have s1 : lo 17 ≤ k:=s.1;show W.heap.size ≤ k;omega,by have s1 : lo 17 ≤ k:=s.1;have s2 : k < hi 17:=s.2;show (if lo 5 ≤ k ∧ k < hi 5 then 1 else if lo 8 ≤ k ∧ k < hi 8 then 2 else if lo 11 ≤ k ∧ k < hi 11 then 3 else if lo 14 ≤ k ∧ k < hi 14 then 4 else 5) = 5;rw [if_neg (by omega)];rw [if_neg (by omega)];rw [if_neg (by omega)];rw [if_neg (by omega)]⟩)
  have HC:=hidK hC;clear hC ho1 ho2 ho3 ho4 ho5 q01 q02 q03 q04 q12 q13 q14 q23 q24 q34 hB1 hB2 hB3 hB4 hB5;go_simp;exact hK _ _ (Below.refl _ _) ⟨_,rfl,HC.out⟩
 refine Gi.Grow.done ?_;intro q wz lo hi hW hf hap;clear hap;simp only [List.forall_mem_cons] at hf;obtain ⟨hf20,-⟩:=hf;obtain ⟨d',h20,ho⟩:=hf20 (by first | trivial | rfl);have HO:=hidK ho;have HBz:=hidK (HB.out.trans (Below.mono hW HB.out.size));have gr:=(Below.block hW _ (lt_of_some Br.out)).trans Br.out;have hws:=Below.size hW;obtain ⟨r0,r1,r2,r3,r4,r5⟩:=cs6 gr;have f0:=froK gr 0;have f1:=froK gr 1;have f2:=froK gr 2;have f3:=froK gr 3;have f4:=froK gr 4;have f5:=froK gr 5;clear gr ho hW;intro K hK;rw [if_pos (by rfl)];simp only [Gi.putsAll,List.foldr,Act.put,List.setIfInBounds_toArray,List.set_cons_zero,List.set_cons_succ,h20];simp only [List.getLast];go_simp;refine hK _ _ ?_;refine hK0 _ _ ?_;clear hK hK0 K K0;go_wp2_with fail;refine bodyPost_ret (v:=.agg #[.slice d'.a1 d'.l1 d'.c1,.slice d'.a2 d'.l2 d'.c2,.slice d'.a3 d'.l3 d'.c3,.slice d'.a4 d'.l4 d'.c4,.slice d'.a5 d'.l5 d'.c5,.int .i64 c.now]) (by simp [results,Tryz.results102,go_sem, *]) rfl ⟨d',rfl,?_,sb1 (sb1 (sb1 (sb1 (sb1 (sb1 (HBz.out))))))⟩;obtain ⟨P,hP⟩:=HO.out;exact ⟨P,hP.keep (fun k _ s => by have s1 : W.heap.size ≤ k:=s;rw [Below.heap_setCell _ _ _ _ (show k ≠ w.heap.size + 1 by omega),Below.heap_setCell _ _ _ _ (show k ≠ w.heap.size + 1 by omega),Below.heap_setCell _ _ _ _ (show k ≠ w.heap.size + 1 by omega),Below.heap_setCell _ _ _ _ (show k ≠ w.heap.size + 1 by omega),Below.heap_setCell _ _ _ _ (show k ≠ w.heap.size + 1 by omega),Below.heap_setCell _ _ _ _ (show k ≠ w.heap.size + 1 by omega)]) (fun k _ s => by have s1 : W.heap.size ≤ k:=s;show w.heap.size ≤ k;omega)⟩

structure Co where
 c : Cl
 n : ByteArray
 p : Int
def cl0 : Cl:=⟨[],[],[],[],[],0⟩
def co0 (p : Int) : Co:=⟨cl0,⟨#[]⟩,p⟩
def ad0 : Ad:=⟨none,0,0,none,0,0,none,0,0,none,0,0,none,0,0⟩
theorem own0 (w : World) (S : Nat → Prop) : ClOwn w ad0 cl0.raw S:=⟨fun _ => 1,ROwn.nil _ _ _ _ _ (by decide),ROwn.nil _ _ _ _ _ (by decide),ROwn.nil _ _ _ _ _ (by decide),ROwn.nil _ _ _ _ _ (by decide),ROwn.nil _ _ _ _ _ (by decide)⟩
def OutI (Is : Co → Prop) (w : World) (e : Ending) (w' : World) : Prop:=∃ g o,e = .returned (.agg #[.slice g.a1 g.l1 g.c1,.slice g.a2 g.l2 g.c2,.slice g.a3 g.l3 g.c3,.slice g.a4 g.l4 g.c4,.slice g.a5 g.l5 g.c5,.int .i64 o.c.now,.string o.n,.int .i64 o.p]) ∧ Is o ∧ ClOwn w' g o.c.raw (fun k => w.heap.size ≤ k) ∧ Below w.heap.size w w'
def OutS (Is : Co → Prop) (w : World) (e : Ending) (w' : World) : Prop:=∃ g o,e = .returned (.agg #[.slice g.a1 g.l1 g.c1,.slice g.a2 g.l2 g.c2,.slice g.a3 g.l3 g.c3,.slice g.a4 g.l4 g.c4,.slice g.a5 g.l5 g.c5,.int .i64 o.c.now,.string o.n,.int .i64 o.p]) ∧ Is o ∧ ClRow w' g o.c.raw ∧ Below w.heap.size w w'

theorem eqCout_any (g g' : Ad) (o : Co) (w : World) (hr : ClRow w g o.c.raw) (hr' : ClRow w g' o.c.raw) :
  Calls Tryz.prog 8 #[.agg #[.slice g.a1 g.l1 g.c1,.slice g.a2 g.l2 g.c2,.slice g.a3 g.l3 g.c3,.slice g.a4 g.l4 g.c4,.slice g.a5 g.l5 g.c5,.int .i64 o.c.now,.string o.n,.int .i64 o.p],.agg #[.slice g'.a1 g'.l1 g'.c1,.slice g'.a2 g'.l2 g'.c2,.slice g'.a3 g'.l3 g'.c3,.slice g'.a4 g'.l4 g'.c4,.slice g'.a5 g'.l5 g'.c5,.int .i64 o.c.now,.string o.n,.int .i64 o.p]] w fun e w' => e = .returned (.bool true) ∧ Below w.heap.size w w':=by
 have HR:=hidK hr;have HR':=hidK hr';have HB:=hidK (Below.refl w.heap.size w);clear hr hr'
 go_enter Tryz.func8,Tryz.ntmps8
 go_wp2_with fail;refine (eqCluster_any g g' o.c _ (HR.out.below (HB.out.trans ((below2 _ _ _).mono HB.out.size))) (HR'.out.below (HB.out.trans ((below2 _ _ _).mono HB.out.size)))).mono ?_;rintro e w1 ⟨rfl,hb⟩;obtain ⟨HA0,HA1,hbx⟩:=slots2 hb;have Ba:=hidK HA0;have Bb:=hidK HA1;replace HB:=upB HB hbx;clear hb hbx HA0 HA1;obtain ⟨a0,a1,a2,a3,a4,a5,a6,a7⟩:=cs8 Ba.out;have lta_1:=lt_of_some Ba.out;obtain ⟨b0,b1,b2,b3,b4,b5,b6,b7⟩:=cs8 Bb.out;have ltb_1:=lt_of_some Bb.out
 go_wp2
 go_ret;exact ⟨rfl,HB.out⟩

theorem markCout_any (g : Ad) (o : Co) (N : Int) (S : Nat → Prop) (w : World) (ho : ClOwn w g o.c.raw S) (hS : ∀ k,S k → k < w.heap.size) (hN : 0 < N) (hb : mkCn N o.c.raw ≤ 1152921504606846976) :
  Calls Tryz.prog 11 #[.agg #[.slice g.a1 g.l1 g.c1,.slice g.a2 g.l2 g.c2,.slice g.a3 g.l3 g.c3,.slice g.a4 g.l4 g.c4,.slice g.a5 g.l5 g.c5,.int .i64 o.c.now,.string o.n,.int .i64 o.p],.int .i64 N] w fun e w' => e = .returned (.int .i64 (mkCn N o.c.raw)) ∧ ClOwn w' g (mkC N o.c.raw) S ∧ KeptS S w w':=by
 have HO:=hidK (ho.below (below1 w (.cells #[.slice g.a1 g.l1 g.c1,.slice g.a2 g.l2 g.c2,.slice g.a3 g.l3 g.c3,.slice g.a4 g.l4 g.c4,.slice g.a5 g.l5 g.c5,.int .i64 o.c.now,.string o.n,.int .i64 o.p] 38)));have HS:=hidK hS;clear ho hS
 go_enter Tryz.func11,Tryz.ntmps11
 go_wp2_with fail;refine (markCluster_any g o.c N S _ HO.out (fun k s => by have:=HS.out k s;simp;omega) hN hb).mono ?_;rintro e w1 ⟨rfl,ho,hk⟩;have HO1:=hidK ho;have HK:=hidK ((KeptS.of_below (S:=S) (below1 w (.cells #[.slice g.a1 g.l1 g.c1,.slice g.a2 g.l2 g.c2,.slice g.a3 g.l3 g.c3,.slice g.a4 g.l4 g.c4,.slice g.a5 g.l5 g.c5,.int .i64 o.c.now,.string o.n,.int .i64 o.p] 38))).trans hk);clear ho hk
 go_wp2
 go_ret;exact ⟨rfl,HO1.out,HK.out⟩

theorem heldCout_any (g : Ad) (o : Co) (N : Int) (w : World) (hr : ClRow w g (mkC N o.c.raw)) (hN : 0 < N) (hb : mkCn N o.c.raw ≤ 1152921504606846976) :
  Calls Tryz.prog 12 #[.agg #[.slice g.a1 g.l1 g.c1,.slice g.a2 g.l2 g.c2,.slice g.a3 g.l3 g.c3,.slice g.a4 g.l4 g.c4,.slice g.a5 g.l5 g.c5,.int .i64 o.c.now,.string o.n,.int .i64 o.p],.int .i64 N] w fun e w' => e = .returned (.int .i64 (mkCn N o.c.raw)) ∧ Below w.heap.size w w':=by
 have HR:=hidK (hr.below (below1 w (.cells #[.slice g.a1 g.l1 g.c1,.slice g.a2 g.l2 g.c2,.slice g.a3 g.l3 g.c3,.slice g.a4 g.l4 g.c4,.slice g.a5 g.l5 g.c5,.int .i64 o.c.now,.string o.n,.int .i64 o.p] 38)));clear hr;obtain ⟨M,hM⟩ : ∃ M,M = mkCn N o.c.raw:=⟨_,rfl⟩
 have hM0 : ¬ M < 0:=by rw [hM];have:=mkCn_ge N o.c.raw;omega
 have HM:=hidK hM;clear hM
 go_enter Tryz.func12,Tryz.ntmps12
 go_wp2_with fail;refine (heldCluster_any g o.c o.c.now N _ HR.out hN hb).mono ?_;rintro e w1 ⟨rfl,hb1⟩;rw [← HM.out];have HB:=hidK (slots1 hb1).2;clear hb1
 go_wp2
 go_ret;exact ⟨by rw [← HM.out];rfl,HB.out⟩

def wo {α : Type} (nm : α → ByteArray) (t : ByteArray) (xs : List α) : List α:=xs.filter fun x => !((nm x).toList == t.toList)
theorem wo_yes {α : Type} {nm : α → ByteArray} {t : ByteArray} {xs : List α} {k : Nat} {x : α} (h : xs[k]? = some x) (hn : ((nm x).toList == t.toList) = false) : wo nm t (xs.take (k + 1)) = wo nm t (xs.take k) ++ [x]:=by
 unfold wo;rw [List.take_add_one,h,List.filter_append]
 simp [hn]
theorem wo_no {α : Type} {nm : α → ByteArray} {t : ByteArray} {xs : List α} {k : Nat} {x : α} (h : xs[k]? = some x) (hn : ((nm x).toList == t.toList) = true) : wo nm t (xs.take (k + 1)) = wo nm t (xs.take k):=by
 unfold wo;rw [List.take_add_one,h,List.filter_append]
 simp [hn]
theorem wo_le {α : Type} (nm : α → ByteArray) (t : ByteArray) (xs : List α) : (wo nm t xs).length ≤ xs.length:=List.length_filter_le _ _
structure Sel {α β : Type} (xs ys : List α) (vss ws : List β) (k : Nat) (f : Nat → Nat) : Prop where
 len : ws.length = ys.length
 y : ∀ j,j < ys.length → ys[j]? = xs[f j]?
 v : ∀ j,j < ys.length → ws[j]? = vss[f j]?
 lt : ∀ j,j < ys.length → f j < k
 inj : ∀ i j,i < ys.length → j < ys.length → f i = f j → i = j
theorem Sel.nil {α β : Type} (xs : List α) (vss : List β) (k : Nat) (f : Nat → Nat) : Sel xs [] vss [] k f:=⟨rfl,fun j h => by simp at h,fun j h => by simp at h,fun j h => by simp at h,fun i j h => by simp at h⟩
theorem Sel.up {α β : Type} {xs ys : List α} {vss ws : List β} {k : Nat} {f : Nat → Nat} (h : Sel xs ys vss ws k f) : Sel xs ys vss ws (k + 1) f:=⟨h.len,h.y,h.v,fun j hj => Nat.lt_succ_of_lt (h.lt j hj),h.inj⟩
theorem Sel.push {α β : Type} {xs ys : List α} {vss ws : List β} {k : Nat} {f : Nat → Nat} (h : Sel xs ys vss ws k f) {x : α} {u : β} (hx : xs[k]? = some x) (hu : vss[k]? = some u) : Sel xs (ys ++ [x]) vss (ws ++ [u]) (k + 1) (fun j => if j = ys.length then k else f j):=by
 have hl:=h.len;refine ⟨by simp [hl],fun j hj => ?_,fun j hj => ?_,fun j hj => ?_,fun i j hi hj e => ?_⟩
 ·by_cases e : j = ys.length
  ·subst e;simp [hx]
  ·have hj' : j < ys.length:=by simp at hj;omega
   rw [List.getElem?_append_left hj',if_neg e];exact h.y j hj'
 ·by_cases e : j = ys.length
  ·subst e;rw [if_pos rfl,hu,List.getElem?_append_right (by omega),hl,Nat.sub_self]
   rfl
  ·have hj' : j < ys.length:=by simp at hj;omega
   rw [List.getElem?_append_left (by omega),if_neg e];exact h.v j hj'
 ·by_cases e : j = ys.length
  ·simp only [if_pos e];omega
  ·have hj' : j < ys.length:=by simp at hj;omega
   simp only [if_neg e];have:=h.lt j hj'
   omega
 ·by_cases e1 : i = ys.length <;> by_cases e2 : j = ys.length
  ·omega
  ·have hj' : j < ys.length:=by simp at hj;omega
   simp only [if_pos e1,if_neg e2] at e;have:=h.lt j hj'
   omega
  ·have hi' : i < ys.length:=by simp at hi;omega
   simp only [if_pos e2,if_neg e1] at e;have:=h.lt i hi'
   omega
  ·simp only [if_neg e1,if_neg e2] at e;exact h.inj i j (by simp at hi;omega) (by simp at hj;omega) e
theorem Sel.recs {w : World} {S : Nat → Prop} {m k : Nat} {α : Type} {F : α → List Fv} {xs ys : List α} {vss ws : List (List Value)} {H : Nat → Nat → Nat} {f : Nat → Nat} (h : Sel xs ys vss ws k f) (hv : VRecs w S m (xs.map F) vss H) : VRecs w S m (ys.map F) ws (fun j => H (f j)) :=
 hv.sel f (by rw [h.len,List.length_map]) (fun j hj => by rw [List.length_map] at hj;rw [List.getElem?_map,List.getElem?_map,h.y j hj]) (fun j hj => by rw [List.length_map] at hj;exact h.v j hj) (fun i j hi hj e => h.inj i j (by simpa using hi) (by simpa using hj) e)
theorem vals_eq5 {vs : List Value} {a0 a1 a2 a3 a4 : Value} (hl : vs.length = 5) (h0 : vs[0]? = some a0) (h1 : vs[1]? = some a1) (h2 : vs[2]? = some a2) (h3 : vs[3]? = some a3) (h4 : vs[4]? = some a4) : vs = [a0,a1,a2,a3,a4]:=by
 apply List.ext_getElem?
 intro i
 rcases i with _ | _ | _ | _ | _ | i
 ·exact h0
 ·exact h1
 ·exact h2
 ·exact h3
 ·exact h4
 ·rw [List.getElem?_eq_none (by omega),List.getElem?_eq_none (by simp)]
theorem vals_eq8 {vs : List Value} {a0 a1 a2 a3 a4 a5 a6 a7 : Value} (hl : vs.length = 8) (h0 : vs[0]? = some a0) (h1 : vs[1]? = some a1) (h2 : vs[2]? = some a2) (h3 : vs[3]? = some a3) (h4 : vs[4]? = some a4) (h5 : vs[5]? = some a5) (h6 : vs[6]? = some a6) (h7 : vs[7]? = some a7) : vs = [a0,a1,a2,a3,a4,a5,a6,a7]:=by
 apply List.ext_getElem?
 intro i
 rcases i with _ | _ | _ | _ | _ | _ | _ | _ | i
 ·exact h0
 ·exact h1
 ·exact h2
 ·exact h3
 ·exact h4
 ·exact h5
 ·exact h6
 ·exact h7
 ·rw [List.getElem?_eq_none (by omega),List.getElem?_eq_none (by simp)]
theorem recs_at {w : World} {S : Nat → Prop} {m g : Nat} {rs : List (List Fv)} {vss : List (List Value)} {H : Nat → Nat → Nat} (hV : VRecs w S m rs vss H) (hc : ∀ (k : Nat) u,vss.flatten[k]? = some u → w.cell? ⟨g,k,none⟩ = some u) {k : Nat} {vs : List Value} (hk : vss[k]? = some vs) {i : Nat} {u : Value} (hi : i < m) (hu : w.cell? ⟨g,k * m + i,none⟩ = some u) : vs[i]? = some u:=by
 have hl:=hV.all k vs hk;have h1 : vs[i]? = some (vs[i]'(by omega)):=List.getElem?_eq_getElem _;have h2:=hc _ _ (flat_at hV.all hk h1);rw [hu] at h2;rw [h1];exact h2.symm

theorem iwoxd_any (a : Option Addr) (len cap : Nat) (xs : List Xd) (t : ByteArray) (Q : Nat → Prop) (w : World) (ho : ROwn w a len cap 5 55 (xs.map xdF) Q) (hl : len ≤ 8) :
  Calls Tryz.prog 103 #[.slice a len cap,.string t] w fun e w' => ∃ a' l' c',e = .returned (.slice a' l' c') ∧ ROwn w' a' l' c' 5 55 ((wo Xd.n t xs).map xdF) (fun k => Q k ∨ w.heap.size ≤ k) ∧ Below w.heap.size w w':=by
 have HR:=hidK ho.row
 have hxl : xs.length = len:=by simpa using ho.1
 obtain ⟨vss,H,hV,hcell⟩:=ho.recs;have HV:=hidK hV;have HC:=hidK hcell
 have hvl : vss.length = xs.length:=by rw [hV.len,List.length_map]
 clear ho hV hcell;obtain ⟨i0,hi,hz0,hz1,hz2⟩:=info_parts infoxd;have HI0:=hidK (And.intro hi (And.intro hz0 (And.intro hz1 hz2)));clear hi hz0 hz1 hz2
 have hmcalled : ∀ (v : Value) (w : World),(method 360 55 v "loop.example/g00571/impl.called").run Tryz.prog w = .ok (205,v) w:=fun _ _ => by kernel_rfl
 go_enter Tryz.func103,Tryz.ntmps103
 go_wp2
 go_loopw [5,10] (fun vo vi wr => ∃ (k : Nat) (ws : List (List Value)) (f : Nat → Nat),k ≤ len ∧ vi = .int .i64 k ∧ Hid (wr.ownsRow w.heap.size 55 5 vo (wo Xd.n t (xs.take k)).length ws.flatten) ∧ Hid (Sel xs (wo Xd.n t (xs.take k)) vss ws k f) ∧ Hid (Below w.heap.size w wr)) (fun _ vi _ => len - (intOf vi).toNat)
 case atStart => exact ⟨0,[],fun _ => 0,by omega,rfl,World.ownsRow_nil _ _ _ _,Sel.nil _ _ _ _,Below.refl _ _⟩
 case round =>
  obtain ⟨k,ws,f,hk,rfl,HO,HF,HB⟩:=hrel;have hBs:=HB.out.size
  by_cases hlt : k < len
  ·obtain ⟨b,o,x,rfl,hb,hx,hat⟩:=xd_at HR.out hlt;obtain ⟨z0,z2,z4,c0,c1,c2,c3,c4⟩:=xd_cells hat
   have hvk : vss[k]? = some [.string x.n,.int .i64 x.z,.string x.k,.bool x.x,.string x.v]:=by
    have hkv : k < vss.length:=by omega
    have h1:=List.getElem?_eq_getElem hkv
    have hoz : o = 0:=by
     have h2 : 0 < (vss[k]).length:=by rw [HV.out.all k _ h1];decide
     obtain ⟨g,e,_,_⟩:=HC.out _ _ (flat_at HV.out.all h1 (List.getElem?_eq_getElem h2))
     cases e
     rfl
    subst hoz
    have hc2 : ∀ (j : Nat) u,vss.flatten[j]? = some u → w.cell? ⟨b,j,none⟩ = some u:=fun j u hj => by
     obtain ⟨g,e,_,h3⟩:=HC.out j u hj
     cases e
     exact h3
    rw [h1];refine congrArg some (vals_eq5 (HV.out.all k _ h1) (recs_at HV.out hc2 h1 (by decide) (by simpa using c0)) (recs_at HV.out hc2 h1 (by decide) (by simpa using c1)) (recs_at HV.out hc2 h1 (by decide) (by simpa using c2)) (recs_at HV.out hc2 h1 (by decide) (by simpa using c3)) (recs_at HV.out hc2 h1 (by decide) (by simpa using c4)))
   have HX:=hidK hx;have HVK:=hidK hvk;replace c0:=(cell_below HB.out hb).trans c0;replace c1:=(cell_below HB.out hb).trans c1;replace c2:=(cell_below HB.out hb).trans c2;replace c3:=(cell_below HB.out hb).trans c3;replace c4:=(cell_below HB.out hb).trans c4;have hbr : b < wr.heap.size:=Nat.lt_of_lt_of_le hb hBs;clear hat hx hvk z0 z2 z4;have hn8:=wo_le Xd.n t (xs.take k)
   have hn9 : (wo Xd.n t (xs.take k)).length ≤ k:=by rw [List.length_take] at hn8;omega
   go_wp2_with fail;refine (calledxd_any x _).mono ?_;rintro e w1 ⟨rfl,hb1⟩;obtain ⟨hn1,hbx⟩:=slots1 hb1;obtain ⟨n0,n1,n2,n3,n4⟩:=cs5 hn1;have hs1:=lt_of_some hn1;have HO1:=hidK (owns_below HO.out hbx);have HB1:=hidK (HB.out.trans (hbx.mono hBs));clear hb1 hbx hn1 c0 c1 c2 c3 c4
   cases hq : (x.n.toList == t.toList)
   ·have hq2 : (x.n.toList != t.toList) = true:=by simp [bne,hq]
    go_wp2_with (first | (at_builtin;refine wpList_append_own _ rfl _ _ 135 rfl w.heap.size 55 i0 (.agg #[.string ⟨#[]⟩,.int .i64 0,.string ⟨#[]⟩,.bool false,.string ⟨#[]⟩]) 5 64 Tryz.underlying135 HI0.out.1 HI0.out.2.1 HI0.out.2.2.1 HI0.out.2.2.2 rfl (by decide) _ _ _ rfl (HO1.out.alloc _) ⟨w1.heap.size,0,none⟩ 1 1 [.string x.n,.int .i64 x.z,.string x.k,.bool x.x,.string x.v] rfl rfl ?c1 ?c2 ?c3 ?c4 ?c5 ?_))
    case c1 => exact news_alloc _ _ _
    case c2 => intro u hu;simp only [List.mem_cons,List.not_mem_nil,or_false] at hu;rcases hu with rfl | rfl | rfl | rfl | rfl <;> rfl
    case c3 => unfold maxLen;omega
    case c4 => omega
    case c5 => simp;omega
    rintro v' w3 hown3 hgrow -
    have HO3 : Hid (w3.ownsRow w.heap.size 55 5 v' (wo Xd.n t (xs.take (k + 1))).length (ws ++ ([[.string x.n,.int .i64 x.z,.string x.k,.bool x.x,.string x.v]] : List (List Value))).flatten):=by
     show World.ownsRow _ _ _ _ _ _ _
     rw [wo_yes HX.out hq,List.length_append,List.flatten_append]
     simpa using hown3
    have hF:=HF.out.push HX.out HVK.out;rw [← wo_yes HX.out hq] at hF;have HF3:=hidK hF;have HB3:=hidK ((HB1.out.trans ((below1 _ _).mono HB1.out.size)).grown hgrow (by simp;omega) (fun g hg => (HO1.out.lt g hg).1));clear hown3 hgrow hF
    go_wp2
    exact ⟨⟨k + 1,_,_,by omega,by go_num,HO3,HF3,HB3⟩,by simp [intOf];omega⟩
   ·have hq2 : (x.n.toList != t.toList) = false:=by simp [bne,hq]
    have HF3:=hidK HF.out.up;rw [← wo_no HX.out hq] at HF3 HO1
    go_wp2
    exact ⟨⟨k + 1,ws,f,by omega,by go_num,HO1,HF3,HB1⟩,by simp [intOf];omega⟩
  ·obtain rfl : len = k:=by omega
   have h5:=HF.out;have HO5:=HO;rw [List.take_of_length_le (by omega)] at h5 HO5;have h6:=(h5.recs (HV.out.below HB.out)).keep (w':=wr) (S':=fun k => Q k ∨ w.heap.size ≤ k) (fun _ _ _ _ => rfl) (fun _ _ s => .inl s);obtain ⟨a',c',e,hR⟩:=h6.own HO5.out (by simp) (by decide) (fun g hg => .inr (HO5.out.lt g hg).1);subst e;have HR5:=hidK hR;clear h5 h6 hR HF HO HO5
   go_wp2
   go_ret;exact ⟨a',_,c',rfl,by simpa using HR5.out,HB.out⟩

theorem iwovd_any (a : Option Addr) (len cap : Nat) (xs : List Vd) (t : ByteArray) (Q : Nat → Prop) (w : World) (ho : ROwn w a len cap 8 100 (xs.map vdF) Q) (hl : len ≤ 8) :
  Calls Tryz.prog 105 #[.slice a len cap,.string t] w fun e w' => ∃ a' l' c',e = .returned (.slice a' l' c') ∧ ROwn w' a' l' c' 8 100 ((wo Vd.n t xs).map vdF) (fun k => Q k ∨ w.heap.size ≤ k) ∧ Below w.heap.size w w':=by
 have HR:=hidK ho.row
 have hxl : xs.length = len:=by simpa using ho.1
 obtain ⟨vss,H,hV,hcell⟩:=ho.recs;have HV:=hidK hV;have HC:=hidK hcell
 have hvl : vss.length = xs.length:=by rw [hV.len,List.length_map]
 clear ho hV hcell;obtain ⟨i0,hi,hz0,hz1,hz2⟩:=info_parts infovd;have HI0:=hidK (And.intro hi (And.intro hz0 (And.intro hz1 hz2)));clear hi hz0 hz1 hz2
 have hmcalled : ∀ (v : Value) (w : World),(method 360 100 v "loop.example/g00571/impl.called").run Tryz.prog w = .ok (212,v) w:=fun _ _ => by kernel_rfl
 go_enter Tryz.func105,Tryz.ntmps105
 go_wp2
 go_loopw [5,10] (fun vo vi wr => ∃ (k : Nat) (ws : List (List Value)) (f : Nat → Nat),k ≤ len ∧ vi = .int .i64 k ∧ Hid (wr.ownsRow w.heap.size 100 8 vo (wo Vd.n t (xs.take k)).length ws.flatten) ∧ Hid (Sel xs (wo Vd.n t (xs.take k)) vss ws k f) ∧ Hid (Below w.heap.size w wr)) (fun _ vi _ => len - (intOf vi).toNat)
 case atStart => exact ⟨0,[],fun _ => 0,by omega,rfl,World.ownsRow_nil _ _ _ _,Sel.nil _ _ _ _,Below.refl _ _⟩
 case round =>
  obtain ⟨k,ws,f,hk,rfl,HO,HF,HB⟩:=hrel;have hBs:=HB.out.size
  by_cases hlt : k < len
  ·obtain ⟨b,o,x,rfl,hb,hx,hat⟩:=vd_at HR.out hlt;obtain ⟨va,vl,vc,hvr,z0,z2,z3,z5,c0,c1,c2,c3,c4,c5,c6,c7⟩:=vd_cells hat
   have hvk : vss[k]? = some [.string x.n,.int .i64 x.c,.string x.z,.string x.k,.bool x.x,.string x.m,.bool x.y,.slice va vl vc]:=by
    have hkv : k < vss.length:=by omega
    have h1:=List.getElem?_eq_getElem hkv
    have hoz : o = 0:=by
     have h2 : 0 < (vss[k]).length:=by rw [HV.out.all k _ h1];decide
     obtain ⟨g,e,_,_⟩:=HC.out _ _ (flat_at HV.out.all h1 (List.getElem?_eq_getElem h2))
     cases e
     rfl
    subst hoz
    have hc2 : ∀ (j : Nat) u,vss.flatten[j]? = some u → w.cell? ⟨b,j,none⟩ = some u:=fun j u hj => by
     obtain ⟨g,e,_,h3⟩:=HC.out j u hj
     cases e
     exact h3
    rw [h1];refine congrArg some (vals_eq8 (HV.out.all k _ h1) (recs_at HV.out hc2 h1 (by decide) (by simpa using c0)) (recs_at HV.out hc2 h1 (by decide) (by simpa using c1)) (recs_at HV.out hc2 h1 (by decide) (by simpa using c2)) (recs_at HV.out hc2 h1 (by decide) (by simpa using c3)) (recs_at HV.out hc2 h1 (by decide) (by simpa using c4)) (recs_at HV.out hc2 h1 (by decide) (by simpa using c5)) (recs_at HV.out hc2 h1 (by decide) (by simpa using c6)) (recs_at HV.out hc2 h1 (by decide) (by simpa using c7)))
   have HX:=hidK hx;have HVK:=hidK hvk;replace c0:=(cell_below HB.out hb).trans c0;replace c1:=(cell_below HB.out hb).trans c1;replace c2:=(cell_below HB.out hb).trans c2;replace c3:=(cell_below HB.out hb).trans c3;replace c4:=(cell_below HB.out hb).trans c4;replace c5:=(cell_below HB.out hb).trans c5;replace c6:=(cell_below HB.out hb).trans c6;replace c7:=(cell_below HB.out hb).trans c7;have hbr : b < wr.heap.size:=Nat.lt_of_lt_of_le hb hBs;clear hat hx hvk hvr z0 z2 z3 z5;have hn8:=wo_le Vd.n t (xs.take k)
   have hn9 : (wo Vd.n t (xs.take k)).length ≤ k:=by rw [List.length_take] at hn8;omega
   go_wp2_with fail;refine (calledvd_any x va vl vc _).mono ?_;rintro e w1 ⟨rfl,hb1⟩;obtain ⟨hn1,hbx⟩:=slots1 hb1;obtain ⟨n0,n1,n2,n3,n4,n5,n6,n7⟩:=cs8 hn1;have hs1:=lt_of_some hn1;have HO1:=hidK (owns_below HO.out hbx);have HB1:=hidK (HB.out.trans (hbx.mono hBs));clear hb1 hbx hn1 c0 c1 c2 c3 c4 c5 c6 c7
   cases hq : (x.n.toList == t.toList)
   ·have hq2 : (x.n.toList != t.toList) = true:=by simp [bne,hq]
    go_wp2_with (first | (at_builtin;refine wpList_append_own _ rfl _ _ 144 rfl w.heap.size 100 i0 (.agg #[.string ⟨#[]⟩,.int .i64 0,.string ⟨#[]⟩,.string ⟨#[]⟩,.bool false,.string ⟨#[]⟩,.bool false,.slice none 0 0]) 8 112 Tryz.underlying144 HI0.out.1 HI0.out.2.1 HI0.out.2.2.1 HI0.out.2.2.2 rfl (by decide) _ _ _ rfl (HO1.out.alloc _) ⟨w1.heap.size,0,none⟩ 1 1 [.string x.n,.int .i64 x.c,.string x.z,.string x.k,.bool x.x,.string x.m,.bool x.y,.slice va vl vc] rfl rfl ?c1 ?c2 ?c3 ?c4 ?c5 ?_))
    case c1 => exact news_alloc _ _ _
    case c2 => intro u hu;simp only [List.mem_cons,List.not_mem_nil,or_false] at hu;rcases hu with rfl | rfl | rfl | rfl | rfl | rfl | rfl | rfl <;> rfl
    case c3 => unfold maxLen;omega
    case c4 => omega
    case c5 => simp;omega
    rintro v' w3 hown3 hgrow -
    have HO3 : Hid (w3.ownsRow w.heap.size 100 8 v' (wo Vd.n t (xs.take (k + 1))).length (ws ++ ([[.string x.n,.int .i64 x.c,.string x.z,.string x.k,.bool x.x,.string x.m,.bool x.y,.slice va vl vc]] : List (List Value))).flatten):=by
     show World.ownsRow _ _ _ _ _ _ _
     rw [wo_yes HX.out hq,List.length_append,List.flatten_append]
     simpa using hown3
    have hF:=HF.out.push HX.out HVK.out;rw [← wo_yes HX.out hq] at hF;have HF3:=hidK hF;have HB3:=hidK ((HB1.out.trans ((below1 _ _).mono HB1.out.size)).grown hgrow (by simp;omega) (fun g hg => (HO1.out.lt g hg).1));clear hown3 hgrow hF
    go_wp2
    exact ⟨⟨k + 1,_,_,by omega,by go_num,HO3,HF3,HB3⟩,by simp [intOf];omega⟩
   ·have hq2 : (x.n.toList != t.toList) = false:=by simp [bne,hq]
    have HF3:=hidK HF.out.up;rw [← wo_no HX.out hq] at HF3 HO1
    go_wp2
    exact ⟨⟨k + 1,ws,f,by omega,by go_num,HO1,HF3,HB1⟩,by simp [intOf];omega⟩
  ·obtain rfl : len = k:=by omega
   have h5:=HF.out;have HO5:=HO;rw [List.take_of_length_le (by omega)] at h5 HO5;have h6:=(h5.recs (HV.out.below HB.out)).keep (w':=wr) (S':=fun k => Q k ∨ w.heap.size ≤ k) (fun _ _ _ _ => rfl) (fun _ _ s => .inl s);obtain ⟨a',c',e,hR⟩:=h6.own HO5.out (by simp) (by decide) (fun g hg => .inr (HO5.out.lt g hg).1);subst e;have HR5:=hidK hR;clear h5 h6 hR HF HO HO5
   go_wp2
   go_ret;exact ⟨a',_,c',rfl,by simpa using HR5.out,HB.out⟩

def WhyI (E : Nat → Addr) (Why : Nat → Prop) (ok : Prop) (w : World) (e : Ending) (w' : World) : Prop:=Below w.heap.size w w' ∧ ((∃ i,i < 9 ∧ Why i ∧ e = .returned (.iface 216 (.pointer (some (E i))))) ∨ (ok ∧ e = .returned .nilIface))
theorem co0_marks (p : Int) : mkCn 1 (co0 p).c.raw ≤ 1152921504606846976:=by simp [co0,cl0,Cl.raw,mkCn,mkNs]

theorem row_same {w : World} {g : Nat} {cs : Array Value} {T : TypeId} {f : Nat × Nat} (h : w.heap[g]? = some (.cells cs T f)) : Below w.heap.size w (w.setRow g cs):=by
 refine ⟨rfl,rfl,rfl,by simp,fun k hk => ?_⟩
 by_cases e : k = g
 ·subst e;rw [setRow_heap w k cs cs T f h,h]
 ·exact setRow_other w g k cs e

theorem run_append_empty_none {w : World} (t ty e : TypeId) (i : TypeInfo) (ht : Tryz.prog.underlying t = some (.slice e)) (hi : Tryz.prog.info? e = some i) (g cap : Nat) :
  (Builtin.append_ #[t,t] ty #[.slice (some ⟨g,0,none⟩) 0 0,.slice none 0 cap]).run Tryz.prog w = .ok (.slice (some ⟨g,0,none⟩) 0 0) w:=by
 simp [Builtin.append_,run_underlying ht,sizeOf,typeInfo,hi,Builtin.lenOf,Builtin.firstCells,storeCells]

theorem TOwn.here {w : World} {g l c : Nat} {zs : List ByteArray} {S S' : Nat → Prop} (h : TOwn w (some ⟨g,0,none⟩) l c zs S) (hS : S' g) : TOwn w (some ⟨g,0,none⟩) l c zs S' :=
 ⟨h.1,h.2.imp id fun ⟨g',cur,e,_,hg⟩ => by cases e;exact ⟨g,cur,rfl,hS,hg⟩⟩

theorem run_append_texts {w : World} {g0 : Nat} {va : Option Addr} {len cap : Nat} {zs : List ByteArray} (ty : TypeId) (hg : w.heap[g0]? = some (.cells #[] 9 (0,0))) (hr : TxRow w va len cap zs) (hl : len ≤ 8001) :
  ∃ a l c w',(Builtin.append_ #[85,85] ty #[.slice (some ⟨g0,0,none⟩) 0 0,.slice va len cap]).run Tryz.prog w = .ok (.slice a l c) w' ∧ TOwn w' a l c zs (fun k => k = g0 ∨ w.heap.size ≤ k) ∧ Below w.heap.size w w':=by
 obtain ⟨i0,hi,hz0,hz1,hz2⟩:=info_parts infoStr;have hzl : zs.length = len:=hr.1
 rcases Nat.eq_zero_or_pos len with h0 | h0
 ·subst h0;obtain rfl : zs = []:=List.eq_nil_of_length_eq_zero hzl
  cases va with
  | none => exact ⟨_,_,_,_,run_append_empty_none 85 ty 9 i0 Tryz.underlying85 hi g0 cap,⟨⟨rfl,Nat.le_refl _,by omega,fun j x hx => by simp at hx,.inl rfl⟩,.inl rfl⟩,Below.refl _ _⟩
  | some ad =>
   have h:=run_append_room (P:=Tryz.prog) w 85 ty 9 i0 Tryz.underlying85 hi g0 0 0 #[] hg ad 0 cap [] (by simp) (fun j u hu => by simp at hu) (fun u hu => by simp at hu) (by omega) (by simp);exact ⟨_,_,_,_,h,⟨⟨rfl,Nat.le_refl _,by omega,fun j x hx => by simp at hx,.inl rfl⟩,.inl rfl⟩,by simpa using row_same hg⟩
 ·cases va with
  | none =>
   rcases hr.2.2.2.2 with h | ⟨b,o,e,_⟩
   ·subst h;simp at hzl;omega
   ·cases e
  | some ad =>
   have h:=run_append_grow (P:=Tryz.prog) w 85 ty 9 i0 (.string ⟨#[]⟩) Tryz.underlying85 hi hz0 ⟨g0,0,none⟩ 0 0 [] (by simp) (fun j u hu => by simp at hu) ad len cap (zs.map Value.string) (by rw [hz1];simpa using hzl) (Ap.news_of hr) (by omega) (by omega) (growslice_fits (by omega) (by rw [hz2];omega));obtain ⟨v',w',hr2,h2,h3,h4⟩:=run_append_own (P:=Tryz.prog) w (base:=0) 85 ty 9 i0 (.string ⟨#[]⟩) 1 16 Tryz.underlying85 hi hz0 hz1 hz2 rfl (by decide) (.slice (some ⟨g0,0,none⟩) 0 0) 0 [] ⟨rfl,.inr ⟨g0,0,#[],rfl,Nat.zero_le _,hg,Nat.le_refl _,by unfold maxLen;omega,rfl,rfl⟩⟩ ad len cap (zs.map Value.string) (by simpa using hzl) (Ap.news_of hr) (fun u hu => by obtain ⟨x,_,rfl⟩:=List.mem_map.1 hu;rfl) (by unfold maxLen;omega) (by omega) (Nat.zero_le _);rw [h] at hr2
   cases hr2
   rw [Nat.zero_add,List.nil_append] at h2;obtain ⟨a',c',e,hT⟩:=TOwn.of_row h2 hr.2.2.2.1;have hbel : Below w.heap.size w (w.drew.alloc (.cells (([] : List Value).toArray ++ (zs.map Value.string).toArray ++ Builtin.zeroCells (Value.string ⟨#[]⟩).cells (grownCap w (0 + len) 0 9 - (0 + len))) 9)):=⟨rfl,rfl,rfl,by simp,fun k hk => heap_alloc_old w.drew _ (by simpa using hk)⟩;simp only [Nat.zero_add] at e h hbel ⊢
   cases e
   exact ⟨_,_,_,_,h,hT.here (.inr (Nat.le_refl _)),hbel⟩
theorem wpList_texts {ops : Array Oper} {rest : List Oper} {o : Oper} {a : Act} {w : World} {Q : Exit → Act → World → Prop} (hgd : o.guard = none) (s x : Operand) (ho : o.op = .call { callee:=.builtin .append,args:=#[s,x],argTypes:=#[85,85] }) (g0 : Nat) (hs : a.eval s = .slice (some ⟨g0,0,none⟩) 0 0) (hg : w.heap[g0]? = some (.cells #[] 9 (0,0)))
  (va : Option Addr) (len cap : Nat) (hx : a.eval x = .slice va len cap) (zs : List ByteArray) (hr : TxRow w va len cap zs) (hl : len ≤ 8001)
  (h : ∀ a' l c w',TOwn w' a' l c zs (fun k => k = g0 ∨ w.heap.size ≤ k) → Below w.heap.size w w' → wpList Tryz.prog ops Q rest (a.put o.dst (.slice a' l c)) w') : wpList Tryz.prog ops Q (o :: rest) a w:=by
 refine wpList_plain hgd fun K hK => ?_;obtain ⟨a',l,c,w',hrun,h1,h2⟩:=run_append_texts o.type hg hr hl;unfold Oper.wp execOp;simp only [ho,resolve,invoke,builtin,Sem.run_bind,Sem.run_pure,Result.andThen_ok,List.map_toArray,List.map_cons,List.map_nil,hs,hx,hrun];exact hK _ _ (h a' l c w' h1 h2)

theorem run_append_recs {w : World} {g0 : Nat} {va : Option Addr} {len cap m bytes : Nat} {rs : List (List Fv)} (t ty T : TypeId) (i : TypeInfo) (z : Value) (ht : Tryz.prog.underlying t = some (.slice T)) (hi : Tryz.prog.info? T = some i) (hz : i.zero = some z) (hsize : i.size = m) (hby : i.bytes = bytes) (hzs : z.cells.size = m) (hsz : 0 < m) (hT : ¬ T = 9) (hg : w.heap[g0]? = some (.cells #[] T (0,0)))
  (hr : RRow w va len cap m rs) (hm : ∀ (j : Nat) r,rs[j]? = some r → r.length = m ∧ FlatR r) (hl : len ≤ 8) (hb8 : bytes ≤ 1000) :
  ∃ a c w',(Builtin.append_ #[t,t] ty #[.slice (some ⟨g0,0,none⟩) 0 0,.slice va len cap]).run Tryz.prog w = .ok (.slice a len c) w' ∧ ROwn w' a len c m T rs (fun k => k = g0 ∨ w.heap.size ≤ k) ∧ Below w.heap.size w w':=by
 rcases Nat.eq_zero_or_pos len with h0 | h0
 ·subst h0;obtain rfl : rs = []:=List.eq_nil_of_length_eq_zero hr.1
  cases va with
  | none => exact ⟨_,_,_,run_append_empty_none t ty T i ht hi g0 cap,ROwn.nil _ _ _ _ _ (by omega),Below.refl _ _⟩
  | some ad =>
   have h:=run_append_room (P:=Tryz.prog) w t ty T i ht hi g0 0 0 #[] hg ad 0 cap [] (by simp) (fun j u hu => by simp at hu) (fun u hu => by simp at hu) (by omega) (by simp);exact ⟨_,_,_,h,ROwn.nil _ _ _ _ _ (by omega),by simpa using row_same hg⟩
 ·have hlen : ((rs.map flatV).flatten).length = len * m:=by rw [flat_len (flat_all fun j r hj => (hm j r hj).1),List.length_map,hr.1]
  obtain ⟨ad,rfl,hnews⟩ : ∃ ad,va = some ad ∧ ∀ (j : Nat) u,((rs.map flatV).flatten)[j]? = some u → w.cell? (ad.add j) = some u:=by
   rcases hr.2.2.2 with h | ⟨b,o,rfl,_⟩
   ·subst h;have:=hr.1;simp at this;omega
   ·exact ⟨_,rfl,flat_news hr hm⟩
  have h:=run_append_grow (P:=Tryz.prog) w t ty T i z ht hi hz ⟨g0,0,none⟩ 0 0 [] (by simp) (fun j u hu => by simp at hu) ad len cap (rs.map flatV).flatten (by rw [hsize];exact hlen) hnews (by omega) (by omega) (growslice_fits (by omega) (by rw [hby];have : (0 + len) * bytes ≤ 8 * 1000:=Nat.mul_le_mul (by omega) hb8;omega));obtain ⟨v',w',hr2,h2,h3,h4⟩:=run_append_own (P:=Tryz.prog) w (base:=0) t ty T i z m bytes ht hi hz hsize hby hzs hsz (.slice (some ⟨g0,0,none⟩) 0 0) 0 [] ⟨by simp,.inr ⟨g0,0,#[],rfl,Nat.zero_le _,hg,Nat.le_refl _,by unfold maxLen;omega,by simp,by simp⟩⟩ ad len cap (rs.map flatV).flatten hlen hnews (flat_recs hr hm w (fun _ => True)).one (by unfold maxLen;omega) (by have : (0 + len) * bytes ≤ 8 * 1000:=Nat.mul_le_mul (by omega) hb8;omega) (Nat.zero_le _);rw [h] at hr2
  cases hr2
  rw [Nat.zero_add,List.nil_append] at h2;obtain ⟨a',c',e,hR⟩:=(flat_recs hr hm _ (fun k => k = g0 ∨ w.heap.size ≤ k)).own h2 hr.1.symm hT (fun g hg => by simp [Value.ownBlock] at hg;exact .inr (by omega));have hbel : Below w.heap.size w (w.drew.alloc (.cells (([] : List Value).toArray ++ ((rs.map flatV).flatten).toArray ++ Builtin.zeroCells z.cells (grownCap w (0 + len) 0 T - (0 + len))) T)):=⟨rfl,rfl,rfl,by simp,fun k hk => heap_alloc_old w.drew _ (by simpa using hk)⟩;rw [hr.1] at e hR;simp only [Nat.zero_add] at e h hbel hR ⊢
  cases e
  exact ⟨_,_,_,h,hR,hbel⟩
theorem wp_copy0 {o : Oper} {a : Act} {w : World} {K : Act → World → Prop} {Q : Exit → Act → World → Prop} {g0 : Nat} {va : Option Addr} {len cap m bytes : Nat} {rs : List (List Fv)} (s x : Operand) (t T : TypeId) (ho : o.op = .call { callee:=.builtin .append,args:=#[s,x],argTypes:=#[t,t] }) (i : TypeInfo) (z : Value) (ht : Tryz.prog.underlying t = some (.slice T)) (hi : Tryz.prog.info? T = some i) (hz : i.zero = some z) (hsize : i.size = m) (hby : i.bytes = bytes) (hzs : z.cells.size = m) (hsz : 0 < m) (hT : ¬ T = 9) (hs : a.eval s = .slice (some ⟨g0,0,none⟩) 0 0) (hg : w.heap[g0]? = some (.cells #[] T (0,0)))
  (hx : a.eval x = .slice va len cap) (hr : RRow w va len cap m rs) (hm : ∀ (j : Nat) r,rs[j]? = some r → r.length = m ∧ FlatR r) (hl : len ≤ 8) (hb8 : bytes ≤ 1000)
  (h : ∀ a' c' w',ROwn w' a' len c' m T rs (fun k => k = g0 ∨ w.heap.size ≤ k) → Below w.heap.size w w' → K (a.put o.dst (.slice a' len c')) w') : o.wp Tryz.prog a w K Q:=by
 obtain ⟨a',c',w',hrun,h1,h2⟩:=run_append_recs t o.type T i z ht hi hz hsize hby hzs hsz hT hg hr hm hl hb8;unfold Oper.wp execOp;simp only [ho,resolve,invoke,builtin,Sem.run_bind,Sem.run_pure,Result.andThen_ok,List.map_toArray,List.map_cons,List.map_nil,hs,hx,hrun];exact h a' c' w' h1 h2

theorem slots2n {w w' : World} {o p : Obj} (h : Below (w.heap.size + 1 + 1) ((w.alloc o).alloc p) w') : w'.heap[w.heap.size]? = some o ∧ w'.heap[w.heap.size + 1]? = some p ∧ Below w.heap.size w w':=slots2 (by rw [size1,size1];exact h)
theorem news_alloc_at (w : World) (n : Nat) (hn : w.heap.size = n) (vs : List Value) (T : TypeId) : ∀ (j : Nat) u,vs[j]? = some u → (w.alloc (.cells vs.toArray T)).cell? ((⟨n,0,none⟩ : Addr).add j) = some u:=by
 subst hn;exact news_alloc w vs T
theorem put6 {w : World} {b : Nat} {T : TypeId} {u0 u1 u2 u3 u4 u5 v0 v1 v2 v3 v4 v5 : Value} (h : w.heap[b]? = some (.cells #[u0,u1,u2,u3,u4,u5] T (0,0))) :
  ((((((w.setCell ⟨b,0,none⟩ v0).setCell ⟨b,1,none⟩ v1).setCell ⟨b,2,none⟩ v2).setCell ⟨b,3,none⟩ v3).setCell ⟨b,4,none⟩ v4).setCell ⟨b,5,none⟩ v5).heap[b]? = some (.cells #[v0,v1,v2,v3,v4,v5] T (0,0)) :=
 block_set (block_set (block_set (block_set (block_set (block_set h v0) v1) v2) v3) v4) v5
theorem put6_ne {w : World} {b k : Nat} {v0 v1 v2 v3 v4 v5 : Value} (hk : ¬ k = b) :
  ((((((w.setCell ⟨b,0,none⟩ v0).setCell ⟨b,1,none⟩ v1).setCell ⟨b,2,none⟩ v2).setCell ⟨b,3,none⟩ v3).setCell ⟨b,4,none⟩ v4).setCell ⟨b,5,none⟩ v5).heap[k]? = w.heap[k]?:=by
 rw [Below.heap_setCell _ _ _ _ hk,Below.heap_setCell _ _ _ _ hk,Below.heap_setCell _ _ _ _ hk,Below.heap_setCell _ _ _ _ hk,Below.heap_setCell _ _ _ _ hk,Below.heap_setCell _ _ _ _ hk]
theorem ROwn.away {w : World} {a : Option Addr} {len cap m : Nat} {T T' : TypeId} {rs : List (List Fv)} {S : Nat → Prop} (h : ROwn w a len cap m T rs S) {b : Nat} {cs : Array Value} (hb : w.heap[b]? = some (.cells cs T' (0,0))) (h1 : ¬ T' = T) (h2 : ¬ T' = 9) : ROwn w a len cap m T rs (fun k => S k ∧ ¬ k = b):=by
 obtain ⟨a1,a2,a3,a4⟩:=h;refine ⟨a1,a2,a3,a4.imp id ?_⟩;rintro ⟨g,cur,H,e,h5⟩;refine ⟨g,cur,H,e,h5.blk,⟨h5.inS,fun q => ?_⟩,h5.len,fun j r hj i f hi => ?_,h5.inj⟩
 ·subst q;have:=h5.blk;rw [hb] at this
  cases this
  exact h1 rfl
 ·obtain ⟨v,q1,q2⟩:=h5.cell j r hj i f hi;refine ⟨v,q1,?_⟩
  cases f with
  | l zs =>
   obtain ⟨a',l',c',k1,k2,k3,k4,k5,k6⟩:=q2;refine ⟨a',l',c',k1,k2,k3,k4,k5,k6.imp id ?_⟩;rintro ⟨z1,z2,z3,cu,z4,z5⟩;refine ⟨z1,⟨z2,fun q => ?_⟩,z3,cu,z4,z5⟩;rw [q] at z4;rw [hb] at z4
   cases z4
   exact h2 rfl
  | _ => exact q2
theorem owns_set {w : World} {base n m : Nat} {T T' : TypeId} {v u : Value} {xs : List Value} {b i : Nat} {cs : Array Value} (h : w.ownsRow base T m v n xs) (hb : w.heap[b]? = some (.cells cs T' (0,0))) (hT : ¬ T' = T) : (w.setCell ⟨b,i,none⟩ u).ownsRow base T m v n xs:=by
 refine ⟨h.1,h.2.imp id ?_⟩;rintro ⟨g,cap,cur,h1,h2,h3,h4⟩;refine ⟨g,cap,cur,h1,h2,(Below.heap_setCell _ _ _ _ (fun e => ?_)).trans h3,h4⟩;subst e;rw [hb] at h3
 cases h3
 exact hT rfl
theorem VRecs.set {w : World} {S : Nat → Prop} {m : Nat} {rs : List (List Fv)} {vss : List (List Value)} {H : Nat → Nat → Nat} (h : VRecs w S m rs vss H) {b i : Nat} {cs : Array Value} {T' : TypeId} {u : Value} (hb : w.heap[b]? = some (.cells cs T' (0,0))) (hT : ¬ T' = 9) : VRecs (w.setCell ⟨b,i,none⟩ u) S m rs vss H :=
 h.keep (fun k cu _ q => Below.heap_setCell _ _ _ _ (fun e => by subst e;rw [hb] at q;cases q;exact hT rfl)) (fun _ _ s => s)
theorem KeptS.of_grown {S : Nat → Prop} {W w : World} {vb : Option Nat} (hg : W.grownBy w vb) (h : ∀ g,vb = some g → S g) : KeptS S W w:=⟨hg.os,hg.tape,hg.output,hg.size,fun k hk hn => hg.block k hk (fun e => hn (h k e.symm))⟩
theorem owns_slice {w : World} {base n m : Nat} {T : TypeId} {v : Value} {xs : List Value} (h : w.ownsRow base T m v n xs) : ∃ a l c,v = .slice a l c:=by
 rcases h.2 with ⟨rfl,_⟩ | ⟨g,cap,cur,rfl,_⟩
 ·exact ⟨_,_,_,rfl⟩
 ·exact ⟨_,_,_,rfl⟩
abbrev Cps (b : Nat) (X : World) : Nat → Prop:=fun k => k = b ∨ X.heap.size ≤ k
theorem cp_blk {X wr W w5 : World} {b3 k m : Nat} {T TC : TypeId} {v : Value} {xs : List Value} {cs : Array Value} (hO : wr.ownsRow X.heap.size T m v k xs) (hBo : wr.heap[b3]? = some (.cells cs TC (0,0))) (hb3 : b3 < X.heap.size) (hb : Below wr.heap.size wr W) (hg : W.grownBy w5 v.ownBlock) : w5.heap[b3]? = some (.cells cs TC (0,0)) :=
 (hg.block b3 (Nat.lt_of_lt_of_le (lt_of_some hBo) hb.size) (fun e => by have:=(hO.lt b3 e.symm).1;omega)).trans ((hb.block _ (lt_of_some hBo)).trans hBo)
theorem cp_step {X wr W w5 : World} {b3 k m f : Nat} {T TC : TypeId} {v v' : Value} {rs : List (List Fv)} {vss : List (List Value)} {H : Nat → Nat → Nat} {cs : Array Value} {r : List Fv} {vs : List Value} {hh : Nat} (hK : KeptS (Cps b3 X) X wr) (hO : wr.ownsRow X.heap.size T m v k vss.flatten) (hV : VRecs wr (fun k => X.heap.size ≤ k) m rs vss H) (hBo : wr.heap[b3]? = some (.cells cs TC (0,0))) (hb3 : b3 < X.heap.size)
  (hb : Below wr.heap.size wr W) (hown : w5.ownsRow X.heap.size T m v' (k + 1) (vss.flatten ++ vs)) (hg : W.grownBy w5 v.ownBlock) (hT : ¬ T = 9) (hTC : ¬ TC = T) (hTS : ¬ TC = 9) (hr : r.length = m) (hvs : vs.length = m) (hc : ∀ (i : Nat) f,r[i]? = some f → ∃ v,vs[i]? = some v ∧ f.Fr W hh (fun k => X.heap.size ≤ k) v) (hfr : ∀ (i : Nat) zs,r[i]? = some (.l zs) → zs ≠ [] → wr.heap.size ≤ hh)
  (h1 : ∀ (i i' : Nat) zs zs',r[i]? = some (.l zs) → zs ≠ [] → r[i']? = some (.l zs') → zs' ≠ [] → i = i') :
  KeptS (Cps b3 X) X (w5.setCell ⟨b3,f,none⟩ v') ∧ (w5.setCell ⟨b3,f,none⟩ v').ownsRow X.heap.size T m v' (k + 1) (vss ++ [vs]).flatten ∧ (∃ H',VRecs (w5.setCell ⟨b3,f,none⟩ v') (fun k => X.heap.size ≤ k) m (rs ++ [r]) (vss ++ [vs]) H') ∧ (w5.setCell ⟨b3,f,none⟩ v').heap[b3]? = some (.cells (cs.setIfInBounds f v') TC (0,0)):=by
 have hb5:=cp_blk hO hBo hb3 hb hg;refine ⟨?_,?_,⟨_,(hV.app hb (owns_below hO hb) hT hg hr hvs hc hfr h1).set hb5 hTS⟩,block_set hb5 v'⟩
 ·exact ((hK.trans (KeptS.of_below hb)).trans (KeptS.of_grown hg (fun g e => .inr (hO.lt g e).1))).set (.inl rfl)
 ·rw [List.flatten_append];refine owns_set ?_ hb5 hTC
  simpa using hown
structure ClFr (w : World) (d : Ad) (c : Cr) (S : Nat → Prop) : Prop where
 n : ROwn w d.a1 d.l1 d.c1 7 99 c.n S
 k : ROwn w d.a2 d.l2 d.c2 4 57 c.k S
 v : ROwn w d.a3 d.l3 d.c3 8 100 c.v S
 x : ROwn w d.a4 d.l4 d.c4 5 55 c.x S
 p : ROwn w d.a5 d.l5 d.c5 6 102 c.p S
def EmF (B : Nat) (T : TypeId) : Fact:=fun v w => ∃ b,v = .slice (some ⟨b,0,none⟩) 0 0 ∧ B ≤ b ∧ w.heap[b]? = some (.cells #[] T (0,0))
theorem EmF.mono (B : Nat) (T : TypeId) : Fact.Mono (EmF B T):=by
 rintro v w w' ⟨b,h1,h2,h3⟩ hb;exact ⟨b,h1,h2,(hb.block _ (lt_of_some h3)).trans h3⟩
def RwF (B len m : Nat) (T : TypeId) (rs : List (List Fv)) : Fact:=fun v w => ∃ a c,v = .slice a len c ∧ ROwn w a len c m T rs (fun k => B ≤ k)
theorem RwF.mono (B len m : Nat) (T : TypeId) (rs : List (List Fv)) : Fact.Mono (RwF B len m T rs):=by
 rintro v w w' ⟨a,c,h1,h2⟩ hb;exact ⟨a,c,h1,h2.below hb⟩
def CpF (B l2 l4 : Nat) (c : Cl) : Fact:=fun v w => ∃ a2 c2 a4 c4,v = .agg #[.slice none 0 0,.slice a2 l2 c2,.slice none 0 0,.slice a4 l4 c4,.slice none 0 0,.int .i64 c.now] ∧ ROwn w a2 l2 c2 4 57 (c.ks.map kdF) (fun k => B ≤ k) ∧ ROwn w a4 l4 c4 5 55 (c.xs.map xdF) (fun k => B ≤ k)
theorem CpF.mono (B l2 l4 : Nat) (c : Cl) : Fact.Mono (CpF B l2 l4 c):=by
 rintro v w w' ⟨a2,c2,a4,c4,h1,h2,h3⟩ hb;exact ⟨a2,c2,a4,c4,h1,h2.below hb,h3.below hb⟩
def FrF (B : Nat) : Fact:=fun v w => ∃ b,v = .pointer (some ⟨b,0,none⟩) ∧ B ≤ b ∧ w.heap[b]? = some (.cells #[.slice none 0 0,.slice none 0 0,.slice none 0 0,.slice none 0 0,.slice none 0 0,.int .i64 0] 36 (0,0))
theorem FrF.mono (B : Nat) : Fact.Mono (FrF B):=by
 rintro v w w' ⟨b,h1,h2,h3⟩ hb;exact ⟨b,h1,h2,(hb.block _ (lt_of_some h3)).trans h3⟩

def Rv (vb : Option Nat) (sp : Tmp) : Gi.Rs:=fun s w w' => match s with
 | none => w.grownBy w' vb
 | some t => if t = sp then w.grownBy w' vb else Below w.heap.size w w'
theorem grown_of_below {w w' : World} (vb : Option Nat) (h : Below w.heap.size w w') : w.grownBy w' vb:=⟨h.os,h.tape,h.output,h.size,fun k hk _ => h.block k hk⟩
theorem Rv.below {vb : Option Nat} {sp : Tmp} {s : Option Tmp} {w w' : World} (h : Rv vb sp s w w') (h1 : ¬ s = none) (h2 : ¬ s = some sp) : Below w.heap.size w w':=by
 cases s with
 | none => exact absurd rfl h1
 | some t =>
  simp only [Rv] at h;rw [if_neg (fun e => h2 (by rw [e]))] at h;exact h
theorem Rv.rel (vb : Option Nat) (sp : Tmp) : Gi.Rel (Rv vb sp) sp:=by
 refine ⟨fun w => grown_of_below vb (Below.refl _ _),fun {a b c} h k => ?_,fun h => World.grownBy.size h,fun w => grown_of_below vb (Below.refl _ _).drew,fun s {a b} h => ?_,fun s {a b} h1 h2 h => Rv.below h h1 h2⟩
 ·have h : World.grownBy a b vb:=h;have k : World.grownBy b c vb:=k;exact ⟨k.os.trans h.os,k.tape.trans h.tape,k.output.trans h.output,Nat.le_trans h.size k.size,fun i hi hn => (k.block i (Nat.lt_of_lt_of_le hi h.size) hn).trans (h.block i hi hn)⟩
 ·cases s with
  | none => exact h
  | some t =>
   show World.grownBy a b vb
   simp only [Rv] at h
   split at h
   ·exact h
   ·exact grown_of_below vb h
theorem Rv.other {vb : Option Nat} {sp t : Tmp} {w w' : World} (ht : ¬ t = sp) (h : Below w.heap.size w w') : Rv vb sp (some t) w w':=by
 show (if t = sp then w.grownBy w' vb else Below w.heap.size w w')
 rw [if_neg ht];exact h
theorem Rv.this {vb : Option Nat} {sp : Tmp} {w w' : World} (h : w.grownBy w' vb) : Rv vb sp (some sp) w w':=by
 show (if sp = sp then w.grownBy w' vb else Below w.heap.size w w')
 rw [if_pos rfl];exact h
theorem news_blk {w : World} {b : Nat} {vs : List Value} {T : TypeId} (h : w.heap[b]? = some (.cells vs.toArray T (0,0))) : ∀ (j : Nat) u,vs[j]? = some u → w.cell? ((⟨b,0,none⟩ : Addr).add j) = some u:=by
 intro j u hu;rw [Addr.add_lit,cellK h,Nat.zero_add]
 simpa using hu
def TvF (B : Nat) (x : Vd) : Gi.Fact:=fun u w _ _ => ∃ a l c,u = .agg #[.string x.n,.int .i64 x.c,.string x.z,.string x.k,.bool x.x,.string x.m,.bool x.y,.slice a l c] ∧ TOwn w a l c x.zs (fun k => B ≤ k)
def BsF (B : Nat) (x : Vd) : Gi.Fact:=fun u w _ _ => ∃ b a l c,u = .slice (some ⟨b,0,none⟩) 1 1 ∧ B ≤ b ∧ w.heap[b]? = some (.cells #[.string x.n,.int .i64 x.c,.string x.z,.string x.k,.bool x.x,.string x.m,.bool x.y,.slice a l c] 100 (0,0)) ∧ TOwn w a l c x.zs (fun k => B ≤ k)
def ApF (B k : Nat) (rs : List (List Fv)) (vss : List (List Value)) : Gi.Fact:=fun u w _ _ => ∃ H' vs,w.ownsRow B 100 8 u (k + 1) (vss ++ [vs]).flatten ∧ VRecs w (fun k => B ≤ k) 8 rs (vss ++ [vs]) H'
theorem TvF.mono {vb : Option Nat} {sp : Tmp} {ex : Gi.Ex} {d : Option Tmp} {B : Nat} {x : Vd} (hv : ∀ g,vb = some g → g < B) : Gi.Fact.Mono (Rv vb sp) ex d (TvF B x):=by
 rintro s _ _ _ v w w' l h ⟨a,l,c,h1,h2⟩ hb;have hb : w.grownBy w' vb:=(Rv.rel vb sp).sub s hb;exact ⟨a,l,c,h1,h2.keep (fun k hk s => hb.block k hk (fun e => by have s1 : B ≤ k:=s;have:=hv k e.symm;omega)) (fun _ _ s => s)⟩
theorem BsF.mono {vb : Option Nat} {sp : Tmp} {ex : Gi.Ex} {d : Option Tmp} {B : Nat} {x : Vd} (hv : ∀ g,vb = some g → g < B) : Gi.Fact.Mono (Rv vb sp) ex d (BsF B x):=by
 rintro s _ _ _ v w w' l h ⟨b,a,l,c,h1,h2,h3,h4⟩ hb;have hb : w.grownBy w' vb:=(Rv.rel vb sp).sub s hb;exact ⟨b,a,l,c,h1,h2,(hb.block _ (lt_of_some h3) (fun e => by have:=hv b e.symm;omega)).trans h3,h4.keep (fun k hk s => hb.block k hk (fun e => by have s1 : B ≤ k:=s;have:=hv k e.symm;omega)) (fun _ _ s => s)⟩
theorem ApF.mono {vb : Option Nat} {sp : Tmp} {ex : Gi.Ex} {B k : Nat} {rs : List (List Fv)} {vss : List (List Value)} : Gi.Fact.Mono (Rv vb sp) ex (some sp) (ApF B k rs vss):=by
 rintro s h1 h2 _ v w w' l h ⟨H',vs,h3,h4⟩ hb;have hb:=Rv.below hb h1 h2;exact ⟨H',vs,owns_below h3 hb,h4.below hb⟩

theorem scopyC_any (d : Ad) (c : Cl) (w : World) (hr : ClRow w d c.raw) (hs : Sm c) :
  Calls Tryz.prog 22 #[.agg #[.slice d.a1 d.l1 d.c1,.slice d.a2 d.l2 d.c2,.slice d.a3 d.l3 d.c3,.slice d.a4 d.l4 d.c4,.slice d.a5 d.l5 d.c5,.int .i64 c.now]] w fun e w' => ∃ d',e = .returned (.agg #[.slice d'.a1 d'.l1 d'.c1,.slice d'.a2 d'.l2 d'.c2,.slice d'.a3 d'.l3 d'.c3,.slice d'.a4 d'.l4 d'.c4,.slice d'.a5 d'.l5 d'.c5,.int .i64 c.now]) ∧ ClFr w' d' c.raw (fun k => w.heap.size ≤ k) ∧ Below w.heap.size w w':=by
 obtain ⟨a1,l1,y1,a2,l2,y2,a3,l3,y3,a4,l4,y4,a5,l5,y5⟩:=d;dsimp only;have HR:=hidK hr
 have hl1 : c.ns.length = l1:=by simpa using (show (c.ns.map ndF).length = l1 from hr.n.1)
 have hm1 : l1 ≤ 9223372036854775807:=Nat.le_trans hr.n.2.1 hr.n.2.2.1
 have hl2 : c.ks.length = l2:=by simpa using (show (c.ks.map kdF).length = l2 from hr.k.1)
 have hm2 : l2 ≤ 9223372036854775807:=Nat.le_trans hr.k.2.1 hr.k.2.2.1
 have hl3 : c.vs.length = l3:=by simpa using (show (c.vs.map vdF).length = l3 from hr.v.1)
 have hm3 : l3 ≤ 9223372036854775807:=Nat.le_trans hr.v.2.1 hr.v.2.2.1
 have hl4 : c.xs.length = l4:=by simpa using (show (c.xs.map xdF).length = l4 from hr.x.1)
 have hm4 : l4 ≤ 9223372036854775807:=Nat.le_trans hr.x.2.1 hr.x.2.2.1
 have hl5 : c.ps.length = l5:=by simpa using (show (c.ps.map pdF).length = l5 from hr.p.1)
 have hm5 : l5 ≤ 9223372036854775807:=Nat.le_trans hr.p.2.1 hr.p.2.2.1;clear hr;have HS:=hidK hs;clear hs;obtain ⟨i2,hi2⟩:=Option.map_eq_some_iff.1 infokd;obtain ⟨i4,hi4⟩:=Option.map_eq_some_iff.1 infoxd;obtain ⟨i1,hi1⟩:=Option.map_eq_some_iff.1 infond;obtain ⟨i3,hi3⟩:=Option.map_eq_some_iff.1 infovd;obtain ⟨i5,hi5⟩:=Option.map_eq_some_iff.1 infopd;have HI1:=hidK hi1;have HI2:=hidK hi2;have HI3:=hidK hi3;have HI4:=hidK hi4;have HI5:=hidK hi5;clear hi1 hi2 hi3 hi4 hi5;obtain ⟨W,hW0⟩ : ∃ W,W = (w.alloc (.cells #[.slice a1 l1 y1,.slice a2 l2 y2,.slice a3 l3 y3,.slice a4 l4 y4,.slice a5 l5 y5,.int .i64 c.now] 36)).alloc (.cells #[.slice none 0 0,.slice none 0 0,.slice none 0 0,.slice none 0 0,.slice none 0 0,.int .i64 0] 36):=⟨_,rfl⟩
 have HB : Hid (Below w.heap.size w W):=by rw [hW0];exact below2 _ _ _
 have Bk : Hid (W.heap[w.heap.size]? = some (.cells #[.slice a1 l1 y1,.slice a2 l2 y2,.slice a3 l3 y3,.slice a4 l4 y4,.slice a5 l5 y5,.int .i64 c.now] 36 (0,0))):=by rw [hW0];exact heap2_0 _ _ _
 have Br : Hid (W.heap[w.heap.size + 1]? = some (.cells #[.slice none 0 0,.slice none 0 0,.slice none 0 0,.slice none 0 0,.slice none 0 0,.int .i64 0] 36 (0,0))):=by rw [hW0];exact heap2_1 _ _ _
 have hWs : W.heap.size = w.heap.size + 1 + 1:=by rw [hW0];simp
 go_enter Tryz.func22,Tryz.ntmps22
 go_wp2_with fail;rw [← hW0];clear hW0;rename_i K0 hK0;refine wp_region_grow_last (by kernel_rfl) rfl rfl (by kernel_rfl) ?_;refine Grow.step (EmF W.heap.size 57) rfl (EmF.mono _ _) ?_ ?_
 ·refine Obl.plain rfl ?_;intro ac wg K hsz hW hf hK;clear hsz;clear hf;go_simp;exact hK _ _ (below1 _ _) ⟨_,rfl,hW.size,Array.getElem?_push_size⟩
 refine' Grow.stepC _ rfl ?_ ?_;rotate_left 1
 ·refine Obl.plain rfl ?_;intro ac wg K hsz hW hf hK;clear hsz;have e1:=hf 1 (by decide)
  simp [slotFact,List.lookup] at e1
  clear hf;go_simp;refine hK _ _ (Below.refl _ _) ?_;with_reducible rfl
 refine' Grow.stepC _ rfl ?_ ?_;rotate_left 1
 ·refine Obl.plain rfl ?_;intro ac wg K hsz hW hf hK;clear hsz;have e10:=hf 10 (by decide)
  simp [slotFact,List.lookup] at e10
  clear hf;obtain ⟨k0,k1,k2,k3,k4,k5⟩:=cs6 ((hW.block _ (lt_of_some Bk.out)).trans Bk.out);go_simp;refine hK _ _ (Below.refl _ _) ?_;with_reducible rfl
 refine Grow.step (RwF W.heap.size l2 4 57 (c.ks.map kdF)) rfl (RwF.mono _ _ _ _ _) ?_ ?_
 ·refine Obl.plain rfl ?_;intro ac wg K hsz hW hf hK;clear hsz;have e9:=hf 9 (by decide)
  simp [slotFact,List.lookup] at e9
  have e11:=hf 11 (by decide)
  simp [slotFact,List.lookup] at e11
  clear hf;obtain ⟨b0,e9,hB0,hg0⟩:=e9
  have hz : i2.zero = some (.agg #[.string ⟨#[]⟩,.bool false,.bool false,.string ⟨#[]⟩]) ∧ i2.size = 4 ∧ i2.bytes = 40:=by have:=HI2.out.2;simp only [Prod.mk.injEq] at this;exact this
  refine wp_copy0 (.tmp 9) (.tmp 11) 31 57 rfl i2 (.agg #[.string ⟨#[]⟩,.bool false,.bool false,.string ⟨#[]⟩]) Tryz.underlying31 HI2.out.1 hz.1 hz.2.1 hz.2.2 rfl (by decide) (by decide) (by simpa [Act.eval] using e9) hg0 (by simpa [Act.eval] using e11) (HR.out.k.below (HB.out.trans (hW.mono HB.out.size))) (map_flat kd_flat _) (show l2 ≤ 8 by have:=HS.out.k;omega) (by decide) ?_;intro a' c' w' hR hb6;have hsw:=hW.size
  exact hK _ _ hb6 ⟨a',c',rfl,hR.into (fun k _ s => by show W.heap.size ≤ k;rcases s with rfl | s <;> omega)⟩
 refine Grow.step (EmF W.heap.size 55) rfl (EmF.mono _ _) ?_ ?_
 ·refine Obl.plain rfl ?_;intro ac wg K hsz hW hf hK;clear hsz;clear hf;go_simp;exact hK _ _ (below1 _ _) ⟨_,rfl,hW.size,Array.getElem?_push_size⟩
 refine' Grow.stepC _ rfl ?_ ?_;rotate_left 1
 ·refine Obl.plain rfl ?_;intro ac wg K hsz hW hf hK;clear hsz;have e1:=hf 1 (by decide)
  simp [slotFact,List.lookup] at e1
  clear hf;go_simp;refine hK _ _ (Below.refl _ _) ?_;with_reducible rfl
 refine' Grow.stepC _ rfl ?_ ?_;rotate_left 1
 ·refine Obl.plain rfl ?_;intro ac wg K hsz hW hf hK;clear hsz;have e14:=hf 14 (by decide)
  simp [slotFact,List.lookup] at e14
  clear hf;obtain ⟨k0,k1,k2,k3,k4,k5⟩:=cs6 ((hW.block _ (lt_of_some Bk.out)).trans Bk.out);go_simp;refine hK _ _ (Below.refl _ _) ?_;with_reducible rfl
 refine Grow.step (RwF W.heap.size l4 5 55 (c.xs.map xdF)) rfl (RwF.mono _ _ _ _ _) ?_ ?_
 ·refine Obl.plain rfl ?_;intro ac wg K hsz hW hf hK;clear hsz;have e13:=hf 13 (by decide)
  simp [slotFact,List.lookup] at e13
  have e15:=hf 15 (by decide)
  simp [slotFact,List.lookup] at e15
  clear hf;obtain ⟨b0,e13,hB0,hg0⟩:=e13
  have hz : i4.zero = some (.agg #[.string ⟨#[]⟩,.int .i64 0,.string ⟨#[]⟩,.bool false,.string ⟨#[]⟩]) ∧ i4.size = 5 ∧ i4.bytes = 64:=by have:=HI4.out.2;simp only [Prod.mk.injEq] at this;exact this
  refine wp_copy0 (.tmp 13) (.tmp 15) 33 55 rfl i4 (.agg #[.string ⟨#[]⟩,.int .i64 0,.string ⟨#[]⟩,.bool false,.string ⟨#[]⟩]) Tryz.underlying33 HI4.out.1 hz.1 hz.2.1 hz.2.2 rfl (by decide) (by decide) (by simpa [Act.eval] using e13) hg0 (by simpa [Act.eval] using e15) (HR.out.x.below (HB.out.trans (hW.mono HB.out.size))) (map_flat xd_flat _) (show l4 ≤ 8 by have:=HS.out.x;omega) (by decide) ?_;intro a' c' w' hR hb6;have hsw:=hW.size
  exact hK _ _ hb6 ⟨a',c',rfl,hR.into (fun k _ s => by show W.heap.size ≤ k;rcases s with rfl | s <;> omega)⟩
 refine' Grow.stepC _ rfl ?_ ?_;rotate_left 1
 ·refine Obl.plain rfl ?_;intro ac wg K hsz hW hf hK;clear hsz;have e1:=hf 1 (by decide)
  simp [slotFact,List.lookup] at e1
  clear hf;go_simp;refine hK _ _ (Below.refl _ _) ?_;with_reducible rfl
 refine' Grow.stepC _ rfl ?_ ?_;rotate_left 1
 ·refine Obl.plain rfl ?_;intro ac wg K hsz hW hf hK;clear hsz;have e17:=hf 17 (by decide)
  simp [slotFact,List.lookup] at e17
  clear hf;obtain ⟨k0,k1,k2,k3,k4,k5⟩:=cs6 ((hW.block _ (lt_of_some Bk.out)).trans Bk.out);go_simp;refine hK _ _ (Below.refl _ _) ?_;with_reducible rfl
 refine Grow.step (CpF W.heap.size l2 l4 c) rfl (CpF.mono _ _ _ _) ?_ ?_
 ·refine Obl.plain rfl ?_;intro ac wg K hsz hW hf hK;clear hsz;have e12:=hf 12 (by decide)
  simp [slotFact,List.lookup] at e12
  have e16:=hf 16 (by decide)
  simp [slotFact,List.lookup] at e16
  have e18:=hf 18 (by decide)
  simp [slotFact,List.lookup] at e18
  clear hf;obtain ⟨p2,q2,e12,h12⟩:=e12;obtain ⟨p4,q4,e16,h16⟩:=e16;have H12:=hidK h12;have H16:=hidK h16;clear h12 h16;go_simp;exact hK _ _ (Below.refl _ _) ⟨p2,q2,p4,q4,rfl,H12.out,H16.out⟩
 refine Grow.step (FrF W.heap.size) rfl (FrF.mono _) ?_ ?_
 ·refine Obl.plain rfl ?_;intro ac wg K hsz hW hf hK;clear hsz;clear hf;go_simp;exact hK _ _ (below1 _ _) ⟨_,rfl,hW.size,Array.getElem?_push_size⟩
 refine Grow.done ?_;intro q wz hW hf;simp only [List.forall_mem_cons] at hf;obtain ⟨⟨b3,h3,hb3,hg3⟩,⟨p2,q2,p4,q4,h19,hR2,hR4⟩,-⟩:=hf;obtain ⟨t0,t1,t2,t3,t4,t5⟩:=cs6 hg3;have f0:=froK hg3 0;have f1:=froK hg3 1;have f2:=froK hg3 2;have f3:=froK hg3 3;have f4:=froK hg3 4;have f5:=froK hg3 5;have BoX:=hidK (put6 (v0:=.slice none 0 0) (v1:=.slice p2 l2 q2) (v2:=.slice none 0 0) (v3:=.slice p4 l4 q4) (v4:=.slice none 0 0) (v5:=.int .i64 c.now) hg3);have HWX : Hid (Below W.heap.size W ((((((wz.setCell ⟨b3,0,none⟩ (.slice none 0 0)).setCell ⟨b3,1,none⟩ (.slice p2 l2 q2)).setCell ⟨b3,2,none⟩ (.slice none 0 0)).setCell ⟨b3,3,none⟩ (.slice p4 l4 q4)).setCell ⟨b3,4,none⟩ (.slice none 0 0)).setCell ⟨b3,5,none⟩ (.int .i64 c.now))):=set_below hb3 (set_below hb3 (set_below hb3 (set_below hb3 (set_below hb3 (set_below hb3 hW)))));have R2 : Hid (ROwn ((((((wz.setCell ⟨b3,0,none⟩ (.slice none 0 0)).setCell ⟨b3,1,none⟩ (.slice p2 l2 q2)).setCell ⟨b3,2,none⟩ (.slice none 0 0)).setCell ⟨b3,3,none⟩ (.slice p4 l4 q4)).setCell ⟨b3,4,none⟩ (.slice none 0 0)).setCell ⟨b3,5,none⟩ (.int .i64 c.now)) p2 l2 q2 4 57 (c.ks.map kdF) (fun k => W.heap.size ≤ k ∧ ¬ k = b3)):=(hR2.away hg3 (by decide) (by decide)).keep (fun k hk s => put6_ne s.2) (fun k _ s => s);have R4 : Hid (ROwn ((((((wz.setCell ⟨b3,0,none⟩ (.slice none 0 0)).setCell ⟨b3,1,none⟩ (.slice p2 l2 q2)).setCell ⟨b3,2,none⟩ (.slice none 0 0)).setCell ⟨b3,3,none⟩ (.slice p4 l4 q4)).setCell ⟨b3,4,none⟩ (.slice none 0 0)).setCell ⟨b3,5,none⟩ (.int .i64 c.now)) p4 l4 q4 5 55 (c.xs.map xdF) (fun k => W.heap.size ≤ k ∧ ¬ k = b3)):=(hR4.away hg3 (by decide) (by decide)).keep (fun k hk s => put6_ne s.2) (fun k _ s => s);clear hg3 hR2 hR4 hW;intro K hK;rw [if_pos (by rfl)];simp only [putsAll,List.foldr,Act.put,List.setIfInBounds_toArray,List.set_cons_zero,List.set_cons_succ,h3,h19];simp only [List.getLast];go_simp;refine hK _ _ ?_
 refine hK0 _ _ ?_;clear hK hK0 K K0
 generalize ((((((wz.setCell ⟨b3,0,none⟩ (.slice none 0 0)).setCell ⟨b3,1,none⟩ (.slice p2 l2 q2)).setCell ⟨b3,2,none⟩ (.slice none 0 0)).setCell ⟨b3,3,none⟩ (.slice p4 l4 q4)).setCell ⟨b3,4,none⟩ (.slice none 0 0)).setCell ⟨b3,5,none⟩ (.int .i64 c.now)) = X at BoX HWX R2 R4 ⊢
 clear t0 t1 t2 t3 t4 t5 f0 f1 f2 f3 f4 f5;have HBX:=hidK (HB.out.trans (HWX.out.mono HB.out.size));replace Bk:=hidK ((HWX.out.block _ (lt_of_some Bk.out)).trans Bk.out);replace Br:=hidK ((HWX.out.block _ (lt_of_some Br.out)).trans Br.out);have hb3X : b3 < X.heap.size:=lt_of_some BoX.out;clear HB
 go_wp2
 go_loopw [4] (fun vi wr => ∃ (k : Nat) (vss : List (List Value)) (H : Nat → Nat → Nat) (v : Value),k ≤ l1 ∧ vi = .int .i64 k ∧ Hid (KeptS (Cps b3 X) X wr) ∧ Hid (wr.ownsRow X.heap.size 99 7 v k vss.flatten) ∧ Hid (VRecs wr (fun k => X.heap.size ≤ k) 7 ((c.ns.take k).map ndF) vss H) ∧ Hid (wr.heap[b3]? = some (.cells #[v,.slice p2 l2 q2,.slice none 0 0,.slice p4 l4 q4,.slice none 0 0,.int .i64 c.now] 36 (0,0)))) (fun vi _ => l1 - (intOf vi).toNat)
 case atStart => exact ⟨0,[],fun _ _ => 0,.slice none 0 0,by omega,rfl,KeptS.refl _ _,World.ownsRow_nil _ _ _ _,VRecs.nil _ _ _ _,BoX⟩
 case round =>
  obtain ⟨k,vss,H,v,hk,rfl,HK,HO,HV,Bo⟩:=hrel;have hXs:=HBX.out.size
  have HBW:=hidK (HBX.out.trans (HK.out.low (X:=w.heap.size) hXs (fun k s => by rcases s with rfl | s <;> omega)))
  have BkR:=hidK ((HK.out.block w.heap.size (by omega) (fun s => by rcases s with s | s <;> omega)).trans Bk.out)
  have hKs:=HK.out.size
  by_cases hlt : k < l1
  ·obtain ⟨b,o,x,rfl,hb0,hx,hat⟩:=nd_at HR.out.n hlt;obtain ⟨va,vl,vc,hvr,z0,z1,c0,c1,c2,c3,c4,c5,c6⟩:=nd_cells hat
   have hz8 : vl ≤ 8001:=by have h1:=hvr.1;have h2:=HS.out.ns k x hx;omega
   have HX:=hidK hx;have HT:=hidK hvr;have HZz0:=hidK z0;have HZz1:=hidK z1;clear hat hx hvr z0 z1;replace c0:=(cell_below HBW.out hb0).trans c0;replace c1:=(cell_below HBW.out hb0).trans c1;replace c2:=(cell_below HBW.out hb0).trans c2;replace c3:=(cell_below HBW.out hb0).trans c3;replace c4:=(cell_below HBW.out hb0).trans c4;replace c5:=(cell_below HBW.out hb0).trans c5;replace c6:=(cell_below HBW.out hb0).trans c6;have hbr : b < wr.heap.size:=Nat.lt_of_lt_of_le hb0 HBW.out.size;have hkr:=lt_of_some BkR.out;have hor:=lt_of_some Bo.out
   have hz : i1.zero = some (.agg #[.string ⟨#[]⟩,.string ⟨#[]⟩,.int .i64 0,.int .i64 0,.int .i64 0,.bool false,.slice none 0 0]) ∧ i1.size = 7 ∧ i1.bytes = 88:=by have:=HI1.out.2;simp only [Prod.mk.injEq] at this;exact this
   obtain ⟨k0,k1,k2,k3,k4,k5⟩:=cs6 BkR.out
   go_wp2_with (first | (at_builtin;refine wpList_texts rfl _ _ rfl (wr.heap.size + 1) rfl (heap2_1 _ _ _) va vl vc rfl x.zs (HT.out.below (HBW.out.trans ((below2 _ _ _).mono HBW.out.size))) hz8 ?_))
   intro a' l' c' w2 hT2 hb2;obtain ⟨hn2,-,hbx⟩:=slots2n hb2;obtain ⟨g,hg⟩:=hT2.fr
   have hs2 : wr.heap.size + 1 < w2.heap.size:=by have:=hb2.size;simp at this;omega
   have hsl : ∀ k,(k = wr.heap.size + 1 ∨ wr.heap.size + 1 + 1 ≤ k) → wr.heap.size + 1 ≤ k:=fun k s => by omega
   have hb4 : Below wr.heap.size wr ((w2.setCell ⟨wr.heap.size,6,none⟩ (.slice a' l' c')).alloc (.cells #[.string x.n,.string x.z,.int .i64 x.c,.int .i64 x.s,.int .i64 x.u,.bool x.d,.slice a' l' c'] 99)):=(set_below (Nat.le_refl _) hbx).alloc (by simp [World.setCell];omega) _;have HF4 : Hid (LFr ((w2.setCell ⟨wr.heap.size,6,none⟩ (.slice a' l' c')).alloc (.cells #[.string x.n,.string x.z,.int .i64 x.c,.int .i64 x.s,.int .i64 x.u,.bool x.d,.slice a' l' c'] 99)) g (fun k => X.heap.size ≤ k) x.zs (.slice a' l' c')):=hg.keep (fun cu _ q => (Below.heap_alloc _ _ _ (by simp [World.setCell];exact lt_of_some q)).trans (Below.heap_setCell _ _ _ _ (fun e => by subst e;rw [hn2] at q;cases q))) (fun _ s => by have:=hsl _ s;show X.heap.size ≤ g;omega)
   have HG : Hid (∀ zs : List ByteArray,x.zs = zs → zs ≠ [] → wr.heap.size ≤ g):=fun zs e hz => by subst e;have:=hsl _ (hg.lt hz).1;omega
   have HB4:=hidK hb4;have HO4:=hidK (owns_below HO.out hb4);obtain ⟨n0,n1,n2,n3,n4,n5,n6⟩:=cs7 hn2;have fn0:=froK hn2 0;have fn1:=froK hn2 1;have fn2:=froK hn2 2;have fn3:=froK hn2 3;have fn4:=froK hn2 4;have fn5:=froK hn2 5;have fn6:=froK hn2 6;have bo2:=(hbx.block _ hor).trans Bo.out;obtain ⟨o0,o1,o2,o3,o4,o5⟩:=cs6 bo2;have hor2 : b3 < w2.heap.size:=lt_of_some bo2
   have hne3 : ¬ b3 = wr.heap.size:=by omega
   clear hn2 hbx hT2 hg hb2 hsl hb4 bo2 k0 k1 k2 k3 k4 k5 c0 c1 c2 c3 c4 c5 c6
   go_wp2_with (first | (at_builtin;refine wpList_append_own _ rfl _ _ 30 rfl X.heap.size 99 i1 (.agg #[.string ⟨#[]⟩,.string ⟨#[]⟩,.int .i64 0,.int .i64 0,.int .i64 0,.bool false,.slice none 0 0]) 7 88 Tryz.underlying30 HI1.out.1 hz.1 hz.2.1 hz.2.2 rfl (by decide) _ _ _ rfl HO4.out ⟨w2.heap.size,0,none⟩ 1 1 [.string x.n,.string x.z,.int .i64 x.c,.int .i64 x.s,.int .i64 x.u,.bool x.d,.slice a' l' c'] rfl rfl ?c1 ?c2 ?c3 ?c4 ?c5 ?_))
   case c1 => exact news_alloc_at _ _ (by simp [World.setCell]) _ _
   case c2 => intro u hu;simp only [List.mem_cons,List.not_mem_nil,or_false] at hu;rcases hu with rfl | rfl | rfl | rfl | rfl | rfl | rfl <;> rfl
   case c3 => unfold maxLen;have:=HS.out.n;omega
   case c4 => have:=HS.out.n;omega
   case c5 => simp [World.setCell];omega
   rintro v' w5 hown5 hgrow -;obtain ⟨v1',v2',v3',rfl⟩:=owns_slice hown5;clear n0 fn0 n1 fn1 n2 fn2 n3 fn3 n4 fn4 n5 fn5 n6 fn6 o0 o1 o2 o3 o4 o5;have bo5:=cp_blk HO.out Bo.out hb3X HB4.out hgrow;obtain ⟨hs1,hs2',⟨H',hs3⟩,hs4⟩:=cp_step (f:=0) (r:=ndF x) (vs:=[.string x.n,.string x.z,.int .i64 x.c,.int .i64 x.s,.int .i64 x.u,.bool x.d,.slice a' l' c']) (hh:=g) HK.out HO.out HV.out Bo.out hb3X HB4.out hown5 hgrow (by decide) (by decide) (by decide) rfl rfl (nd_fr HZz0.out HZz1.out HF4.out) (fun i zs hi hz => HG.out zs (nd_l hi).2.symm hz) (fun i i' zs zs' h1 _ h2 _ => (nd_l h1).1.trans (nd_l h2).1.symm)
   have e1 : (c.ns.take (k + 1)).map ndF = (c.ns.take k).map ndF ++ [ndF x]:=by rw [List.take_add_one,HX.out];simp
   rw [← e1] at hs3;have HS1:=hidK hs1;have HS2:=hidK hs2';have HS3:=hidK hs3;have HS4:=hidK hs4;obtain ⟨o0,o1,o2,o3,o4,o5⟩:=cs6 bo5;have fo0:=froK bo5 0;have fo1:=froK bo5 1;have fo2:=froK bo5 2;have fo3:=froK bo5 3;have fo4:=froK bo5 4;have fo5:=froK bo5 5;clear hs1 hs2' hs3 hs4 bo5 hown5 hgrow e1
   go_wp2
   exact ⟨⟨k + 1,_,H',_,by omega,by go_num,HS1,HS2,HS3,HS4⟩,by simp [intOf];omega⟩
  ·have hkl : k = l1:=by omega
   have h5:=HV.out;rw [List.take_of_length_le (by omega)] at h5;obtain ⟨p1,q1,hv,hR⟩:=h5.own HO.out (by simp;omega) (by decide) (fun g hg => (HO.out.lt g hg).1)
   have hl5 : (c.ns.map ndF).length = l1:=by simpa using hl1
   rw [hl5] at hv hR;subst hv;have R1:=hidK (hR.away Bo.out (by decide) (by decide))
   replace R2:=hidK (R2.out.keep (fun k hk s => HK.out.block k hk (fun q9 => by rcases q9 with q9 | q9;exact s.2 q9;omega)) (fun _ _ s => s))
   replace R4:=hidK (R4.out.keep (fun k hk s => HK.out.block k hk (fun q9 => by rcases q9 with q9 | q9;exact s.2 q9;omega)) (fun _ _ s => s))
   replace Br:=hidK ((HK.out.block (w.heap.size + 1) (by omega) (fun s => by rcases s with s | s <;> omega)).trans Br.out)
   replace Bk:=BkR;replace BoX:=Bo;replace HBX:=HBW;have hb3X1 : b3 < wr.heap.size:=lt_of_some BoX.out;clear BkR Bo HBW h5 hR HV HO HK hl5 hkl hk hKs hXs
   generalize wr = X1 at *
   obtain ⟨k0,k1,k2,k3,k4,k5⟩:=cs6 Bk.out
   go_wp2
   clear k0 k1 k2 k3 k4 k5 hlt
   go_loopw [6] (fun vi wr => ∃ (k : Nat) (vss : List (List Value)) (H : Nat → Nat → Nat) (v : Value),k ≤ l3 ∧ vi = .int .i64 k ∧ Hid (KeptS (Cps b3 X1) X1 wr) ∧ Hid (wr.ownsRow X1.heap.size 100 8 v k vss.flatten) ∧ Hid (VRecs wr (fun k => X1.heap.size ≤ k) 8 ((c.vs.take k).map vdF) vss H) ∧ Hid (wr.heap[b3]? = some (.cells #[.slice p1 l1 q1,.slice p2 l2 q2,v,.slice p4 l4 q4,.slice none 0 0,.int .i64 c.now] 36 (0,0)))) (fun vi _ => l3 - (intOf vi).toNat)
   case atStart => exact ⟨0,[],fun _ _ => 0,.slice none 0 0,by omega,rfl,KeptS.refl _ _,World.ownsRow_nil _ _ _ _,VRecs.nil _ _ _ _,BoX⟩
   case round =>
    obtain ⟨k,vss,H,v,hk,rfl,HK,HO,HV,Bo⟩:=hrel;have hXs:=HBX.out.size
    have HBW:=hidK (HBX.out.trans (HK.out.low (X:=w.heap.size) hXs (fun k s => by rcases s with rfl | s <;> omega)))
    have BkR:=hidK ((HK.out.block w.heap.size (by omega) (fun s => by rcases s with s | s <;> omega)).trans Bk.out)
    have hKs:=HK.out.size
    by_cases hlt : k < l3
    ·obtain ⟨b,o,x,rfl,hb0,hx,hat⟩:=vd_at HR.out.v hlt;obtain ⟨va,vl,vc,hvr,z0,z2,z3,z5,c0,c1,c2,c3,c4,c5,c6,c7⟩:=vd_cells hat
     have hz8 : vl ≤ 8001:=by have h1:=hvr.1;have h2:=HS.out.vs k x hx;omega
     have HX:=hidK hx;have HT:=hidK hvr;have HZz0:=hidK z0;have HZz2:=hidK z2;have HZz3:=hidK z3;have HZz5:=hidK z5;clear hat hx hvr z0 z2 z3 z5;replace c0:=(cell_below HBW.out hb0).trans c0;replace c1:=(cell_below HBW.out hb0).trans c1;replace c2:=(cell_below HBW.out hb0).trans c2;replace c3:=(cell_below HBW.out hb0).trans c3;replace c4:=(cell_below HBW.out hb0).trans c4;replace c5:=(cell_below HBW.out hb0).trans c5;replace c6:=(cell_below HBW.out hb0).trans c6;replace c7:=(cell_below HBW.out hb0).trans c7;have hbr : b < wr.heap.size:=Nat.lt_of_lt_of_le hb0 HBW.out.size;have hkr:=lt_of_some BkR.out;have hor:=lt_of_some Bo.out
     have hz : i3.zero = some (.agg #[.string ⟨#[]⟩,.int .i64 0,.string ⟨#[]⟩,.string ⟨#[]⟩,.bool false,.string ⟨#[]⟩,.bool false,.slice none 0 0]) ∧ i3.size = 8 ∧ i3.bytes = 112:=by have:=HI3.out.2;simp only [Prod.mk.injEq] at this;exact this
     obtain ⟨k0,k1,k2,k3,k4,k5⟩:=cs6 BkR.out;have hvb : ∀ g,v.ownBlock = some g → g < wr.heap.size:=fun g hg => (HO.out.lt g hg).2;have hb0w : b < w.heap.size:=hb0;go_wp2_with fail;clear k0 k1 k2 k3 k4 k5;rename_i K0 hK0;refine Gi.wp_region_grow_last (R:=Rv v.ownBlock 59) (ex:=fun _ => none) (Rv.rel _ _) (by kernel_rfl) rfl rfl (by kernel_rfl) (by kernel_rfl) ?_;refine' Gi.Grow.stepC _ rfl ?_ ?_;rotate_left 1
     ·refine Gi.Obl.plain rfl ?_;intro ac wg K lo hi hsz hW hpr hf hap hK;clear hsz hap hpr;have hW : wr.grownBy wg v.ownBlock:=hW;have e3:=hf 3 (by decide)
      simp [Gi.slotFact,List.lookup] at e3
      clear hf;go_simp;refine hK _ _ (Rv.other (by decide) (Below.refl _ _)) ?_;with_reducible rfl
     refine' Gi.Grow.stepC _ rfl ?_ ?_;rotate_left 1
     ·refine Gi.Obl.plain rfl ?_;intro ac wg K lo hi hsz hW hpr hf hap hK;clear hsz hap hpr;have hW : wr.grownBy wg v.ownBlock:=hW;have e50:=hf 50 (by decide)
      simp [Gi.slotFact,List.lookup] at e50
      clear hf;obtain ⟨o0,o1,o2,o3,o4,o5⟩:=cs6 ((hW.block b3 hor (fun e => by have:=(HO.out.lt _ e.symm).1;omega)).trans Bo.out);go_simp;refine hK _ _ (Rv.other (by decide) (Below.refl _ _)) ?_;with_reducible rfl
     refine' Gi.Grow.stepC _ rfl ?_ ?_;rotate_left 1
     ·refine Gi.Obl.plain rfl ?_;intro ac wg K lo hi hsz hW hpr hf hap hK;clear hsz hap hpr;have hW : wr.grownBy wg v.ownBlock:=hW;have e1:=hf 1 (by decide)
      simp [Gi.slotFact,List.lookup] at e1
      clear hf;go_simp;refine hK _ _ (Rv.other (by decide) (Below.refl _ _)) ?_;with_reducible rfl
     refine' Gi.Grow.stepC _ rfl ?_ ?_;rotate_left 1
     ·refine Gi.Obl.plain rfl ?_;intro ac wg K lo hi hsz hW hpr hf hap hK;clear hsz hap hpr;have hW : wr.grownBy wg v.ownBlock:=hW;have e52:=hf 52 (by decide)
      simp [Gi.slotFact,List.lookup] at e52
      clear hf;obtain ⟨k0,k1,k2,k3,k4,k5⟩:=cs6 ((hW.block w.heap.size hkr (fun e => by have:=(HO.out.lt _ e.symm).1;omega)).trans BkR.out);go_simp;refine hK _ _ (Rv.other (by decide) (Below.refl _ _)) ?_;with_reducible rfl
     refine' Gi.Grow.stepC _ rfl ?_ ?_;rotate_left 1
     ·refine Gi.Obl.plain rfl ?_;intro ac wg K lo hi hsz hW hpr hf hap hK;clear hsz hap hpr;have hW : wr.grownBy wg v.ownBlock:=hW;have e6:=hf 6 (by decide)
      simp [Gi.slotFact,List.lookup] at e6
      clear hf;go_simp;refine hK _ _ (Rv.other (by decide) (Below.refl _ _)) ?_;with_reducible rfl
     refine' Gi.Grow.stepC _ rfl ?_ ?_;rotate_left 1
     ·refine Gi.Obl.plain rfl ?_;intro ac wg K lo hi hsz hW hpr hf hap hK;clear hsz hap hpr;have hW : wr.grownBy wg v.ownBlock:=hW;have e53:=hf 53 (by decide)
      simp [Gi.slotFact,List.lookup] at e53
      have e54:=hf 54 (by decide)
      simp [Gi.slotFact,List.lookup] at e54
      clear hf;go_simp;refine hK _ _ (Rv.other (by decide) (Below.refl _ _)) ?_;with_reducible rfl
     refine' Gi.Grow.stepC _ rfl ?_ ?_;rotate_left 1
     ·refine Gi.Obl.plain rfl ?_;intro ac wg K lo hi hsz hW hpr hf hap hK;clear hsz hap hpr;have hW : wr.grownBy wg v.ownBlock:=hW;have e55:=hf 55 (by decide)
      simp [Gi.slotFact,List.lookup] at e55
      clear hf;have c0g:=(World.cell?_of_block (hW.block b hbr (fun e => by have:=(HO.out.lt _ e.symm).1;omega))).trans c0;have c1g:=(World.cell?_of_block (hW.block b hbr (fun e => by have:=(HO.out.lt _ e.symm).1;omega))).trans c1;have c2g:=(World.cell?_of_block (hW.block b hbr (fun e => by have:=(HO.out.lt _ e.symm).1;omega))).trans c2;have c3g:=(World.cell?_of_block (hW.block b hbr (fun e => by have:=(HO.out.lt _ e.symm).1;omega))).trans c3;have c4g:=(World.cell?_of_block (hW.block b hbr (fun e => by have:=(HO.out.lt _ e.symm).1;omega))).trans c4;have c5g:=(World.cell?_of_block (hW.block b hbr (fun e => by have:=(HO.out.lt _ e.symm).1;omega))).trans c5;have c6g:=(World.cell?_of_block (hW.block b hbr (fun e => by have:=(HO.out.lt _ e.symm).1;omega))).trans c6;have c7g:=(World.cell?_of_block (hW.block b hbr (fun e => by have:=(HO.out.lt _ e.symm).1;omega))).trans c7;go_simp;refine hK _ _ (Rv.other (by decide) (Below.refl _ _)) ?_;with_reducible rfl
     refine Gi.Grow.step (TvF wr.heap.size x) rfl (TvF.mono hvb) ?_ ?_
     ·refine Gi.Obl.plain rfl ?_;intro ac wg K lo hi hsz hW hpr hf hap hK;clear hsz hap hpr;have hW : wr.grownBy wg v.ownBlock:=hW;have e56:=hf 56 (by decide)
      simp [Gi.slotFact,List.lookup] at e56
      clear hf;have hBg:=HBW.out.grown hW HBW.out.size (fun g hg => by have:=(HO.out.lt g hg).1;omega);go_simp;refine (Ap.scopy_any x.n x.c x.z x.k x.x x.m x.y va vl vc x.zs _ (HT.out.below hBg) hz8).mono ?_;rintro e w6 ⟨a',l',c',rfl,ho1,ho2,hb6⟩;have hws:=hW.size;exact hK _ _ (Rv.other (by decide) hb6) ⟨a',l',c',rfl,TOwn.into ⟨ho1,ho2⟩ (fun k _ s => Nat.le_trans hws s)⟩
     refine Gi.Grow.step (BsF wr.heap.size x) rfl (BsF.mono hvb) ?_ ?_
     ·refine Gi.Obl.plain rfl ?_;intro ac wg K lo hi hsz hW hpr hf hap hK;clear hsz hap hpr;have hW : wr.grownBy wg v.ownBlock:=hW;have e57:=hf 57 (by decide)
      simp [Gi.slotFact,List.lookup] at e57
      clear hf;obtain ⟨a',l',c',e57,ho⟩:=e57;have HO7:=hidK ho;clear ho;go_simp;exact hK _ _ (Rv.other (by decide) (below1 _ _)) ⟨_,a',l',c',rfl,hW.size,Array.getElem?_push_size,HO7.out.below (below1 _ _)⟩
     refine Gi.Grow.step (ApF X1.heap.size k ((c.vs.take (k + 1)).map vdF) vss) rfl (ApF.mono) ?_ ?_
     ·refine Gi.Obl.plain rfl ?_;intro ac wg K lo hi hsz hW hpr hf hap hK;clear hsz hap;have hW : wr.grownBy wg v.ownBlock:=hW;have e51:=hf 51 (by decide)
      simp [Gi.slotFact,List.lookup] at e51
      have e58:=hf 58 (by decide)
      simp [Gi.slotFact,List.lookup] at e58
      clear hf;have hbW : Below wr.heap.size wr wg:=hpr rfl;clear hpr;obtain ⟨b5,a',l',c',e58,hb5,hg5,ho5⟩:=e58;obtain ⟨g,hg⟩:=ho5.fr;have hws:=hW.size
      refine wp_append_own wg (.tmp 51) (.tmp 58) 32 rfl X1.heap.size 100 i3 (.agg #[.string ⟨#[]⟩,.int .i64 0,.string ⟨#[]⟩,.string ⟨#[]⟩,.bool false,.string ⟨#[]⟩,.bool false,.slice none 0 0]) 8 112 Tryz.underlying32 HI3.out.1 hz.1 hz.2.1 hz.2.2 rfl (by decide) v k vss.flatten (by simpa [Act.eval] using e51) (owns_below HO.out hbW) ⟨b5,0,none⟩ 1 1 [.string x.n,.int .i64 x.c,.string x.z,.string x.k,.bool x.x,.string x.m,.bool x.y,.slice a' l' c'] (by simpa [Act.eval] using e58) rfl (news_blk hg5) (by intro u hu;simp only [List.mem_cons,List.not_mem_nil,or_false] at hu;rcases hu with rfl | rfl | rfl | rfl | rfl | rfl | rfl | rfl <;> rfl) (by unfold maxLen;have:=HS.out.v;omega) (by have:=HS.out.v;omega) (by omega) ?_
      intro v' w' hown hgr _;have hV:=HV.out.app (r:=vdF x) (vs:=[.string x.n,.int .i64 x.c,.string x.z,.string x.k,.bool x.x,.string x.m,.bool x.y,.slice a' l' c']) (hh:=g) hbW (owns_below HO.out hbW) (by decide) hgr rfl rfl (vd_fr HZz0.out HZz2.out HZz3.out HZz5.out (hg.keep (S':=fun k => X1.heap.size ≤ k) (fun cu _ q => rfl) (fun _ s => by have s1 : wr.heap.size ≤ g:=s;show X1.heap.size ≤ g;omega))) (fun i zs hi hz => by obtain ⟨_,rfl⟩:=vd_l hi;exact (hg.lt hz).1) (fun i i' zs zs' h1 _ h2 _ => (vd_l h1).1.trans (vd_l h2).1.symm)
      have e1 : (c.vs.take (k + 1)).map vdF = (c.vs.take k).map vdF ++ [vdF x]:=by rw [List.take_add_one,HX.out];simp
      rw [← e1] at hV;exact hK _ _ (Rv.this hgr) ⟨_,[.string x.n,.int .i64 x.c,.string x.z,.string x.k,.bool x.x,.string x.m,.bool x.y,.slice a' l' c'],by rw [List.flatten_append];simpa using hown,hV⟩
     refine' Gi.Grow.stepC _ rfl ?_ ?_;rotate_left 1
     ·refine Gi.Obl.plain rfl ?_;intro ac wg K lo hi hsz hW hpr hf hap hK;clear hsz hap hpr;have hW : wr.grownBy wg v.ownBlock:=hW;have e3:=hf 3 (by decide)
      simp [Gi.slotFact,List.lookup] at e3
      clear hf;go_simp;refine hK _ _ (Rv.other (by decide) (Below.refl _ _)) ?_;with_reducible rfl
     refine Gi.Grow.done ?_;intro q wz lo hi hW hf hap;clear hap;have hW : wr.grownBy wz v.ownBlock:=hW;simp only [List.forall_mem_cons] at hf;obtain ⟨h60,h59,-⟩:=hf;have h60:=h60 (by first | trivial | rfl);obtain ⟨H',vs',hs2,hs3⟩:=h59 (by first | trivial | rfl);obtain ⟨v',hv'⟩ : ∃ v',q 59 = v':=⟨_,rfl⟩;rw [hv'] at hs2;obtain ⟨v1',v2',v3',rfl⟩:=owns_slice hs2;have bo5:=(hW.block b3 hor (fun e => by have:=(HO.out.lt _ e.symm).1;omega)).trans Bo.out;have HS1:=hidK (((HK.out.trans (KeptS.of_grown hW (fun g e => .inr (HO.out.lt g e).1))).set (i:=2) (v:=.slice v1' v2' v3') (.inl rfl)));have HS2:=hidK (owns_set (i:=2) (u:=.slice v1' v2' v3') hs2 bo5 (by decide));have HS3:=hidK (hs3.set (i:=2) (u:=.slice v1' v2' v3') bo5 (by decide));have HS4:=hidK (block_set (i:=2) bo5 (.slice v1' v2' v3'));obtain ⟨o0,o1,o2,o3,o4,o5⟩:=cs6 bo5;have fo0:=froK bo5 0;have fo1:=froK bo5 1;have fo2:=froK bo5 2;have fo3:=froK bo5 3;have fo4:=froK bo5 4;have fo5:=froK bo5 5;clear bo5 hs2 hs3 hW c0 c1 c2 c3 c4 c5 c6 c7;intro K hK;rw [if_pos (by rfl)];simp only [Gi.putsAll,List.foldr,Act.put,List.setIfInBounds_toArray,List.set_cons_zero,List.set_cons_succ,h60,hv'];simp only [List.getLast];go_simp;refine hK _ _ ?_;refine hK0 _ _ ?_;clear hK hK0 K K0
     go_wp2
     exact ⟨⟨k + 1,_,H',_,by omega,by go_num,HS1,HS2,HS3,HS4⟩,by simp [intOf];omega⟩
    ·have hkl : k = l3:=by omega
     have h5:=HV.out;rw [List.take_of_length_le (by omega)] at h5;obtain ⟨p3,q3,hv,hR⟩:=h5.own HO.out (by simp;omega) (by decide) (fun g hg => (HO.out.lt g hg).1)
     have hl5 : (c.vs.map vdF).length = l3:=by simpa using hl3
     rw [hl5] at hv hR;subst hv;have R3:=hidK (hR.away Bo.out (by decide) (by decide))
     replace R2:=hidK (R2.out.keep (fun k hk s => HK.out.block k hk (fun q9 => by rcases q9 with q9 | q9;exact s.2 q9;omega)) (fun _ _ s => s))
     replace R4:=hidK (R4.out.keep (fun k hk s => HK.out.block k hk (fun q9 => by rcases q9 with q9 | q9;exact s.2 q9;omega)) (fun _ _ s => s))
     replace R1:=hidK (R1.out.keep (fun k hk s => HK.out.block k hk (fun q9 => by rcases q9 with q9 | q9;exact s.2 q9;omega)) (fun _ _ s => s))
     replace Br:=hidK ((HK.out.block (w.heap.size + 1) (by omega) (fun s => by rcases s with s | s <;> omega)).trans Br.out)
     replace Bk:=BkR;replace BoX:=Bo;replace HBX:=HBW;have hb3X2 : b3 < wr.heap.size:=lt_of_some BoX.out;clear BkR Bo HBW h5 hR HV HO HK hl5 hkl hk hKs hXs
     generalize wr = X2 at *
     obtain ⟨k0,k1,k2,k3,k4,k5⟩:=cs6 Bk.out
     go_wp2
     clear k0 k1 k2 k3 k4 k5 hlt
     go_loopw [7] (fun vi wr => ∃ (k : Nat) (vss : List (List Value)) (H : Nat → Nat → Nat) (v : Value),k ≤ l5 ∧ vi = .int .i64 k ∧ Hid (KeptS (Cps b3 X2) X2 wr) ∧ Hid (wr.ownsRow X2.heap.size 102 6 v k vss.flatten) ∧ Hid (VRecs wr (fun k => X2.heap.size ≤ k) 6 ((c.ps.take k).map pdF) vss H) ∧ Hid (wr.heap[b3]? = some (.cells #[.slice p1 l1 q1,.slice p2 l2 q2,.slice p3 l3 q3,.slice p4 l4 q4,v,.int .i64 c.now] 36 (0,0)))) (fun vi _ => l5 - (intOf vi).toNat)
     case atStart => exact ⟨0,[],fun _ _ => 0,.slice none 0 0,by omega,rfl,KeptS.refl _ _,World.ownsRow_nil _ _ _ _,VRecs.nil _ _ _ _,BoX⟩
     case round =>
      obtain ⟨k,vss,H,v,hk,rfl,HK,HO,HV,Bo⟩:=hrel;have hXs:=HBX.out.size
      have HBW:=hidK (HBX.out.trans (HK.out.low (X:=w.heap.size) hXs (fun k s => by rcases s with rfl | s <;> omega)))
      have BkR:=hidK ((HK.out.block w.heap.size (by omega) (fun s => by rcases s with s | s <;> omega)).trans Bk.out)
      have hKs:=HK.out.size
      by_cases hlt : k < l5
      ·obtain ⟨b,o,x,rfl,hb0,hx,hat⟩:=pd_at HR.out.p hlt;obtain ⟨va,vl,vc,hvr,z0,z2,z4,c0,c1,c2,c3,c4,c5⟩:=pd_cells hat
       have hz8 : vl ≤ 8001:=by have h1:=hvr.1;have h2:=HS.out.ps k x hx;omega
       have HX:=hidK hx;have HT:=hidK hvr;have HZz0:=hidK z0;have HZz2:=hidK z2;have HZz4:=hidK z4;clear hat hx hvr z0 z2 z4;replace c0:=(cell_below HBW.out hb0).trans c0;replace c1:=(cell_below HBW.out hb0).trans c1;replace c2:=(cell_below HBW.out hb0).trans c2;replace c3:=(cell_below HBW.out hb0).trans c3;replace c4:=(cell_below HBW.out hb0).trans c4;replace c5:=(cell_below HBW.out hb0).trans c5;have hbr : b < wr.heap.size:=Nat.lt_of_lt_of_le hb0 HBW.out.size;have hkr:=lt_of_some BkR.out;have hor:=lt_of_some Bo.out
       have hz : i5.zero = some (.agg #[.string ⟨#[]⟩,.int .i64 0,.string ⟨#[]⟩,.slice none 0 0,.string ⟨#[]⟩,.int .i64 0]) ∧ i5.size = 6 ∧ i5.bytes = 88:=by have:=HI5.out.2;simp only [Prod.mk.injEq] at this;exact this
       obtain ⟨k0,k1,k2,k3,k4,k5⟩:=cs6 BkR.out
       go_wp2_with (first | (at_builtin;refine wpList_texts rfl _ _ rfl (wr.heap.size + 1) rfl (heap2_1 _ _ _) va vl vc rfl x.zs (HT.out.below (HBW.out.trans ((below2 _ _ _).mono HBW.out.size))) hz8 ?_))
       intro a' l' c' w2 hT2 hb2;obtain ⟨hn2,-,hbx⟩:=slots2n hb2;obtain ⟨g,hg⟩:=hT2.fr
       have hs2 : wr.heap.size + 1 < w2.heap.size:=by have:=hb2.size;simp at this;omega
       have hsl : ∀ k,(k = wr.heap.size + 1 ∨ wr.heap.size + 1 + 1 ≤ k) → wr.heap.size + 1 ≤ k:=fun k s => by omega
       have hb4 : Below wr.heap.size wr ((w2.setCell ⟨wr.heap.size,3,none⟩ (.slice a' l' c')).alloc (.cells #[.string x.n,.int .i64 x.c,.string x.z,.slice a' l' c',.string x.d,.int .i64 x.p] 102)):=(set_below (Nat.le_refl _) hbx).alloc (by simp [World.setCell];omega) _;have HF4 : Hid (LFr ((w2.setCell ⟨wr.heap.size,3,none⟩ (.slice a' l' c')).alloc (.cells #[.string x.n,.int .i64 x.c,.string x.z,.slice a' l' c',.string x.d,.int .i64 x.p] 102)) g (fun k => X2.heap.size ≤ k) x.zs (.slice a' l' c')):=hg.keep (fun cu _ q => (Below.heap_alloc _ _ _ (by simp [World.setCell];exact lt_of_some q)).trans (Below.heap_setCell _ _ _ _ (fun e => by subst e;rw [hn2] at q;cases q))) (fun _ s => by have:=hsl _ s;show X2.heap.size ≤ g;omega)
       have HG : Hid (∀ zs : List ByteArray,x.zs = zs → zs ≠ [] → wr.heap.size ≤ g):=fun zs e hz => by subst e;have:=hsl _ (hg.lt hz).1;omega
       have HB4:=hidK hb4;have HO4:=hidK (owns_below HO.out hb4);obtain ⟨n0,n1,n2,n3,n4,n5⟩:=cs6 hn2;have fn0:=froK hn2 0;have fn1:=froK hn2 1;have fn2:=froK hn2 2;have fn3:=froK hn2 3;have fn4:=froK hn2 4;have fn5:=froK hn2 5;have bo2:=(hbx.block _ hor).trans Bo.out;obtain ⟨o0,o1,o2,o3,o4,o5⟩:=cs6 bo2;have hor2 : b3 < w2.heap.size:=lt_of_some bo2
       have hne3 : ¬ b3 = wr.heap.size:=by omega
       clear hn2 hbx hT2 hg hb2 hsl hb4 bo2 k0 k1 k2 k3 k4 k5 c0 c1 c2 c3 c4 c5
       go_wp2_with (first | (at_builtin;refine wpList_append_own _ rfl _ _ 34 rfl X2.heap.size 102 i5 (.agg #[.string ⟨#[]⟩,.int .i64 0,.string ⟨#[]⟩,.slice none 0 0,.string ⟨#[]⟩,.int .i64 0]) 6 88 Tryz.underlying34 HI5.out.1 hz.1 hz.2.1 hz.2.2 rfl (by decide) _ _ _ rfl HO4.out ⟨w2.heap.size,0,none⟩ 1 1 [.string x.n,.int .i64 x.c,.string x.z,.slice a' l' c',.string x.d,.int .i64 x.p] rfl rfl ?c1 ?c2 ?c3 ?c4 ?c5 ?_))
       case c1 => exact news_alloc_at _ _ (by simp [World.setCell]) _ _
       case c2 => intro u hu;simp only [List.mem_cons,List.not_mem_nil,or_false] at hu;rcases hu with rfl | rfl | rfl | rfl | rfl | rfl <;> rfl
       case c3 => unfold maxLen;have:=HS.out.p;omega
       case c4 => have:=HS.out.p;omega
       case c5 => simp [World.setCell];omega
       rintro v' w5 hown5 hgrow -;obtain ⟨v1',v2',v3',rfl⟩:=owns_slice hown5;clear n0 fn0 n1 fn1 n2 fn2 n3 fn3 n4 fn4 n5 fn5 o0 o1 o2 o3 o4 o5;have bo5:=cp_blk HO.out Bo.out hb3X2 HB4.out hgrow;obtain ⟨hs1,hs2',⟨H',hs3⟩,hs4⟩:=cp_step (f:=4) (r:=pdF x) (vs:=[.string x.n,.int .i64 x.c,.string x.z,.slice a' l' c',.string x.d,.int .i64 x.p]) (hh:=g) HK.out HO.out HV.out Bo.out hb3X2 HB4.out hown5 hgrow (by decide) (by decide) (by decide) rfl rfl (pd_fr HZz0.out HZz2.out HZz4.out HF4.out) (fun i zs hi hz => HG.out zs (pd_l hi).2.symm hz) (fun i i' zs zs' h1 _ h2 _ => (pd_l h1).1.trans (pd_l h2).1.symm)
       have e1 : (c.ps.take (k + 1)).map pdF = (c.ps.take k).map pdF ++ [pdF x]:=by rw [List.take_add_one,HX.out];simp
       rw [← e1] at hs3;have HS1:=hidK hs1;have HS2:=hidK hs2';have HS3:=hidK hs3;have HS4:=hidK hs4;obtain ⟨o0,o1,o2,o3,o4,o5⟩:=cs6 bo5;have fo0:=froK bo5 0;have fo1:=froK bo5 1;have fo2:=froK bo5 2;have fo3:=froK bo5 3;have fo4:=froK bo5 4;have fo5:=froK bo5 5;clear hs1 hs2' hs3 hs4 bo5 hown5 hgrow e1
       go_wp2
       exact ⟨⟨k + 1,_,H',_,by omega,by go_num,HS1,HS2,HS3,HS4⟩,by simp [intOf];omega⟩
      ·have hkl : k = l5:=by omega
       have h5:=HV.out;rw [List.take_of_length_le (by omega)] at h5;obtain ⟨p5,q5,hv,hR⟩:=h5.own HO.out (by simp;omega) (by decide) (fun g hg => (HO.out.lt g hg).1)
       have hl5 : (c.ps.map pdF).length = l5:=by simpa using hl5
       rw [hl5] at hv hR;subst hv;have R5:=hidK (hR.away Bo.out (by decide) (by decide))
       replace R2:=hidK (R2.out.keep (fun k hk s => HK.out.block k hk (fun q9 => by rcases q9 with q9 | q9;exact s.2 q9;omega)) (fun _ _ s => s))
       replace R4:=hidK (R4.out.keep (fun k hk s => HK.out.block k hk (fun q9 => by rcases q9 with q9 | q9;exact s.2 q9;omega)) (fun _ _ s => s))
       replace R1:=hidK (R1.out.keep (fun k hk s => HK.out.block k hk (fun q9 => by rcases q9 with q9 | q9;exact s.2 q9;omega)) (fun _ _ s => s))
       replace R3:=hidK (R3.out.keep (fun k hk s => HK.out.block k hk (fun q9 => by rcases q9 with q9 | q9;exact s.2 q9;omega)) (fun _ _ s => s))
       replace Br:=hidK ((HK.out.block (w.heap.size + 1) (by omega) (fun s => by rcases s with s | s <;> omega)).trans Br.out)
       replace Bk:=BkR;replace BoX:=Bo;replace HBX:=HBW;have hb3X3 : b3 < wr.heap.size:=lt_of_some BoX.out;clear BkR Bo HBW h5 hR HV HO HK hl5 hkl hk hKs hXs
       generalize wr = X3 at *
       obtain ⟨k0,k1,k2,k3,k4,k5⟩:=cs6 Bk.out;obtain ⟨o0,o1,o2,o3,o4,o5⟩:=cs6 BoX.out;obtain ⟨r0,r1,r2,r3,r4,r5⟩:=cs6 Br.out;have hXs:=HBX.out.size;have fr0:=froK Br.out 0;have fr1:=froK Br.out 1;have fr2:=froK Br.out 2;have fr3:=froK Br.out 3;have fr4:=froK Br.out 4;have fr5:=froK Br.out 5
       go_wp2
       refine bodyPost_ret (v:=.agg #[.slice p1 l1 q1,.slice p2 l2 q2,.slice p3 l3 q3,.slice p4 l4 q4,.slice p5 l5 q5,.int .i64 c.now]) (by simp [results,Tryz.results22,go_sem, *]) rfl ⟨⟨p1,l1,q1,p2,l2,q2,p3,l3,q3,p4,l4,q4,p5,l5,q5⟩,rfl,⟨?_,?_,?_,?_,?_⟩,sb1 (sb1 (sb1 (sb1 (sb1 (sb1 (HBX.out))))))⟩
       ·exact (R1.out.keep (S':=fun k => w.heap.size ≤ k) (fun k hk s => put6_ne (by have s1 : X.heap.size ≤ k:=s.1;omega)) (fun k _ s => by have s1 : X.heap.size ≤ k:=s.1;show w.heap.size ≤ k;omega))
       ·exact (R2.out.keep (S':=fun k => w.heap.size ≤ k) (fun k hk s => put6_ne (by have s1 : W.heap.size ≤ k:=s.1;omega)) (fun k _ s => by have s1 : W.heap.size ≤ k:=s.1;show w.heap.size ≤ k;omega))
       ·exact (R3.out.keep (S':=fun k => w.heap.size ≤ k) (fun k hk s => put6_ne (by have s1 : X1.heap.size ≤ k:=s.1;omega)) (fun k _ s => by have s1 : X1.heap.size ≤ k:=s.1;show w.heap.size ≤ k;omega))
       ·exact (R4.out.keep (S':=fun k => w.heap.size ≤ k) (fun k hk s => put6_ne (by have s1 : W.heap.size ≤ k:=s.1;omega)) (fun k _ s => by have s1 : W.heap.size ≤ k:=s.1;show w.heap.size ≤ k;omega))
       ·exact (R5.out.keep (S':=fun k => w.heap.size ≤ k) (fun k hk s => put6_ne (by have s1 : X2.heap.size ≤ k:=s.1;omega)) (fun k _ s => by have s1 : X2.heap.size ≤ k:=s.1;show w.heap.size ≤ k;omega))

theorem take_flat {m : Nat} {vss : List (List Value)} (hl : ∀ (j : Nat) vs,vss[j]? = some vs → vs.length = m) {k : Nat} (hk : k ≤ vss.length) : (vss.take k).flatten.length = k * m:=by
 rw [flat_len (m:=m) (fun j vs h => ?_),List.length_take,Nat.min_eq_left hk];rw [List.getElem?_take] at h
 split at h
 ·exact hl j vs h
 ·cases h
theorem drop_flat {m : Nat} {vss : List (List Value)} (hl : ∀ (j : Nat) vs,vss[j]? = some vs → vs.length = m) {k : Nat} : (vss.drop k).flatten.length = (vss.length - k) * m:=by
 rw [flat_len (m:=m) (fun j vs h => ?_),List.length_drop];rw [List.getElem?_drop] at h;exact hl _ vs h
theorem take_at {vss : List (List Value)} {k i : Nat} {u : Value} (h : (vss.take k).flatten[i]? = some u) : vss.flatten[i]? = some u:=by
 have h1 : vss.flatten = (vss.take k).flatten ++ (vss.drop k).flatten:=by rw [← List.flatten_append,List.take_append_drop]
 rw [h1,List.getElem?_append_left (List.getElem?_eq_some_iff.1 h).1];exact h
theorem drop_at {m : Nat} {vss : List (List Value)} (hl : ∀ (j : Nat) vs,vss[j]? = some vs → vs.length = m) {k i : Nat} {u : Value} (hk : k ≤ vss.length) (h : (vss.drop k).flatten[i]? = some u) : vss.flatten[k * m + i]? = some u:=by
 have h1 : vss.flatten = (vss.take k).flatten ++ (vss.drop k).flatten:=by rw [← List.flatten_append,List.take_append_drop]
 rw [h1,List.getElem?_append_right (by rw [take_flat hl hk];omega),take_flat hl hk,Nat.add_sub_cancel_left];exact h
theorem mem_take_one {P : Value → Prop} {vss : List (List Value)} (h : ∀ u ∈ vss.flatten,P u) (k : Nat) : (∀ u ∈ (vss.take k).flatten,P u) ∧ ∀ u ∈ (vss.drop k).flatten,P u:=by
 have h1 : vss.flatten = (vss.take k).flatten ++ (vss.drop k).flatten:=by rw [← List.flatten_append,List.take_append_drop]
 exact ⟨fun u hu => h u (by rw [h1];exact List.mem_append_left _ hu),fun u hu => h u (by rw [h1];exact List.mem_append_right _ hu)⟩

theorem sill_any (p : Int) (w : World) :
  Calls Tryz.prog 19 #[.int .i64 p] w fun e w' => e = .returned (.agg #[.slice none 0 0,.slice none 0 0,.slice none 0 0,.slice none 0 0,.slice none 0 0,.int .i64 0,.string ⟨#[]⟩,.int .i64 p]) ∧ Below w.heap.size w w':=by
 go_enter Tryz.func19,Tryz.ntmps19
 go_wp2
 exact bodyPost_ret (v:=.agg #[.slice none 0 0,.slice none 0 0,.slice none 0 0,.slice none 0 0,.slice none 0 0,.int .i64 0,.string ⟨#[]⟩,.int .i64 p]) (by simp [results,Tryz.results19,go_sem]) rfl ⟨rfl,below1 _ _⟩

theorem wo_erase {α : Type} {nm : α → ByteArray} {t : ByteArray} {xs : List α} {k : Nat} {x : α} (hr : RisBy nm xs) (hx : xs[k]? = some x) (hn : nm x = t) : wo nm t xs = xs.take k ++ xs.drop (k + 1):=by
 have hk : k < xs.length:=(List.getElem?_eq_some_iff.1 hx).1
 have e : xs = xs.take k ++ x :: xs.drop (k + 1):=by
  have h1 : xs.drop k = x :: xs.drop (k + 1):=by rw [List.drop_eq_getElem_cons hk];congr 1;exact (List.getElem?_eq_some_iff.1 hx).2
  rw [← h1,List.take_append_drop]
 have hno : ∀ (j : Nat) y,xs[j]? = some y → ¬ j = k → (!((nm y).toList == t.toList)) = true:=fun j y hj hne => by
  have : ¬ nm y = t:=fun q => hne (hr.inj hj hx (q.trans hn.symm)).1
  simp [tl_no this]
 have h1 : (xs.take k).filter (fun x => !((nm x).toList == t.toList)) = xs.take k:=List.filter_eq_self.2 fun y hy => by
  obtain ⟨j,hj⟩:=List.getElem?_of_mem hy;rw [List.getElem?_take] at hj
  split at hj
  ·exact hno j y hj (by omega)
  ·cases hj
 have h2 : (xs.drop (k + 1)).filter (fun x => !((nm x).toList == t.toList)) = xs.drop (k + 1):=List.filter_eq_self.2 fun y hy => by
  obtain ⟨j,hj⟩:=List.getElem?_of_mem hy;rw [List.getElem?_drop] at hj;exact hno _ y hj (by omega)
 unfold wo
 conv => lhs;rw [e]
 rw [List.filter_append,List.filter_cons,h1,h2,tl_yes hn]
 rfl

theorem run_append_types (w : World) (t t' ty e e' : TypeId) (i : TypeInfo) (ht : Tryz.prog.underlying t = some (.slice e)) (ht' : Tryz.prog.underlying t' = some (.slice e')) (hi : Tryz.prog.info? e = some i) (a : Option Addr) (l c : Nat) (b : Value) : (Builtin.append_ #[t,t'] ty #[.slice a l c,b]).run Tryz.prog w = (Builtin.append_ #[t,t] ty #[.slice a l c,b]).run Tryz.prog w:=by
 simp [Builtin.append_,run_underlying ht,run_underlying ht',sizeOf,typeInfo,hi]
theorem wpList_append_two {w : World} {ops : Array Oper} {rest : List Oper} {o : Oper} {a : Act} {Q : Exit → Act → World → Prop} (hgd : o.guard = none) (s x : Operand) (t t' : TypeId)
  (ho : o.op = .call { callee:=.builtin .append,args:=#[s,x],argTypes:=#[t,t'] })
  (base : Nat) (e e' : TypeId) (i : TypeInfo) (z : Value) (size bytes : Nat) (ht : Tryz.prog.underlying t = some (.slice e)) (ht' : Tryz.prog.underlying t' = some (.slice e')) (hi : Tryz.prog.info? e = some i) (hz : i.zero = some z)
  (hsize : i.size = size) (hby : i.bytes = bytes) (hzs : z.cells.size = size) (hsz : 0 < size)
  (v : Value) (n : Nat) (xs : List Value) (hs : a.eval s = v) (hown : w.ownsRow base e size v n xs)
  (ad : Addr) (m c : Nat) (news : List Value) (hx : a.eval x = .slice (some ad) m c) (hl : news.length = m * size) (hnews : ∀ j u,news[j]? = some u → w.cell? (ad.add j) = some u) (h1 : ∀ u ∈ news,u.oneCell' = true)
  (h63 : n + m ≤ maxLen) (hbytes : (n + m) * bytes ≤ 140737488355328) (hbase : base ≤ w.heap.size)
  (h : ∀ v' w',w'.ownsRow base e size v' (n + m) (xs ++ news) → w.grownBy w' v.ownBlock → wpList Tryz.prog ops Q rest (a.put o.dst v') w') : wpList Tryz.prog ops Q (o :: rest) a w:=by
 refine wpList_plain hgd fun K hK => ?_;obtain ⟨v',w',hr,h2,h3,h4⟩:=run_append_own (P:=Tryz.prog) w base t o.type e i z size bytes ht hi hz hsize hby hzs hsz v n xs hown ad m c news hl hnews h1 h63 hbytes hbase
 obtain ⟨va,vl,vc,rfl⟩ : ∃ a l c,v = .slice a l c:=by
  rcases hown.2 with ⟨rfl,_⟩ | ⟨g,cap,cur,rfl,_⟩
  ·exact ⟨_,_,_,rfl⟩
  ·exact ⟨_,_,_,rfl⟩
 rw [← run_append_types w t t' o.type e e' i ht ht' hi] at hr;unfold Oper.wp execOp;simp only [ho,resolve,invoke,builtin,Sem.run_bind,Sem.run_pure,Result.andThen_ok,List.map_toArray,List.map_cons,List.map_nil,hs,hx,hr];exact hK _ _ (h v' w' h2 h3)
theorem run_copy_rec (w : World) (dT sT ty elem : TypeId) (g o dLen dCap : Nat) (a : Addr) (sLen sCap m : Nat) (cur : Array Value) (t : TypeId) (cs : List Value) (i : TypeInfo)
  (hu : Tryz.prog.underlying dT = some (.slice elem)) (hi : Tryz.prog.info? elem = some i) (hs : i.size = m)
  (hg : w.heap[g]? = some (.cells cur t (0,0))) (hn : cs.length = Nat.min sLen dLen * m)
  (hsrc : ∀ j v,cs[j]? = some v → w.cell? (a.add j) = some v) (hfit : o + cs.length ≤ cur.size) (h1 : ∀ v ∈ cs,v.oneCell' = true) :
  (Builtin.copy_ #[dT,sT] ty #[.slice (some ⟨g,o,none⟩) dLen dCap,.slice (some a) sLen sCap]).run Tryz.prog w =
   .ok (goInt (Nat.min sLen dLen)) (w.setRow g (cur.toList.take o ++ cs ++ cur.toList.drop (o + cs.length)).toArray):=by
 have hl:=run_loadCells_list (P:=Tryz.prog) w a cs hsrc;have hst:=run_storeCells_at Tryz.prog g o t cs 0 cur w hg (by simpa using hfit) h1;rw [hn] at hl
 simp [Builtin.copy_,run_underlying hu,Builtin.lenOf,Builtin.firstCells,sizeOf,typeInfo,hi,hs,hl,hst]
theorem wpList_copy_run (w : World) {ops : Array Oper} {rest : List Oper} {o : Oper} {a : Act} {Q : Exit → Act → World → Prop} (hgd : o.guard = none) (d s : Operand) (t t' : TypeId)
  (ho : o.op = .call { callee:=.builtin .copy,args:=#[d,s],argTypes:=#[t,t'] }) (v u : Value) (hd : a.eval d = v) (hs : a.eval s = u) {v' : Value} {w' : World}
  (hr : (Builtin.copy_ #[t,t'] o.type #[v,u]).run Tryz.prog w = .ok v' w') (h : wpList Tryz.prog ops Q rest (a.put o.dst v') w') : wpList Tryz.prog ops Q (o :: rest) a w:=by
 refine wpList_plain hgd fun K hK => ?_;unfold Oper.wp execOp;simp only [ho,resolve,invoke,builtin,Sem.run_bind,Sem.run_pure,Result.andThen_ok,List.map_toArray,List.map_cons,List.map_nil,hd,hs,hr];exact hK _ _ h
theorem ins_list {a b c m : Nat} {X ys cur c1 : List Value} (hX : cur.take b = X) (hc : cur.length = c) (h1 : a + m ≤ b) (h2 : b + m ≤ c) (hy : ys.length = m) (h : c1 = cur.take (a + m) ++ X.drop a ++ cur.drop (a + m + (X.drop a).length)) : (c1.take a ++ (ys ++ c1.drop (a + m))).take (b + m) = X.take a ++ ys ++ X.drop a:=by
 have hXl : X.length = b:=by rw [← hX,List.length_take];omega
 have e1 : c1.take a = X.take a:=by
  rw [h,List.append_assoc,List.take_append_of_le_length (by rw [List.length_take];omega),List.take_take,← hX,List.take_take]
  congr 1
  omega
 have e2 : c1.drop (a + m) = X.drop a ++ cur.drop (a + m + (X.drop a).length):=by
  rw [h,List.append_assoc];exact List.drop_left' (by rw [List.length_take];omega)
 rw [e1,e2,← List.append_assoc,← List.append_assoc];exact List.take_left' (by simp only [List.length_append,List.length_take,List.length_drop];omega)
theorem grow_list {a b m : Nat} {X ys R R2 S : List Value} (hX : R.take a = X.take a) (hXl : X.length = b) (h1 : a ≤ b) (hy : ys.length = m) (h : R2 = R.take a ++ ys ++ S) (T : List Value) : (R2.take (a + m) ++ X.drop a ++ T).take (b + m) = X.take a ++ ys ++ X.drop a:=by
 have e1 : R2.take (a + m) = X.take a ++ ys:=by
  rw [h,hX];exact List.take_left' (by simp only [List.length_append,List.length_take];omega)
 rw [e1];exact List.take_left' (by simp only [List.length_append,List.length_take,List.length_drop];omega)
theorem grown_setRow (w : World) (g : Nat) (cs : Array Value) : w.grownBy (w.setRow g cs) (some g):=⟨rfl,rfl,rfl,by simp [World.setRow],fun k _ h => setRow_other w g k cs (fun e => h (by rw [e]))⟩
theorem step_copy_run {ops : Array Oper} {o : Oper} {a : Act} {w : World} {K : Act → World → Prop} {Q : Exit → Act → World → Prop} {E : Prop}
  (hg : o.guard = none) (d x : Operand) (dT sT : TypeId) (hop : o.op = Op.call { callee:=Callee.builtin Builtin.copy,args:=#[d,x],argTypes:=#[dT,sT] })
  (v u : Value) (hd : a.eval d = v) (hx : a.eval x = u) {v' : Value} {w' : World} (hr : (Builtin.copy_ #[dT,sT] o.type #[v,u]).run Tryz.prog w = .ok v' w') (hK : K (a.put o.dst v') w') :
  if Region.wanted o (yielded ops a.tmps) = true then Oper.wp Tryz.prog o a w K Q else E:=by
 have hw : Region.wanted o (yielded ops a.tmps) = true:=by simp [Region.wanted,hg]
 rw [if_pos hw];unfold Oper.wp
 simp [execOp,hop,resolve,invoke,builtin,hd,hx,hr,Result.andThen]
 exact hK

def inAt {α : Type} (p : Nat) (x : α) (xs : List α) : List α:=xs.take p ++ [x] ++ xs.drop p
theorem inAt_len {α : Type} {p : Nat} {x : α} {xs : List α} (h : p ≤ xs.length) : (inAt p x xs).length = xs.length + 1:=by
 simp only [inAt,List.length_append,List.length_take,List.length_drop,List.length_cons,List.length_nil]
 omega
theorem inAt_map {α β : Type} (f : α → β) (p : Nat) (x : α) (xs : List α) : (inAt p x xs).map f = inAt p (f x) (xs.map f):=by simp [inAt,List.map_take,List.map_drop]
theorem inAt_at {α : Type} {p : Nat} {x : α} {xs : List α} (h : p ≤ xs.length) (j : Nat) (hj : j < xs.length + 1) : (inAt p x xs)[j]? = (xs ++ [x])[if j < p then j else if j = p then xs.length else j - 1]?:=by
 unfold inAt
 by_cases h1 : j < p
 ·rw [if_pos h1,List.append_assoc,List.getElem?_append_left (by rw [List.length_take];omega),List.getElem?_append_left (by omega),List.getElem?_take,if_pos h1]
 ·rw [if_neg h1]
  by_cases h2 : j = p
  ·subst h2
   have hl : (xs.take j).length = j:=by rw [List.length_take,Nat.min_eq_left h]
   have e1 : (xs.take j ++ [x] ++ xs.drop j)[j]? = some x:=by
    rw [List.append_assoc,List.getElem?_append_right (by omega),hl,Nat.sub_self]
    rfl
   rw [e1,if_pos rfl]
   simp
  ·rw [if_neg h2,List.getElem?_append_right (by simp only [List.length_append,List.length_take,List.length_cons,List.length_nil];omega),List.getElem?_append_left (by omega),List.getElem?_drop]
   congr 1
   simp only [List.length_append,List.length_take,List.length_cons,List.length_nil]
   omega
theorem inAt_flat {α : Type} {m p : Nat} {vss : List (List α)} (h : ∀ (j : Nat) vs,vss[j]? = some vs → vs.length = m) (hp : p ≤ vss.length) (vs : List α) : (inAt p vs vss).flatten = vss.flatten.take (p * m) ++ vs ++ vss.flatten.drop (p * m):=by
 have hl : ((vss.take p).flatten).length = p * m:=by
  rw [flat_len (m:=m) (fun j v hv => by
   rw [List.getElem?_take] at hv
   split at hv
   ·exact h j v hv
   ·cases hv),List.length_take,Nat.min_eq_left hp]
 have e : vss.flatten = (vss.take p).flatten ++ (vss.drop p).flatten:=by rw [← List.flatten_append,List.take_append_drop]
 have e1 : vss.flatten.take (p * m) = (vss.take p).flatten:=by rw [e];exact List.take_left' hl
 have e2 : vss.flatten.drop (p * m) = (vss.drop p).flatten:=by rw [e];exact List.drop_left' hl
 rw [e1,e2]
 simp [inAt]
theorem VRecs.ins {w : World} {S : Nat → Prop} {m : Nat} {rs : List (List Fv)} {vss : List (List Value)} {H : Nat → Nat → Nat} (h : VRecs w S m rs vss H) {r : List Fv} {vs : List Value} {hh : Nat → Nat} (hr : r.length = m) (hvs : vs.length = m) (hc : ∀ (i : Nat) f,r[i]? = some f → ∃ v,vs[i]? = some v ∧ f.Fr w (hh i) S v)
  (hn : ∀ (i : Nat) zs,r[i]? = some (.l zs) → zs ≠ [] → ∀ (j : Nat) r' (i' : Nat) zs',rs[j]? = some r' → r'[i']? = some (.l zs') → zs' ≠ [] → ¬ H j i' = hh i)
  (h1 : ∀ (i i' : Nat) zs zs',r[i]? = some (.l zs) → zs ≠ [] → r[i']? = some (.l zs') → zs' ≠ [] → i = i') {p : Nat} (hp : p ≤ rs.length) : ∃ H',VRecs w S m (inAt p r rs) (inAt p vs vss) H':=by
 have hl:=h.len;have e1 : (inAt p r rs).length = rs.length + 1:=inAt_len hp;have e2 : (inAt p vs vss).length = vss.length + 1:=inAt_len (by omega);refine ⟨_,(h.push hr hvs hc hn h1).sel (fun j => if j < p then j else if j = p then rs.length else j - 1) (by omega) (fun j hj => inAt_at hp j (by omega)) (fun j hj => ?_) (fun j j' hj hj' e => ?_)⟩
 ·have:=inAt_at (x:=vs) (xs:=vss) (p:=p) (by omega) j (by omega);rw [hl] at this;exact this
 ·split at e <;> split at e
  ·exact e
  all_goals (try split at e) <;> (try split at e) <;> omega

end Rc
end Go.Proofs.YtmknjejaochfjaaGreatDoor

namespace Go.Proofs.YtmknjejaochfjaaGreatDoor
open Go.RowKit

def svB (c : Int) (z k : ByteArray) (x : Bool) (m : ByteArray) (y : Bool) (c' : Int) (k' : ByteArray) (x' : Bool) (t : ByteArray) : Bool :=
 (k.toList == k'.toList) && (x == x') && !y && m.toList.isEmpty && decide (c' ≤ c) && (t.toList.isEmpty || (z.toList == t.toList))

theorem ret_sv {a b : Bool} (h : a = b) : Ending.returned (.bool a) = .returned (.bool b):=by rw [h]

theorem ssv_any (n : ByteArray) (c : Int) (z : ByteArray) (k : ByteArray) (x : Bool) (m : ByteArray) (y : Bool) (a : Option Addr) (len cap : Nat) (n' : ByteArray) (c' : Int) (k' : ByteArray) (x' : Bool) (v' : ByteArray) (t : ByteArray) (w : World) :
  Calls Tryz.prog 88 #[.agg #[.string n,.int .i64 c,.string z,.string k,.bool x,.string m,.bool y,.slice a len cap],.agg #[.string n',.int .i64 c',.string k',.bool x',.string v'],.string t] w fun e w' => e = .returned (.bool (svB c z k x m y c' k' x' t)) ∧ Below w.heap.size w w':=by
 have HB:=hidK (below2 w (.cells #[.string n,.int .i64 c,.string z,.string k,.bool x,.string m,.bool y,.slice a len cap] 100) (.cells #[.string n',.int .i64 c',.string k',.bool x',.string v'] 55));unfold svB
 cases h0 : (k.toList == k'.toList)
 ·go_enter Tryz.func88,Tryz.ntmps88
  go_wp2_with fail;go_ret;exact ⟨rfl,HB.out⟩
 cases h1 : (x == x')
 ·go_enter Tryz.func88,Tryz.ntmps88
  go_wp2_with fail;go_ret;exact ⟨rfl,HB.out⟩
 cases y
 case true =>
  go_enter Tryz.func88,Tryz.ntmps88
  go_wp2_with fail;go_ret;exact ⟨rfl,HB.out⟩
 cases h2 : m.toList.isEmpty
 ·go_enter Tryz.func88,Tryz.ntmps88
  go_wp2_with fail;go_ret;exact ⟨rfl,HB.out⟩
 by_cases h3 : c' ≤ c
 case neg =>
  have h3' : decide (c' ≤ c) = false:=by simpa using h3
  rw [h3']
  go_enter Tryz.func88,Tryz.ntmps88
  go_wp2_with fail;go_ret;exact ⟨rfl,HB.out⟩
 have h3' : decide (c' ≤ c) = true:=by simpa using h3
 rw [h3']
 cases h4 : t.toList.isEmpty
 ·cases h5 : (z.toList == t.toList)
  all_goals (
   go_enter Tryz.func88,Tryz.ntmps88
   go_wp2_with fail;go_ret
   exact ⟨rfl,HB.out⟩)
 ·go_enter Tryz.func88,Tryz.ntmps88
  go_wp2_with fail;go_ret;exact ⟨rfl,HB.out⟩

def betB (v u : Vd) : Bool:=decide (v.c < u.c) || ((v.c == u.c) && Op.bytesLess v.n.toList u.n.toList)
def stepB (sv : Vd → Bool) (acc : Option Vd) (v : Vd) : Option Vd:=if (sv v && (match acc with | none => true | some u => betB v u)) = true then some v else acc
def bestV (sv : Vd → Bool) (vs : List Vd) : Option Vd:=vs.foldl (stepB sv) none
def svV (c' : Int) (k' : ByteArray) (x' : Bool) (t : ByteArray) (v : Vd) : Bool:=svB v.c v.z v.k v.x v.m v.y c' k' x' t
theorem bestV_take {sv : Vd → Bool} {vs : List Vd} {i : Nat} {v : Vd} (h : vs[i]? = some v) : bestV sv (vs.take (i + 1)) = stepB sv (bestV sv (vs.take i)) v:=by
 unfold bestV;rw [List.take_add_one,h]
 simp
def BestAt (sv : Vd → Bool) (vs : List Vd) (i : Nat) (r : Int) : Prop :=
 (r = -1 ∧ bestV sv (vs.take i) = none) ∨ ∃ (j : Nat) (u : Vd),r = j ∧ j < vs.length ∧ vs[j]? = some u ∧ bestV sv (vs.take i) = some u
theorem BestAt.no {sv : Vd → Bool} {vs : List Vd} {i : Nat} {r : Int} {v : Vd} (h : BestAt sv vs i r) (hv : vs[i]? = some v) (hs : sv v = false) : BestAt sv vs (i + 1) r:=by
 unfold BestAt;rw [bestV_take hv];simp only [stepB,hs,Bool.false_and,Bool.false_eq_true,if_false];exact h
theorem BestAt.first {sv : Vd → Bool} {vs : List Vd} {i : Nat} {v : Vd} (h : bestV sv (vs.take i) = none) (hv : vs[i]? = some v) (hs : sv v = true) : BestAt sv vs (i + 1) i:=by
 refine .inr ⟨i,v,rfl,(List.getElem?_eq_some_iff.1 hv).1,hv,?_⟩;rw [bestV_take hv,h]
 simp [stepB,hs]
theorem BestAt.new {sv : Vd → Bool} {vs : List Vd} {i : Nat} {v u : Vd} (h : bestV sv (vs.take i) = some u) (hv : vs[i]? = some v) (hs : sv v = true) (hb : betB v u = true) : BestAt sv vs (i + 1) i:=by
 refine .inr ⟨i,v,rfl,(List.getElem?_eq_some_iff.1 hv).1,hv,?_⟩;rw [bestV_take hv,h]
 simp [stepB,hs,hb]
theorem BestAt.old {sv : Vd → Bool} {vs : List Vd} {i j : Nat} {v u : Vd} (hj : vs[j]? = some u) (h : bestV sv (vs.take i) = some u) (hv : vs[i]? = some v) (hb : betB v u = false) : BestAt sv vs (i + 1) j:=by
 refine .inr ⟨j,u,rfl,(List.getElem?_eq_some_iff.1 hj).1,hj,?_⟩;rw [bestV_take hv,h]
 simp [stepB,hb]

theorem ssv_is (v : Vd) (va : Option Addr) (vl vc : Nat) (n' : ByteArray) (c' : Int) (k' : ByteArray) (x' : Bool) (v' : ByteArray) (t : ByteArray) (w : World) {b : Bool} (h : svV c' k' x' t v = b) :
  Calls Tryz.prog 88 #[.agg #[.string v.n,.int .i64 v.c,.string v.z,.string v.k,.bool v.x,.string v.m,.bool v.y,.slice va vl vc],.agg #[.string n',.int .i64 c',.string k',.bool x',.string v'],.string t] w fun e w' => e = .returned (.bool b) ∧ Below w.heap.size w w':=by
 subst h;exact ssv_any v.n v.c v.z v.k v.x v.m v.y va vl vc n' c' k' x' v' t w

theorem sbestK_any (a : Option Addr) (len cap : Nat) (vs : List Vd) (n' : ByteArray) (c' : Int) (k' : ByteArray) (x' : Bool) (v' : ByteArray) (t : ByteArray) (w : World) (hr : VsRow w a len cap vs) :
  Calls Tryz.prog 51 #[.slice a len cap,.agg #[.string n',.int .i64 c',.string k',.bool x',.string v'],.string t] w fun e w' => ∃ r : Int,e = .returned (.int .i64 r) ∧ BestAt (svV c' k' x' t) vs len r ∧ Below w.heap.size w w':=by
 have HR:=hidK hr;have hvl : vs.length = len:=hr.1;have hlc : len ≤ 9223372036854775807:=Nat.le_trans hr.2.1 hr.2.2.1;clear hr
 go_enter Tryz.func51,Tryz.ntmps51
 go_wp2
 go_loopw [7,8] (fun vk vi wr => ∃ (i : Nat) (r : Int),i ≤ len ∧ vk = .int .i64 r ∧ vi = .int .i64 i ∧ Hid (BestAt (svV c' k' x' t) vs i r) ∧ Hid (wr.heap[w.heap.size]? = some (.cells #[.string n',.int .i64 c',.string k',.bool x',.string v'] 55 (0,0))) ∧ Hid (Below w.heap.size w wr)) (fun _ vi _ => len - (intOf vi).toNat)
 case atStart => exact ⟨0,-1,by omega,rfl,rfl,.inl ⟨rfl,rfl⟩,Array.getElem?_push_size,below1 _ _⟩
 case round =>
  obtain ⟨i,r,hi,rfl,rfl,HA,HG,HB⟩:=hrel
  by_cases hlt : i < len
  case neg =>
   obtain rfl : i = len:=by omega
   go_wp2
   go_ret;exact ⟨r,rfl,HA.out,HB.out⟩
  obtain ⟨b,o,v,rfl,hb,hv,-,va,vl,vc,-,p0,p1,p2,p3,p4,p5,p6,p7⟩:=(HR.out.below HB.out).at hlt;have hgl : w.heap.size < wr.heap.size:=lt_of_some HG.out;have HV:=hidK hv;have hne:=Wd.ne wr;have e0 : ∀ q : Wd wr,q.w.cell? ⟨b,o + i * 8,none⟩ = some (.string v.n):=fun q => (q.cell hb).trans p0;have e1 : ∀ q : Wd wr,q.w.cell? ⟨b,o + i * 8 + 1,none⟩ = some (.int .i64 v.c):=fun q => (q.cell hb).trans p1;have e2 : ∀ q : Wd wr,q.w.cell? ⟨b,o + i * 8 + 2,none⟩ = some (.string v.z):=fun q => (q.cell hb).trans p2;have e3 : ∀ q : Wd wr,q.w.cell? ⟨b,o + i * 8 + 3,none⟩ = some (.string v.k):=fun q => (q.cell hb).trans p3;have e4 : ∀ q : Wd wr,q.w.cell? ⟨b,o + i * 8 + 4,none⟩ = some (.bool v.x):=fun q => (q.cell hb).trans p4;have e5 : ∀ q : Wd wr,q.w.cell? ⟨b,o + i * 8 + 5,none⟩ = some (.string v.m):=fun q => (q.cell hb).trans p5;have e6 : ∀ q : Wd wr,q.w.cell? ⟨b,o + i * 8 + 6,none⟩ = some (.bool v.y):=fun q => (q.cell hb).trans p6;have e7 : ∀ q : Wd wr,q.w.cell? ⟨b,o + i * 8 + 7,none⟩ = some (.slice va vl vc):=fun q => (q.cell hb).trans p7;have d0 : ∀ q : Wd wr,q.w.cell? ⟨w.heap.size,0,none⟩ = some (.string n'):=fun q => q.slot HG.out rfl;have d1 : ∀ q : Wd wr,q.w.cell? ⟨w.heap.size,1,none⟩ = some (.int .i64 c'):=fun q => q.slot HG.out rfl;have d2 : ∀ q : Wd wr,q.w.cell? ⟨w.heap.size,2,none⟩ = some (.string k'):=fun q => q.slot HG.out rfl;have d3 : ∀ q : Wd wr,q.w.cell? ⟨w.heap.size,3,none⟩ = some (.bool x'):=fun q => q.slot HG.out rfl;have d4 : ∀ q : Wd wr,q.w.cell? ⟨w.heap.size,4,none⟩ = some (.string v'):=fun q => q.slot HG.out rfl;clear hv p2 p3 p4 p5 p6 p7
  cases hs : svV c' k' x' t v
  ·have HF:=hidK (fun q : Wd wr => ssv_is v va vl vc n' c' k' x' v' t q.w hs);have HS:=hidK hs;clear hs p0 p1;go_wp2_with fail;refine wp_region_wide (by kernel_rfl) (by kernel_rfl) ?_
   repeat (go_big_quiet_step (first | (go_at_call 88;exact Calls.wide (HF.out _)) | fail))
   refine wpQuiet_nil ?_;rintro _ ⟨q,rfl⟩;go_wp2_with fail;exact ⟨⟨i + 1,_,by omega,rfl,by go_num,HA.out.no HV.out HS.out,(q.b.block _ hgl).trans HG.out,HB.out.trans (q.b.mono HB.out.size)⟩,by simp [intOf];omega⟩
  have HF:=hidK (fun q : Wd wr => ssv_is v va vl vc n' c' k' x' v' t q.w hs);have HS:=hidK hs;clear hs
  rcases HA.out with ⟨rfl,hn⟩ | ⟨j,u,rfl,hj,hu,hbu⟩
  ·have HN:=hidK hn;clear hn p0 p1;go_wp2_with fail;refine wp_region_wide (by kernel_rfl) (by kernel_rfl) ?_
   repeat (go_big_quiet_step (first | (go_at_call 88;exact Calls.wide (HF.out _)) | fail))
   refine wpQuiet_nil ?_;rintro _ ⟨q,rfl⟩;go_wp2_with fail;exact ⟨⟨i + 1,_,by omega,rfl,by go_num,BestAt.first HN.out HV.out HS.out,(q.b.block _ hgl).trans HG.out,HB.out.trans (q.b.mono HB.out.size)⟩,by simp [intOf];omega⟩
  obtain ⟨b2,o2,u2,e2,hb2,hu2,-,ua,ul,uc,-,s0,s1,-,-,-,-,-,-⟩:=(HR.out.below HB.out).at (j:=j) (by omega);rw [hu] at hu2;obtain rfl:=Option.some.inj hu2
  cases e2
  have g0 : ∀ q : Wd wr,q.w.cell? ⟨b,o + j * 8,none⟩ = some (.string u.n):=fun q => (q.cell hb).trans s0;have g1 : ∀ q : Wd wr,q.w.cell? ⟨b,o + j * 8 + 1,none⟩ = some (.int .i64 u.c):=fun q => (q.cell hb).trans s1;have HBU:=hidK hbu;have HU:=hidK hu
  have hj0 : ¬ (j : Int) < 0:=by omega
  have hj1 : decide ((j : Int) < 0) = false:=by simp
  have hjl : (j : Int) < len:=by omega
  clear hu hu2 hbu s0 s1 p0 p1 hb2
  by_cases h1 : v.c < u.c
  ·have q1 : decide (v.c < u.c) = true:=by simpa using h1
   have HX:=hidK (show betB v u = true by simp [betB,h1]);go_wp2_with fail;refine wp_region_wide (by kernel_rfl) (by kernel_rfl) ?_
   repeat (go_big_quiet_step (first | (go_at_call 88;exact Calls.wide (HF.out _)) | fail))
   refine wpQuiet_nil ?_;rintro _ ⟨q,rfl⟩;go_wp2_with fail;exact ⟨⟨i + 1,_,by omega,rfl,by go_num,BestAt.new HBU.out HV.out HS.out HX.out,(q.b.block _ hgl).trans HG.out,HB.out.trans (q.b.mono HB.out.size)⟩,by simp [intOf];omega⟩
  have q1 : decide (v.c < u.c) = false:=by simpa using h1
  by_cases h2 : v.c = u.c
  case neg =>
   have q2 : (v.c == u.c) = false:=by simpa using h2
   have HX:=hidK (show betB v u = false by simp [betB,h1,h2]);clear h2;go_wp2_with fail;refine wp_region_wide (by kernel_rfl) (by kernel_rfl) ?_
   repeat (go_big_quiet_step (first | (go_at_call 88;exact Calls.wide (HF.out _)) | fail))
   refine wpQuiet_nil ?_;rintro _ ⟨q,rfl⟩;go_wp2_with fail;exact ⟨⟨i + 1,_,by omega,rfl,by go_num,BestAt.old HU.out HBU.out HV.out HX.out,(q.b.block _ hgl).trans HG.out,HB.out.trans (q.b.mono HB.out.size)⟩,by simp [intOf];omega⟩
  have q2 : (v.c == u.c) = true:=by simpa using h2
  cases q3 : Op.bytesLess v.n.toList u.n.toList
  ·have HX:=hidK (show betB v u = false by simp [betB,h1,q3]);clear h2;go_wp2_with fail;refine wp_region_wide (by kernel_rfl) (by kernel_rfl) ?_
   repeat (go_big_quiet_step (first | (go_at_call 88;exact Calls.wide (HF.out _)) | fail))
   refine wpQuiet_nil ?_;rintro _ ⟨q,rfl⟩;go_wp2_with fail;exact ⟨⟨i + 1,_,by omega,rfl,by go_num,BestAt.old HU.out HBU.out HV.out HX.out,(q.b.block _ hgl).trans HG.out,HB.out.trans (q.b.mono HB.out.size)⟩,by simp [intOf];omega⟩
  ·have HX:=hidK (show betB v u = true by simp [betB,h2,q3]);clear h2;go_wp2_with fail;refine wp_region_wide (by kernel_rfl) (by kernel_rfl) ?_
   repeat (go_big_quiet_step (first | (go_at_call 88;exact Calls.wide (HF.out _)) | fail))
   refine wpQuiet_nil ?_;rintro _ ⟨q,rfl⟩;go_wp2_with fail;exact ⟨⟨i + 1,_,by omega,rfl,by go_num,BestAt.new HBU.out HV.out HS.out HX.out,(q.b.block _ hgl).trans HG.out,HB.out.trans (q.b.mono HB.out.size)⟩,by simp [intOf];omega⟩

def SvHeld (w : World) (cb zb : Nat) (n' : ByteArray) (c' : Int) (k' : ByteArray) (x' : Bool) (v' : ByteArray) (t : ByteArray) : Prop :=
 w.heap[cb]? = some (.cells #[.string n',.int .i64 c',.string k',.bool x',.string v'] 55 (0,0)) ∧ w.heap[zb]? = some (.cells #[.string t] 9 (0,0))
theorem SvHeld.below {w w1 : World} {cb zb : Nat} {n' : ByteArray} {c' : Int} {k' : ByteArray} {x' : Bool} {v' t : ByteArray} (h : SvHeld w cb zb n' c' k' x' v' t) (hb : Below w.heap.size w w1) : SvHeld w1 cb zb n' c' k' x' v' t :=
 ⟨(hb.block _ (lt_of_some h.1)).trans h.1,(hb.block _ (lt_of_some h.2)).trans h.2⟩

theorem clo_any (n : ByteArray) (c : Int) (z : ByteArray) (k : ByteArray) (x : Bool) (m : ByteArray) (y : Bool) (a : Option Addr) (len cap : Nat) (cb zb : Nat) (n' : ByteArray) (c' : Int) (k' : ByteArray) (x' : Bool) (v' : ByteArray) (t : ByteArray) (w : World) (hh : SvHeld w cb zb n' c' k' x' v' t) :
  Calls Tryz.prog 173 #[.agg #[.string n,.int .i64 c,.string z,.string k,.bool x,.string m,.bool y,.slice a len cap],.pointer (some ⟨cb,0,none⟩),.pointer (some ⟨zb,0,none⟩)] w fun e w' => e = .returned (.bool (svB c z k x m y c' k' x' t)) ∧ Below w.heap.size w w':=by
 have hh1:=hh.below (below1 w (.cells #[.string n,.int .i64 c,.string z,.string k,.bool x,.string m,.bool y,.slice a len cap] 100));have HB:=hidK (below1 w (.cells #[.string n,.int .i64 c,.string z,.string k,.bool x,.string m,.bool y,.slice a len cap] 100));have c1:=cellK hh1.1 1;have c2:=cellK hh1.1 2;have c3:=cellK hh1.1 3;have c4:=cellK hh1.2 0;simp only [List.getElem?_toArray,List.getElem?_cons_succ,List.getElem?_cons_zero] at c1 c2 c3 c4;clear hh hh1;unfold svB
 cases y
 case true =>
  cases h0 : (k.toList == k'.toList)
  ·skip
   cases h4 : t.toList.isEmpty
   ·cases h5 : (z.toList == t.toList)
    ·skip
     go_enter Tryz.func173,Tryz.ntmps173
     go_wp2_with fail;go_ret;exact ⟨ret_sv (by simp),HB.out⟩
    ·skip
     go_enter Tryz.func173,Tryz.ntmps173
     go_wp2_with fail;go_ret;exact ⟨ret_sv (by simp),HB.out⟩
   ·skip
    go_enter Tryz.func173,Tryz.ntmps173
    go_wp2_with fail;go_ret;exact ⟨ret_sv (by simp),HB.out⟩
  ·cases h1 : (x == x')
   ·skip
    cases h4 : t.toList.isEmpty
    ·cases h5 : (z.toList == t.toList)
     ·skip
      go_enter Tryz.func173,Tryz.ntmps173
      go_wp2_with fail;go_ret;exact ⟨ret_sv (by simp),HB.out⟩
     ·skip
      go_enter Tryz.func173,Tryz.ntmps173
      go_wp2_with fail;go_ret;exact ⟨ret_sv (by simp),HB.out⟩
    ·skip
     go_enter Tryz.func173,Tryz.ntmps173
     go_wp2_with fail;go_ret;exact ⟨ret_sv (by simp),HB.out⟩
   ·skip
    cases h4 : t.toList.isEmpty
    ·cases h5 : (z.toList == t.toList)
     ·skip
      go_enter Tryz.func173,Tryz.ntmps173
      go_wp2_with fail;go_ret;exact ⟨ret_sv (by simp),HB.out⟩
     ·skip
      go_enter Tryz.func173,Tryz.ntmps173
      go_wp2_with fail;go_ret;exact ⟨ret_sv (by simp),HB.out⟩
    ·skip
     go_enter Tryz.func173,Tryz.ntmps173
     go_wp2_with fail;go_ret;exact ⟨ret_sv (by simp),HB.out⟩
 case false =>
  cases h2 : m.toList.isEmpty
  ·skip
   cases h0 : (k.toList == k'.toList)
   ·skip
    cases h4 : t.toList.isEmpty
    ·cases h5 : (z.toList == t.toList)
     ·skip
      go_enter Tryz.func173,Tryz.ntmps173
      go_wp2_with fail;go_ret;exact ⟨ret_sv (by simp),HB.out⟩
     ·skip
      go_enter Tryz.func173,Tryz.ntmps173
      go_wp2_with fail;go_ret;exact ⟨ret_sv (by simp),HB.out⟩
    ·skip
     go_enter Tryz.func173,Tryz.ntmps173
     go_wp2_with fail;go_ret;exact ⟨ret_sv (by simp),HB.out⟩
   ·cases h1 : (x == x')
    ·skip
     cases h4 : t.toList.isEmpty
     ·cases h5 : (z.toList == t.toList)
      ·skip
       go_enter Tryz.func173,Tryz.ntmps173
       go_wp2_with fail;go_ret;exact ⟨ret_sv (by simp),HB.out⟩
      ·skip
       go_enter Tryz.func173,Tryz.ntmps173
       go_wp2_with fail;go_ret;exact ⟨ret_sv (by simp),HB.out⟩
     ·skip
      go_enter Tryz.func173,Tryz.ntmps173
      go_wp2_with fail;go_ret;exact ⟨ret_sv (by simp),HB.out⟩
    ·skip
     cases h4 : t.toList.isEmpty
     ·cases h5 : (z.toList == t.toList)
      ·skip
       go_enter Tryz.func173,Tryz.ntmps173
       go_wp2_with fail;go_ret;exact ⟨ret_sv (by simp),HB.out⟩
      ·skip
       go_enter Tryz.func173,Tryz.ntmps173
       go_wp2_with fail;go_ret;exact ⟨ret_sv (by simp),HB.out⟩
     ·skip
      go_enter Tryz.func173,Tryz.ntmps173
      go_wp2_with fail;go_ret;exact ⟨ret_sv (by simp),HB.out⟩
  ·skip
   cases h0 : (k.toList == k'.toList)
   ·skip
    cases h4 : t.toList.isEmpty
    ·cases h5 : (z.toList == t.toList)
     ·skip
      go_enter Tryz.func173,Tryz.ntmps173
      go_wp2_with fail;go_ret;exact ⟨ret_sv (by simp),HB.out⟩
     ·skip
      go_enter Tryz.func173,Tryz.ntmps173
      go_wp2_with fail;go_ret;exact ⟨ret_sv (by simp),HB.out⟩
    ·skip
     go_enter Tryz.func173,Tryz.ntmps173
     go_wp2_with fail;go_ret;exact ⟨ret_sv (by simp),HB.out⟩
   ·cases h1 : (x == x')
    ·skip
     cases h4 : t.toList.isEmpty
     ·cases h5 : (z.toList == t.toList)
      ·skip
       go_enter Tryz.func173,Tryz.ntmps173
       go_wp2_with fail;go_ret;exact ⟨ret_sv (by simp),HB.out⟩
      ·skip
       go_enter Tryz.func173,Tryz.ntmps173
       go_wp2_with fail;go_ret;exact ⟨ret_sv (by simp),HB.out⟩
     ·skip
      go_enter Tryz.func173,Tryz.ntmps173
      go_wp2_with fail;go_ret;exact ⟨ret_sv (by simp),HB.out⟩
    ·skip
     cases h4 : t.toList.isEmpty
     ·cases h5 : (z.toList == t.toList)
      ·skip
       go_enter Tryz.func173,Tryz.ntmps173
       go_wp2_with fail;go_ret;exact ⟨ret_sv (by simp),HB.out⟩
      ·skip
       by_cases h3 : c' ≤ c
       ·rw [decide_eq_true h3]
        go_enter Tryz.func173,Tryz.ntmps173
        go_wp2_with fail;go_ret;exact ⟨ret_sv (by simp),HB.out⟩
       ·rw [decide_eq_false h3]
        go_enter Tryz.func173,Tryz.ntmps173
        go_wp2_with fail;go_ret;exact ⟨ret_sv (by simp),HB.out⟩
     ·skip
      by_cases h3 : c' ≤ c
      ·rw [decide_eq_true h3]
       go_enter Tryz.func173,Tryz.ntmps173
       go_wp2_with fail;go_ret;exact ⟨ret_sv (by simp),HB.out⟩
      ·rw [decide_eq_false h3]
       go_enter Tryz.func173,Tryz.ntmps173
       go_wp2_with fail;go_ret;exact ⟨ret_sv (by simp),HB.out⟩

theorem serving_any (n' : ByteArray) (c' : Int) (k' : ByteArray) (x' : Bool) (v' : ByteArray) (t : ByteArray) (w : World) :
  Calls Tryz.prog 145 #[.agg #[.string n',.int .i64 c',.string k',.bool x',.string v'],.string t] w fun e w' => e = .returned (.func (.func 173) #[] #[.pointer (some ⟨w.heap.size,0,none⟩),.pointer (some ⟨w.heap.size + 1,0,none⟩)]) ∧ SvHeld w' w.heap.size (w.heap.size + 1) n' c' k' x' v' t ∧ Below w.heap.size w w':=by
 go_enter Tryz.func145,Tryz.ntmps145
 go_wp2
 go_ret;exact ⟨rfl,⟨heap2_0 _ _ _,heap2_1 _ _ _⟩,below2 _ _ _⟩

def Vd.Ok (v : Vd) : Prop:=VolOk v.n v.c v.z v.k v.x v.m v.y v.zs
def vZ : Vd:=⟨⟨#[]⟩,0,⟨#[]⟩,⟨#[]⟩,false,⟨#[]⟩,false,[]⟩
def BestR (vs : List Vd) (n' : ByteArray) (c' : Int) (k' v' t : ByteArray) : Prop:=ClaimOk n' c' k' v' ∧ ZoneOk t ∧ vs.length ≤ 8 ∧ ∀ (j : Nat) v,vs[j]? = some v → v.Ok
def BestIs (vs : List Vd) (n' : ByteArray) (c' : Int) (k' : ByteArray) (x' : Bool) (v' : ByteArray) (t : ByteArray) (u : Vd) (p : Int) : Prop :=
 ((400 < vs.length ∨ 8000 < t.size) ∧ u = vZ ∧ p = 2) ∨ (¬ (400 < vs.length ∨ 8000 < t.size) ∧ ¬ BestR vs n' c' k' v' t ∧ u = vZ ∧ p = 1) ∨
 (¬ (400 < vs.length ∨ 8000 < t.size) ∧ BestR vs n' c' k' v' t ∧ bestV (svV c' k' x' t) vs = none ∧ u = vZ ∧ p = 6) ∨
 (¬ (400 < vs.length ∨ 8000 < t.size) ∧ BestR vs n' c' k' v' t ∧ bestV (svV c' k' x' t) vs = some u ∧ p = 0)
def BestAns (vs : List Vd) (n' : ByteArray) (c' : Int) (k' : ByteArray) (x' : Bool) (v' : ByteArray) (t : ByteArray) (w : World) (e : Ending) (w' : World) : Prop :=
 ∃ u p a l c,e = .returned (.agg #[.string u.n,.int .i64 u.c,.string u.z,.string u.k,.bool u.x,.string u.m,.bool u.y,.slice a l c,.int .i64 p]) ∧ BestIs vs n' c' k' x' v' t u p ∧ Ap.OwnAns u.zs w a l c w'
theorem own_nil {w w' : World} (hb : Below w.heap.size w w') : Ap.OwnAns [] w none 0 0 w':=⟨⟨rfl,Nat.le_refl _,by omega,fun j x hx => by simp at hx,.inl rfl⟩,.inl rfl,hb⟩
theorem BestAns.bad {vs : List Vd} {n' : ByteArray} {c' : Int} {k' : ByteArray} {x' : Bool} {v' t : ByteArray} {w w' : World} {p : Int} (h : BestIs vs n' c' k' x' v' t vZ p) (hb : Below w.heap.size w w') :
  BestAns vs n' c' k' x' v' t w (.returned (.agg #[.string ⟨#[]⟩,.int .i64 0,.string ⟨#[]⟩,.string ⟨#[]⟩,.bool false,.string ⟨#[]⟩,.bool false,.slice none 0 0,.int .i64 p])) w':=⟨vZ,p,none,0,0,rfl,h,own_nil hb⟩
theorem set_below9B {w w1 : World} {B b : Nat} {v0 v1 v2 v3 v4 v5 v6 v7 v8 : Value} (hB : B ≤ b) (h : Below B w w1) :
  Below B w (((((((((w1.setCell ⟨b,0,none⟩ (v0)).setCell ⟨b,1,none⟩ (v1)).setCell ⟨b,2,none⟩ (v2)).setCell ⟨b,3,none⟩ (v3)).setCell ⟨b,4,none⟩ (v4)).setCell ⟨b,5,none⟩ (v5)).setCell ⟨b,6,none⟩ (v6)).setCell ⟨b,7,none⟩ (v7)).setCell ⟨b,8,none⟩ (v8)) :=
 ((((((((h.setCell (p:=⟨b,0,none⟩) hB v0).setCell (p:=⟨b,1,none⟩) hB v1).setCell (p:=⟨b,2,none⟩) hB v2).setCell (p:=⟨b,3,none⟩) hB v3).setCell (p:=⟨b,4,none⟩) hB v4).setCell (p:=⟨b,5,none⟩) hB v5).setCell (p:=⟨b,6,none⟩) hB v6).setCell (p:=⟨b,7,none⟩) hB v7).setCell (p:=⟨b,8,none⟩) hB v8
theorem own_set9 {zs : List ByteArray} {w w' : World} {a : Option Addr} {l p b X : Nat} {v0 v1 v2 v3 v4 v5 v6 v7 v8 : Value} (h : TxRow w' a l p zs ∧ (zs = [] ∨ ∃ g cur,a = some ⟨g,0,none⟩ ∧ X ≤ g ∧ w'.heap[g]? = some (.cells cur 9 (0,0))) ∧ Below w.heap.size w w') (hb : w.heap.size ≤ b) (hX : b < X) :
  Ap.OwnAns zs w a l p (((((((((w'.setCell ⟨b,0,none⟩ (v0)).setCell ⟨b,1,none⟩ (v1)).setCell ⟨b,2,none⟩ (v2)).setCell ⟨b,3,none⟩ (v3)).setCell ⟨b,4,none⟩ (v4)).setCell ⟨b,5,none⟩ (v5)).setCell ⟨b,6,none⟩ (v6)).setCell ⟨b,7,none⟩ (v7)).setCell ⟨b,8,none⟩ (v8)):=by
 have h9:=Ap.OwnAns.set (Ap.OwnAns.set (Ap.OwnAns.set (Ap.OwnAns.set (Ap.OwnAns.set (Ap.OwnAns.set (Ap.OwnAns.set (Ap.OwnAns.set (Ap.OwnAns.set h hb hX (i:=0) (v:=v0)) hb hX (i:=1) (v:=v1)) hb hX (i:=2) (v:=v2)) hb hX (i:=3) (v:=v3)) hb hX (i:=4) (v:=v4)) hb hX (i:=5) (v:=v5)) hb hX (i:=6) (v:=v6)) hb hX (i:=7) (v:=v7)) hb hX (i:=8) (v:=v8);refine ⟨h9.1,?_,h9.2.2⟩
 rcases h9.2.1 with h | ⟨g,cur,h1,h2,h3⟩
 ·exact .inl h
 ·exact .inr ⟨g,cur,h1,by omega,h3⟩
theorem names_few {zs : List ByteArray} {x : Bool} (h : NamesOk zs (if x = true then 1 else 6)) : zs.length ≤ 6:=by
 have:=(names_six h).1
 omega

def MayOk (n z t : ByteArray) : Prop:=ClassOk n z ∧ NameOk t ∧ (z = ⟨#[]⟩ ∨ z = t)

theorem imay_any (n : ByteArray) (x y : Bool) (z t : ByteArray) (w : World) (hn : n.size ≤ 9223372036854775807) (hz : z.size ≤ 9223372036854775807) (ht : t.size ≤ 9223372036854775807) :
  Calls Tryz.prog 150 #[.agg #[.string n,.bool x,.bool y,.string z],.string t] w (BoolB (MayOk n z t) w):=by
 go_enter Tryz.func150,Tryz.ntmps150
 go_wp2_with fail;refine (iclass_any n z x y _ hn hz).mono ?_;rintro e w1 ⟨r,rfl,hr,hb⟩;obtain ⟨g,hb1,-⟩:=slotK hb;have HB:=hidK hb1;have c3 : w1.cell? ⟨w.heap.size,3,none⟩ = some (.string z):=cellK g 3;clear g hb hb1
 by_cases hq : r = true
 case neg =>
  have HN:=hidK (fun h => hq (hr.2 h))
  have hrf : r = false:=by simpa using hq
  clear hr;go_wp2_with fail;go_ret;exact ⟨false,rfl,⟨fun h => (by cases h),fun h => (HN.out h.1).elim⟩,HB.out⟩
 have h0:=hidK (hr.1 hq);subst hq;clear hr;go_wp2_with fail;refine (iname_any t _ ht).mono ?_;rintro e w2 ⟨r,rfl,hr,rfl⟩
 by_cases hq : r = true
 case neg =>
  have HN:=hidK (fun h => hq (hr.2 h))
  have hrf : r = false:=by simpa using hq
  clear hr;go_wp2_with fail;go_ret;exact ⟨false,rfl,⟨fun h => (by cases h),fun h => (HN.out h.2.1).elim⟩,HB.out⟩
 have h1:=hidK (hr.1 hq);subst hq;clear hr
 by_cases hz0 : z = ⟨#[]⟩
 ·subst hz0;go_wp2_with fail;go_ret;exact ⟨true,rfl,⟨fun _ => ⟨h0.out,h1.out,.inl rfl⟩,fun _ => rfl⟩,HB.out⟩
 have HZ:=hidK hz0;have hq9 : z.toList.isEmpty = false:=isE_no hz0
 by_cases hzt : z = t
 ·have hq8:=tl_yes hzt;have HT:=hidK hzt;clear hzt hz0;go_wp2_with fail;go_ret;exact ⟨true,rfl,⟨fun _ => ⟨h0.out,h1.out,.inr HT.out⟩,fun _ => rfl⟩,HB.out⟩
 ·have hq8:=tl_no hzt;have HT:=hidK hzt;clear hzt hz0;go_wp2_with fail;go_ret;exact ⟨false,rfl,⟨fun h => (by cases h),fun h => (h.2.2.elim HZ.out HT.out).elim⟩,HB.out⟩

theorem infoByteJ : (Tryz.prog.info? 5).map (fun i => (i.zero,i.size,i.bytes)) = some (some (.int .u8 0),1,1):=by kernel_rfl
theorem sizeByteJ : (Tryz.prog.info? 5).map (·.size) = some 1:=by kernel_rfl

theorem run_copy_text {P : Program} {w : World} (dT sT ty : TypeId) (elem : TypeId) (hu : P.underlying dT = some (.slice elem)) (hsz : (P.info? elem).map (·.size) = some 1)
  (dp : Option Addr) (dLen dCap : Nat) (t : ByteArray)
  (g off : Nat) (cur : List Value) (e : TypeId) (hg : w.heap[g]? = some (.cells cur.toArray e (0,0))) (hle : t.size ≤ dLen) (hpos : 0 < t.size → dp = some ⟨g,off,none⟩)
  (hfit : off + t.size ≤ cur.length) (B : Nat) (w0 : World) (hb : Below B w0 w) (hBg : B ≤ g) :
  ∃ w',(Builtin.copy_ #[dT,sT] ty #[.slice dp dLen dCap,.string t]).run P w = .ok (.int .i64 (t.size : Nat)) w' ∧
   Hid (w'.heap[g]? = some (.cells (splice cur off (Lib.byteCells t.data.toList)).toArray e (0,0))) ∧ Below B w0 w':=by
 have hlen : (Lib.byteCells t.data.toList).length = t.size:=by rw [Lib.byteCells_length,← Lib.size_eq]
 by_cases h0 : t.size = 0
 ·have hrun:=Lib.run_copy_empty_string (P:=P) w dT sT ty elem dp dLen dCap t hu (by rw [hsz];rfl) h0;have hc : Lib.byteCells t.data.toList = []:=List.eq_nil_of_length_eq_zero (by omega);rw [h0];exact ⟨w,hrun,show _ = _ by rw [hc];simpa [splice] using hg,hb⟩
 ·obtain rfl:=hpos (by omega);have hrun:=Lib.run_copy_row_string (P:=P) w dT sT ty elem g off dLen dCap t cur.toArray e hu hsz hg hle (by simpa using hfit);refine ⟨_,hrun,?_,below_setRow hb hBg _⟩
  show _ = _
  rw [setRow_heap w g _ _ e _ hg]
  simp [splice,hlen]

theorem full_row {w : World} {B g n : Nat} {e : TypeId} {xs : List Value} (h : w.ownsRow B e 1 (.slice (some ⟨g,0,none⟩) n n) n xs) :
  w.heap[g]? = some (.cells xs.toArray e (0,0)) ∧ xs.length = n ∧ B ≤ g:=by
 obtain ⟨h1,h2⟩:=h
 rcases h2 with ⟨h3,_⟩ | ⟨g',cap,cur,hv,hB,hh,_,_,hsz,htk⟩
 ·cases h3
 ·simp only [Value.slice.injEq,Option.some.injEq,Addr.mk.injEq] at hv;obtain ⟨⟨rfl,_,_⟩,_,rfl⟩:=hv
  have hl : cur.toList.length ≤ n * 1:=by simp [hsz]
  rw [List.take_of_length_le hl] at htk;subst htk;exact ⟨by simpa using hh,by simpa using hsz,hB⟩

theorem splice_two {Z X Y : List Value} (h : Z.length = X.length + Y.length) : splice (splice Z 0 X) X.length Y = X ++ Y:=by
 unfold splice;have h1 : List.drop (X.length + Y.length) Z = []:=List.drop_eq_nil_of_le (by omega)
 simp [← List.append_assoc,h1]

theorem conv_row {w : World} {g : Nat} (l : List UInt8) {n cap : Nat} (hn : l.length = n) (h : w.heap[g]? = some (.cells (Lib.byteCells l).toArray 5 (0,0))) :
  (convert 151 9 (.slice (some ⟨g,0,none⟩) n cap)).run Tryz.prog w = .ok (.string ⟨l.toArray⟩) w:=by
 subst hn
 exact run_convert_bytes_back (P:=Tryz.prog) w 151 9 5 ⟨g,0,none⟩ cap l Tryz.underlying151 Tryz.underlying5 Tryz.underlying9 (fun j hj => by
  rw [Addr.add_lit]
  simp [World.cell?,h,Lib.byteCells,hj])
theorem len_bytes (s : ByteArray) : (Lib.byteCells s.data.toList).length = s.size:=by rw [Lib.byteCells_length,← Lib.size_eq]
theorem joined_none (x : ByteArray) (w : World) (h : x.size ≤ 1073741824) :
  Calls Tryz.prog 151 #[.string x,.string ByteArray.empty] w fun e w' => e = .returned (.string x) ∧ Below w.heap.size w w':=by
 obtain ⟨i0,hi,hz0,hz1,hz2⟩:=info_parts infoByteJ
 go_enter Tryz.func151,Tryz.ntmps151
 go_wp2_with (at_make;refine wpList_make_full _ rfl _ _ 151 rfl w.heap.size 5 i0 (.int .u8 0) 1 Tryz.underlying151 hi hz0 hz1 _ _ _ _ x.size rfl rfl (by omega) (by omega) (by rw [hz2];omega) (by unfold maxLen;omega) (Nat.le_refl _) ?_)
 intro w1 hown hgrow;obtain ⟨hg1,hz,-⟩:=full_row hown;obtain ⟨Z,hZ⟩ : ∃ Z,Z = (madeCells #[Value.int IntKind.u8 0] x.size).toList:=⟨_,rfl⟩;have hnx1 : Below w.heap.size w w1:=(Below.refl _ _).grown hgrow (Nat.le_refl _) (fun k hk => by cases hk);rw [← hZ] at hg1 hz;obtain ⟨w2,hcp,HG2,hnx2⟩:=run_copy_text (P:=Tryz.prog) 151 9 3 5 Tryz.underlying151 sizeByteJ (some ⟨w.heap.size,0,none⟩) x.size x.size x w.heap.size 0 Z 5 hg1 (by omega) (fun _ => rfl) (by omega) w.heap.size w hnx1 (Nat.le_refl _)
 have hs2 : splice Z 0 (Lib.byteCells x.data.toList) = Lib.byteCells x.data.toList:=by
  unfold splice;have h1 : List.drop (0 + (Lib.byteCells x.data.toList).length) Z = []:=List.drop_eq_nil_of_le (by rw [len_bytes];omega);rw [h1];simp
 rw [hs2] at HG2;have hcp2:=Lib.run_copy_empty_string (P:=Tryz.prog) w2 151 9 3 5 (some ⟨w.heap.size,0,none⟩) 0 0 ByteArray.empty Tryz.underlying151 (by kernel_rfl) rfl;have hcv:=conv_row (cap:=x.size) x.data.toList (Lib.size_eq x).symm HG2.out;clear hs2 hZ hown hgrow hg1 hi hz0 hz1 hz2 HG2 hnx1
 go_wp2
 go_ret;exact ⟨rfl,hnx2⟩

theorem joined_some (x y : ByteArray) (w : World) (h : x.size + y.size ≤ 1073741824) (hy : ¬ y = ByteArray.empty) :
  Calls Tryz.prog 151 #[.string x,.string y] w fun e w' => e = .returned (.string ⟨(x.data.toList ++ y.data.toList).toArray⟩) ∧ Below w.heap.size w w':=by
 obtain ⟨i0,hi,hz0,hz1,hz2⟩:=info_parts infoByteJ
 go_enter Tryz.func151,Tryz.ntmps151
 go_wp2_with (at_make;refine wpList_make_full _ rfl _ _ 151 rfl w.heap.size 5 i0 (.int .u8 0) 1 Tryz.underlying151 hi hz0 hz1 _ _ _ _ (x.size + y.size) rfl rfl (by omega) (by omega) (by rw [hz2];omega) (by unfold maxLen;omega) (Nat.le_refl _) ?_)
 intro w1 hown hgrow;obtain ⟨hg1,hz,-⟩:=full_row hown;obtain ⟨Z,hZ⟩ : ∃ Z,Z = (madeCells #[Value.int IntKind.u8 0] (x.size + y.size)).toList:=⟨_,rfl⟩;have hnx1 : Below w.heap.size w w1:=(Below.refl _ _).grown hgrow (Nat.le_refl _) (fun k hk => by cases hk);rw [← hZ] at hg1 hz;obtain ⟨w2,hcp,HG2,hnx2⟩:=run_copy_text (P:=Tryz.prog) 151 9 3 5 Tryz.underlying151 sizeByteJ (some ⟨w.heap.size,0,none⟩) (x.size + y.size) (x.size + y.size) x w.heap.size 0 Z 5 hg1 (by omega) (fun _ => rfl) (by omega) w.heap.size w hnx1 (Nat.le_refl _);obtain ⟨w3,hcp2,HG3,hnx3⟩:=run_copy_text (P:=Tryz.prog) 151 9 3 5 Tryz.underlying151 sizeByteJ (some ⟨w.heap.size,x.size,none⟩) y.size y.size y w.heap.size x.size _ 5 HG2.out (by omega) (fun _ => rfl) (by rw [length_splice _ _ _ (by rw [len_bytes];omega)];omega) w.heap.size w hnx2 (Nat.le_refl _)
 have hs2 : splice (splice Z 0 (Lib.byteCells x.data.toList)) x.size (Lib.byteCells y.data.toList) = Lib.byteCells (x.data.toList ++ y.data.toList):=by
  have h1:=splice_two (Z:=Z) (X:=Lib.byteCells x.data.toList) (Y:=Lib.byteCells y.data.toList) (by rw [len_bytes,len_bytes];exact hz);rw [len_bytes] at h1;rw [h1,Lib.byteCells_append]
 rw [hs2] at HG3;have hcv:=conv_row (n:=x.size + y.size) (cap:=x.size + y.size) (x.data.toList ++ y.data.toList) (by rw [List.length_append,← Lib.size_eq,← Lib.size_eq]) HG3.out;clear hs2 hZ hown hgrow hg1 hi hz0 hz1 hz2 HG2 hnx1 HG3
 go_wp2
 go_ret;exact ⟨rfl,hnx3⟩

theorem append_bytes (x y : ByteArray) : x ++ y = ⟨(x.data.toList ++ y.data.toList).toArray⟩:=by
 apply ByteArray.ext
 simp

theorem joined_any (x y : ByteArray) (w : World) (h : x.size + y.size ≤ 1073741824) :
  Calls Tryz.prog 151 #[.string x,.string y] w fun e w' => e = .returned (.string (x ++ y)) ∧ Below w.heap.size w w':=by
 by_cases hy : y = ByteArray.empty
 ·subst hy;have:=joined_none x w (by omega);rw [show x ++ ByteArray.empty = x from by simp];exact this
 ·rw [append_bytes];exact joined_some x y w h hy

end Go.Proofs.YtmknjejaochfjaaGreatDoor
