import Derived.Test.YtdfgbboadbnodaaGreatDoorK2
import Derived.WalkKit
import Derived.LaidEql
import Derived.Stop.Asserts
import Derived.RowKitTokens
import Derived.Test.YtdfgbboadbnodaaGreatDoorRows
import Derived.WalkSpells
import Derived.RegionTactic
import Derived.Laws.AppendOwn
import Derived.Laws.AppendOwnNone
import Derived.Deep.AppendLies
/-
 Whether what is bound is so on both sides, as the specification asks it.
-/
set_option maxRecDepth 100000
set_option maxHeartbeats 12800000
namespace Go.Proofs.YtdfgbboadbnodaaGreatDoor
open Go.RowKit
namespace Rc
open Mk

def KHas (c : Cl) (t : ByteArray) : Prop:=∃ (i : Nat) (k : Kd),c.ks[i]? = some k ∧ k.n = t
def SV (c : Cl) (v : Vd) : Prop:=KHas c v.k ∧ (v.m = ⟨#[]⟩ ∨ ∃ (i : Nat) (x : Xd),c.xs[i]? = some x ∧ x.n = v.m ∧ x.v = v.n)
def SX (c : Cl) (x : Xd) : Prop:=KHas c x.k ∧ (x.v = ⟨#[]⟩ ∨ ∃ (j : Nat) (v : Vd),c.vs[j]? = some v ∧ v.n = x.v ∧ v.m = x.n ∧ x.z ≤ v.c ∧ v.k = x.k ∧ v.x = x.x)
def BoundS (c : Cl) : Prop:=(∀ (j : Nat) z,c.vs[j]? = some z → SV c z) ∧ (∀ (j : Nat) z,c.xs[j]? = some z → SX c z)

theorem sbound_any (d : Ad) (c : Cl) (w : World) (hr : ClRow w d c.raw) (hks : RisBy Kd.n c.ks) (hxs : RisBy Xd.n c.xs) (hvs : RisBy Vd.n c.vs) :
  Calls Tryz.prog 101 #[.agg #[.slice d.a1 d.l1 d.c1,.slice d.a2 d.l2 d.c2,.slice d.a3 d.l3 d.c3,.slice d.a4 d.l4 d.c4,.slice d.a5 d.l5 d.c5,.int .i64 c.now]] w (BoolB (BoundS c) w):=by
 obtain ⟨a1,l1,y1,a2,l2,y2,a3,l3,y3,a4,l4,y4,a5,l5,y5⟩:=d;dsimp only;have HR:=hidK hr
 have hl1 : c.ns.length = l1:=by simpa using (show (c.ns.map ndF).length = l1 from hr.n.1)
 have hm1 : l1 ≤ 9223372036854775807:=Nat.le_trans hr.n.2.1 hr.n.2.2.1
 have hl2 : c.ks.length = l2:=by simpa using (show (c.ks.map kdF).length = l2 from hr.k.1)
 have hm2 : l2 ≤ 9223372036854775807:=Nat.le_trans hr.k.2.1 hr.k.2.2.1
 have hl3 : c.vs.length = l3:=by simpa using (show (c.vs.map vdF).length = l3 from hr.v.1)
 have hm3 : l3 ≤ 9223372036854775807:=Nat.le_trans hr.v.2.1 hr.v.2.2.1
 have hl4 : c.xs.length = l4:=by simpa using (show (c.xs.map xdF).length = l4 from hr.x.1)
 have hm4 : l4 ≤ 9223372036854775807:=Nat.le_trans hr.x.2.1 hr.x.2.2.1
 have hl5 : c.ps.length = l5:=by simpa using (show (c.ps.map pdF).length = l5 from hr.p.1)
 have hm5 : l5 ≤ 9223372036854775807:=Nat.le_trans hr.p.2.1 hr.p.2.2.1;clear hr;have HKS:=hidK hks;have HXS:=hidK hxs;have HVS:=hidK hvs;clear hks hxs hvs
 go_enter Tryz.func101,Tryz.ntmps101
 go_wp2
 go_loopw [3] (fun i wr => ∃ k : Nat,k ≤ l3 ∧ i = .int .i64 k ∧ Hid (∀ (j : Nat) z,j < k → c.vs[j]? = some z → SV c z) ∧ Hid (Below w.heap.size w wr) ∧ Hid (wr.heap[w.heap.size]? = some (.cells #[.slice a1 l1 y1,.slice a2 l2 y2,.slice a3 l3 y3,.slice a4 l4 y4,.slice a5 l5 y5,.int .i64 c.now] 36 (0,0)))) (fun i _ => l3 - (intOf i).toNat)
 case atStart => exact ⟨0,by omega,rfl,fun _ _ h => absurd h (by omega),below1 _ _,Array.getElem?_push_size⟩
 case round =>
  obtain ⟨k,hk,rfl,HQ,HB,Bk⟩:=hrel;have pk:=ck2 Bk.out
  by_cases hlt : k < l3
  ·obtain ⟨b,o,v,rfl,hb,hx,hat⟩:=vd_at (HR.out.v.below HB.out) hlt;obtain ⟨va,vl,vc,hvr,z0,z2,z3,z5,c0,c1,c2,c3,c4,c5,c6,c7⟩:=vd_cells hat;have HXv:=hidK hx;have HTv:=hidK hvr;have HZv0:=hidK z0;have HZv2:=hidK z2;have HZv3:=hidK z3;have HZv5:=hidK z5;clear hat hx z0 z2 z3 z5 hvr;obtain ⟨k0,k1,k2,k3,k4,k5⟩:=cs6 Bk.out;have ltk_0:=lt_of_some Bk.out;go_wp2_with fail;refine (sxxd_any ⟨a1,l1,y1,a2,l2,y2,(some ⟨b,o,none⟩),l3,y3,a4,l4,y4,a5,l5,y5⟩ c.now c.xs v.m _ (HR.out.x.below (HB.out.trans ((below1 _ _).mono HB.out.size)))).mono ?_;rintro e w1 ⟨hb2,hf⟩;clear k0 k1 k2 k3 k4 k5 ltk_0;obtain ⟨HA0,hbx⟩:=slots1 hb2;replace Bk:=upK Bk hbx;have Br:=hidK HA0;replace HB:=upB HB hbx;clear hb2 hbx HA0;clear pk hb c0 c1 c2 c3 c4 c5 c6 c7
   by_cases hkh : KHas c v.k
   rotate_left
   ·have HKH:=hidK hkh;clear hkh
    obtain ⟨r,hre⟩ : ∃ r : Int,e = .returned (.int .i64 r):=by rcases hf with ⟨j,y,_,_,h⟩ | ⟨_,h⟩ <;> exact ⟨_,h⟩
    subst hre;clear hf;have Gk:=Bk;have Gr:=Br;have HW:=HB;obtain ⟨k0,k1,k2,k3,k4,k5⟩:=sl6 Gk;obtain ⟨r0,r1,r2,r3,r4,r5,r6,r7⟩:=sl8 Gr;have hne0:=Wd.ne w1;have HC0:=hidK (fun q : Wd w1 => sxkd_miss ⟨a1,l1,y1,a2,l2,y2,(some ⟨b,o,none⟩),l3,y3,a4,l4,y4,a5,l5,y5⟩ c.now c.ks v.k q.w (HR.out.k.below (HW.out.trans (q.b.mono HW.out.size))) (fun j y h1 h2 => HKH.out ⟨j,y,h1,h2⟩));go_wp2_with fail;refine wp_region_wide (by kernel_rfl) (by kernel_rfl) ?_
    repeat (go_big_quiet_step (first | (go_at_call 121;exact Calls.wide (HC0.out _)) | fail))
    refine wpQuiet_nil ?_;rintro _ ⟨q1,rfl⟩;have HB2:=upB HW q1.b;have Ck:=upK Gk q1.b;have Cr:=upK Gr q1.b;clear hne0 HW HB HC0 k0 k1 k2 k3 k4 k5 r0 r1 r2 r3 r4 r5 r6 r7 Gk Gr Bk Br;have HB:=HB2;clear HB2;have Bk:=Ck;clear Ck;have Br:=Cr;clear Cr
    go_wp2
    go_ret;exact BoolB.f (fun h => HKH.out (h.1 k v HXv.out).1) HB.out
   obtain ⟨i2,kd2,g1,g2⟩:=hkh;have HG1:=hidK g1;have HG2:=hidK g2
   have hi20 : ¬ ((i2 : Int) < 0):=by omega
   have hi21 : decide ((i2 : Int) < 0) = false:=by simp
   clear g1 g2
   by_cases he : v.m = ⟨#[]⟩
   ·have hq:=isE_y he;have HEm:=hidK he;clear he
    obtain ⟨r,hre⟩ : ∃ r : Int,e = .returned (.int .i64 r):=by rcases hf with ⟨j,y,_,_,h⟩ | ⟨_,h⟩ <;> exact ⟨_,h⟩
    subst hre;clear hf;have Gk:=Bk;have Gr:=Br;have HW:=HB;obtain ⟨k0,k1,k2,k3,k4,k5⟩:=sl6 Gk;obtain ⟨r0,r1,r2,r3,r4,r5,r6,r7⟩:=sl8 Gr;have hne0:=Wd.ne w1;have HC0:=hidK (fun q : Wd w1 => sxkd_hit ⟨a1,l1,y1,a2,l2,y2,(some ⟨b,o,none⟩),l3,y3,a4,l4,y4,a5,l5,y5⟩ c.now c.ks v.k q.w (HR.out.k.below (HW.out.trans (q.b.mono HW.out.size))) HKS.out HG1.out HG2.out);go_wp2_with fail;refine wp_region_wide (by kernel_rfl) (by kernel_rfl) ?_
    repeat (go_big_quiet_step (first | (go_at_call 121;exact Calls.wide (HC0.out _)) | fail))
    refine wpQuiet_nil ?_;rintro _ ⟨q1,rfl⟩;have HB2:=upB HW q1.b;have Ck:=upK Gk q1.b;have Cr:=upK Gr q1.b;clear hne0 HW HB HC0 k0 k1 k2 k3 k4 k5 r0 r1 r2 r3 r4 r5 r6 r7 Gk Gr Bk Br;have HB:=HB2;clear HB2;have Bk:=Ck;clear Ck;have Br:=Cr;clear Cr;go_wp2_with fail;refine ⟨⟨k + 1,by omega,by go_num,fun j z hj hz => ?_,HB.out,Bk.out⟩,by simp [intOf];omega⟩
    by_cases e : j = k
    ·subst e;rw [HXv.out] at hz;obtain rfl:=Option.some.inj hz;exact ⟨⟨i2,kd2,HG1.out,HG2.out⟩,.inl HEm.out⟩
    ·exact HQ.out j z (by omega) hz
   have hq:=isE_no he;have HEm:=hidK he;clear he
   rcases hf with ⟨j4,y,h1,h2,rfl⟩ | ⟨hh,rfl⟩
   rotate_left
   ·have HH:=hidK hh;clear hh;have Gk:=Bk;have Gr:=Br;have HW:=HB;obtain ⟨k0,k1,k2,k3,k4,k5⟩:=sl6 Gk;obtain ⟨r0,r1,r2,r3,r4,r5,r6,r7⟩:=sl8 Gr;have hne0:=Wd.ne w1;have HC0:=hidK (fun q : Wd w1 => sxkd_hit ⟨a1,l1,y1,a2,l2,y2,(some ⟨b,o,none⟩),l3,y3,a4,l4,y4,a5,l5,y5⟩ c.now c.ks v.k q.w (HR.out.k.below (HW.out.trans (q.b.mono HW.out.size))) HKS.out HG1.out HG2.out);go_wp2_with fail;refine wp_region_wide (by kernel_rfl) (by kernel_rfl) ?_
    repeat (go_big_quiet_step (first | (go_at_call 121;exact Calls.wide (HC0.out _)) | fail))
    refine wpQuiet_nil ?_;rintro _ ⟨q1,rfl⟩;have HB2:=upB HW q1.b;have Ck:=upK Gk q1.b;have Cr:=upK Gr q1.b;clear hne0 HW HB HC0 k0 k1 k2 k3 k4 k5 r0 r1 r2 r3 r4 r5 r6 r7 Gk Gr Bk Br;have HB:=HB2;clear HB2;have Bk:=Ck;clear Ck;have Br:=Cr;clear Cr
    go_wp2
    go_ret;refine BoolB.f (fun h => ?_) HB.out
    rcases (h.1 k v HXv.out).2 with h2 | ⟨i,y,h2,h3,_⟩
    ·exact HEm.out h2
    ·exact HH.out i y h2 h3
   have hl4' : j4 < l4:=by have h3:=(List.getElem?_eq_some_iff.1 h1).1;omega
   obtain ⟨b4,o4,y',rfl,hb4,hy',hat⟩:=xd_at HR.out.x hl4';rw [h1] at hy';obtain rfl:=Option.some.inj hy';obtain ⟨z0,z2,z4,c0,c1,c2,c3,c4⟩:=xd_cells hat;have HJ:=hidK h1;have HN:=hidK h2;have hcv:=(cell_below HB.out hb4).trans c4;have hbv:=Nat.lt_of_lt_of_le hb4 HB.out.size
   have hj0 : ¬ ((j4 : Int) < 0):=by omega
   have hj1 : decide ((j4 : Int) < 0) = false:=by simp
   clear hy' hat z0 z2 z4 c0 c1 c2 c3 c4 h1 h2
   by_cases hvn : y.v = v.n
   ·have hq2:=tl_yes hvn;have HVN:=hidK hvn;clear hvn;have Gk:=Bk;have Gr:=Br;have HW:=HB;obtain ⟨k0,k1,k2,k3,k4,k5⟩:=sl6 Gk;obtain ⟨r0,r1,r2,r3,r4,r5,r6,r7⟩:=sl8 Gr;have yw:=fun q : Wd w1 => (q.cell hbv).trans hcv;have hne0:=Wd.ne w1;have HC0:=hidK (fun q : Wd w1 => sxkd_hit ⟨a1,l1,y1,a2,l2,y2,(some ⟨b,o,none⟩),l3,y3,(some ⟨b4,o4,none⟩),l4,y4,a5,l5,y5⟩ c.now c.ks v.k q.w (HR.out.k.below (HW.out.trans (q.b.mono HW.out.size))) HKS.out HG1.out HG2.out);go_wp2_with fail;refine wp_region_wide (by kernel_rfl) (by kernel_rfl) ?_
    repeat (go_big_quiet_step (first | (go_at_call 121;exact Calls.wide (HC0.out _)) | fail))
    refine wpQuiet_nil ?_;rintro _ ⟨q1,rfl⟩;have HB2:=upB HW q1.b;have Ck:=upK Gk q1.b;have Cr:=upK Gr q1.b;clear hne0 HW HB HC0 k0 k1 k2 k3 k4 k5 r0 r1 r2 r3 r4 r5 r6 r7 yw Gk Gr Bk Br hcv hbv;have HB:=HB2;clear HB2;have Bk:=Ck;clear Ck;have Br:=Cr;clear Cr;go_wp2_with fail;refine ⟨⟨k + 1,by omega,by go_num,fun j z hj hz => ?_,HB.out,Bk.out⟩,by simp [intOf];omega⟩
    by_cases e : j = k
    ·subst e;rw [HXv.out] at hz;obtain rfl:=Option.some.inj hz;exact ⟨⟨i2,kd2,HG1.out,HG2.out⟩,.inr ⟨j4,y,HJ.out,HN.out,HVN.out⟩⟩
    ·exact HQ.out j z (by omega) hz
   ·have hq2:=tl_no hvn;have HVN:=hidK hvn;clear hvn;have Gk:=Bk;have Gr:=Br;have HW:=HB;obtain ⟨k0,k1,k2,k3,k4,k5⟩:=sl6 Gk;obtain ⟨r0,r1,r2,r3,r4,r5,r6,r7⟩:=sl8 Gr;have yw:=fun q : Wd w1 => (q.cell hbv).trans hcv;have hne0:=Wd.ne w1;have HC0:=hidK (fun q : Wd w1 => sxkd_hit ⟨a1,l1,y1,a2,l2,y2,(some ⟨b,o,none⟩),l3,y3,(some ⟨b4,o4,none⟩),l4,y4,a5,l5,y5⟩ c.now c.ks v.k q.w (HR.out.k.below (HW.out.trans (q.b.mono HW.out.size))) HKS.out HG1.out HG2.out);go_wp2_with fail;refine wp_region_wide (by kernel_rfl) (by kernel_rfl) ?_
    repeat (go_big_quiet_step (first | (go_at_call 121;exact Calls.wide (HC0.out _)) | fail))
    refine wpQuiet_nil ?_;rintro _ ⟨q1,rfl⟩;have HB2:=upB HW q1.b;have Ck:=upK Gk q1.b;have Cr:=upK Gr q1.b;clear hne0 HW HB HC0 k0 k1 k2 k3 k4 k5 r0 r1 r2 r3 r4 r5 r6 r7 yw Gk Gr Bk Br hcv hbv;have HB:=HB2;clear HB2;have Bk:=Ck;clear Ck;have Br:=Cr;clear Cr
    go_wp2
    go_ret;refine BoolB.f (fun h => ?_) HB.out
    rcases (h.1 k v HXv.out).2 with h2 | ⟨i,y2,h2,h3,h4⟩
    ·exact HEm.out h2
    ·obtain ⟨_,rfl⟩:=HXS.out.inj h2 HJ.out (h3.trans HN.out.symm);exact HVN.out h4
  ·obtain rfl : l3 = k:=by omega
   have HQ1 : Hid (∀ (j : Nat) z,c.vs[j]? = some z → SV c z):=fun j z hz => HQ.out j z (by have:=(List.getElem?_eq_some_iff.1 hz).1;omega) hz;clear HQ;have kc:=ck3 Bk.out
   go_wp2
   go_loopw [6] (fun i wr => ∃ k : Nat,k ≤ l4 ∧ i = .int .i64 k ∧ Hid (∀ (j : Nat) z,j < k → c.xs[j]? = some z → SX c z) ∧ Hid (Below w.heap.size w wr) ∧ Hid (wr.heap[w.heap.size]? = some (.cells #[.slice a1 l1 y1,.slice a2 l2 y2,.slice a3 l3 y3,.slice a4 l4 y4,.slice a5 l5 y5,.int .i64 c.now] 36 (0,0)))) (fun i _ => l4 - (intOf i).toNat)
   case atStart => exact ⟨0,by omega,rfl,fun _ _ h => absurd h (by omega),HB.out,Bk.out⟩
   case round =>
    obtain ⟨k,hk,rfl,HQ,HB,Bk⟩:=hrel;have pk:=ck3 Bk.out
    by_cases hlt : k < l4
    ·obtain ⟨b,o,x,rfl,hb,hx,hat⟩:=xd_at (HR.out.x.below HB.out) hlt;obtain ⟨z0,z2,z4,c0,c1,c2,c3,c4⟩:=xd_cells hat;have HXx:=hidK hx;have HZx0:=hidK z0;have HZx2:=hidK z2;have HZx4:=hidK z4;clear hat hx z0 z2 z4;obtain ⟨k0,k1,k2,k3,k4,k5⟩:=cs6 Bk.out;have ltk_0:=lt_of_some Bk.out;go_wp2_with fail;refine (sxvd_any ⟨a1,l1,y1,a2,l2,y2,a3,l3,y3,(some ⟨b,o,none⟩),l4,y4,a5,l5,y5⟩ c.now c.vs x.v _ (HR.out.v.below (HB.out.trans ((below1 _ _).mono HB.out.size)))).mono ?_;rintro e w1 ⟨hb2,hf⟩;clear k0 k1 k2 k3 k4 k5 ltk_0;obtain ⟨HA0,hbx⟩:=slots1 hb2;replace Bk:=upK Bk hbx;have Br:=hidK HA0;replace HB:=upB HB hbx;clear hb2 hbx HA0;clear pk hb c0 c1 c2 c3 c4
     by_cases hkh : KHas c x.k
     rotate_left
     ·have HKH:=hidK hkh;clear hkh
      obtain ⟨r,hre⟩ : ∃ r : Int,e = .returned (.int .i64 r):=by rcases hf with ⟨j,y,_,_,h⟩ | ⟨_,h⟩ <;> exact ⟨_,h⟩
      subst hre;clear hf;obtain ⟨k0,k1,k2,k3,k4,k5⟩:=cs6 Bk.out;have ltk_1:=lt_of_some Bk.out;obtain ⟨r0,r1,r2,r3,r4⟩:=cs5 Br.out;have ltr_1:=lt_of_some Br.out;go_wp2_with fail;refine (sxkd_miss ⟨a1,l1,y1,a2,l2,y2,a3,l3,y3,(some ⟨b,o,none⟩),l4,y4,a5,l5,y5⟩ c.now c.ks x.k _ (HR.out.k.below HB.out) (fun j y h1 h2 => HKH.out ⟨j,y,h1,h2⟩)).mono ?_;rintro e w2 ⟨rfl,hb3⟩;clear k0 k1 k2 k3 k4 k5 ltk_1 r0 r1 r2 r3 r4 ltr_1;replace Bk:=upK Bk hb3;replace Br:=upK Br hb3;replace HB:=upB HB hb3;clear hb3
      go_wp2
      go_ret;exact BoolB.f (fun h => HKH.out (h.2 k x HXx.out).1) HB.out
     obtain ⟨i2,kd2,g1,g2⟩:=hkh;have HG1:=hidK g1;have HG2:=hidK g2
     have hi20 : ¬ ((i2 : Int) < 0):=by omega
     have hi21 : decide ((i2 : Int) < 0) = false:=by simp
     clear g1 g2
     by_cases he : x.v = ⟨#[]⟩
     ·have hq:=isE_y he;have HEm:=hidK he;clear he
      obtain ⟨r,hre⟩ : ∃ r : Int,e = .returned (.int .i64 r):=by rcases hf with ⟨j,y,_,_,h⟩ | ⟨_,h⟩ <;> exact ⟨_,h⟩
      subst hre;clear hf;obtain ⟨k0,k1,k2,k3,k4,k5⟩:=cs6 Bk.out;have ltk_1:=lt_of_some Bk.out;obtain ⟨r0,r1,r2,r3,r4⟩:=cs5 Br.out;have ltr_1:=lt_of_some Br.out;go_wp2_with fail;refine (sxkd_hit ⟨a1,l1,y1,a2,l2,y2,a3,l3,y3,(some ⟨b,o,none⟩),l4,y4,a5,l5,y5⟩ c.now c.ks x.k _ (HR.out.k.below HB.out) HKS.out HG1.out HG2.out).mono ?_;rintro e w2 ⟨rfl,hb3⟩;clear k0 k1 k2 k3 k4 k5 ltk_1 r0 r1 r2 r3 r4 ltr_1;replace Bk:=upK Bk hb3;replace Br:=upK Br hb3;replace HB:=upB HB hb3;clear hb3;obtain ⟨k0,k1,k2,k3,k4,k5⟩:=cs6 Bk.out;have ltk_2:=lt_of_some Bk.out;obtain ⟨r0,r1,r2,r3,r4⟩:=cs5 Br.out;have ltr_2:=lt_of_some Br.out;go_wp2_with fail;refine ⟨⟨k + 1,by omega,by go_num,fun j z hj hz => ?_,HB.out,Bk.out⟩,by simp [intOf];omega⟩
      by_cases e : j = k
      ·subst e;rw [HXx.out] at hz;obtain rfl:=Option.some.inj hz;exact ⟨⟨i2,kd2,HG1.out,HG2.out⟩,.inl HEm.out⟩
      ·exact HQ.out j z (by omega) hz
     have hq:=isE_no he;have HEm:=hidK he;clear he
     rcases hf with ⟨j3,y,h1,h2,rfl⟩ | ⟨hh,rfl⟩
     rotate_left
     ·have HH:=hidK hh;clear hh;obtain ⟨k0,k1,k2,k3,k4,k5⟩:=cs6 Bk.out;have ltk_1:=lt_of_some Bk.out;obtain ⟨r0,r1,r2,r3,r4⟩:=cs5 Br.out;have ltr_1:=lt_of_some Br.out;go_wp2_with fail;refine (sxkd_hit ⟨a1,l1,y1,a2,l2,y2,a3,l3,y3,(some ⟨b,o,none⟩),l4,y4,a5,l5,y5⟩ c.now c.ks x.k _ (HR.out.k.below HB.out) HKS.out HG1.out HG2.out).mono ?_;rintro e w2 ⟨rfl,hb3⟩;clear k0 k1 k2 k3 k4 k5 ltk_1 r0 r1 r2 r3 r4 ltr_1;replace Bk:=upK Bk hb3;replace Br:=upK Br hb3;replace HB:=upB HB hb3;clear hb3;have pr:=ck4 Br.out;have Gk:=Bk;have Gr:=Br;have HW:=HB;have k2:=fun q : Wd w2 => q.slot (o:=2) Gk.out rfl;obtain ⟨r0,r1,r2,r3,r4⟩:=sl5 Gr;have hne0:=Wd.ne w2;go_wp2_with fail;refine wp_region_wide (by kernel_rfl) (by kernel_rfl) ?_
      repeat (go_big_quiet_step (first | fail))
      refine wpQuiet_nil ?_;rintro _ ⟨q1,rfl⟩;have HB3:=upB HW q1.b;have Ck:=upK Gk q1.b;have Cr:=upK Gr q1.b;clear hne0 HW HB k2 r0 r1 r2 r3 r4 Gk Gr Bk Br pr;have HB:=HB3;clear HB3;have Bk:=Ck;clear Ck;have Br:=Cr;clear Cr
      go_wp2
      go_ret;refine BoolB.f (fun h => ?_) HB.out
      rcases (h.2 k x HXx.out).2 with h2 | ⟨i,y,h2,h3,_⟩
      ·exact HEm.out h2
      ·exact HH.out i y h2 h3
     have hl3' : j3 < l3:=by have h3:=(List.getElem?_eq_some_iff.1 h1).1;omega
     obtain ⟨b3,o3,y',rfl,hb3,hy',hat⟩:=vd_at HR.out.v hl3';rw [h1] at hy';obtain rfl:=Option.some.inj hy';obtain ⟨va,vl,vc,hvr,z0,z2,z3,z5,c0,c1,c2,c3,c4,c5,c6,c7⟩:=vd_cells hat;have HJ:=hidK h1;have HN:=hidK h2
     have hj0 : ¬ ((j3 : Int) < 0):=by omega
     have hj1 : decide ((j3 : Int) < 0) = false:=by simp
     have HC1:=hidK c1;have HC3:=hidK c3;have HC4:=hidK c4;have HC5:=hidK c5;have HB3:=hidK hb3;clear hy' hat hvr z0 z2 z3 z5 c0 c1 c2 c3 c4 c5 c6 c7 h1 h2 hb3;obtain ⟨k0,k1,k2,k3,k4,k5⟩:=cs6 Bk.out;have ltk_1:=lt_of_some Bk.out;obtain ⟨r0,r1,r2,r3,r4⟩:=cs5 Br.out;have ltr_1:=lt_of_some Br.out;go_wp2_with fail;refine (sxkd_hit ⟨a1,l1,y1,a2,l2,y2,(some ⟨b3,o3,none⟩),l3,y3,(some ⟨b,o,none⟩),l4,y4,a5,l5,y5⟩ c.now c.ks x.k _ (HR.out.k.below HB.out) HKS.out HG1.out HG2.out).mono ?_;rintro e w2 ⟨rfl,hb3⟩;clear k0 k1 k2 k3 k4 k5 ltk_1 r0 r1 r2 r3 r4 ltr_1;replace Bk:=upK Bk hb3;replace Br:=upK Br hb3;replace HB:=upB HB hb3;clear hb3;have pr:=ck4 Br.out;have hbv:=Nat.lt_of_lt_of_le HB3.out HB.out.size;have v1:=(cell_below HB.out HB3.out).trans HC1.out;have v3:=(cell_below HB.out HB3.out).trans HC3.out;have v4:=(cell_below HB.out HB3.out).trans HC4.out;have v5:=(cell_below HB.out HB3.out).trans HC5.out;clear HC1 HC3 HC4 HC5 HB3
     by_cases hno : y.m = x.n
     rotate_left
     ·have HNo:=hidK hno;clear hno;have n1:=tl_no HNo.out;have Gk:=Bk;have Gr:=Br;have HW:=HB;have k2:=fun q : Wd w2 => q.slot (o:=2) Gk.out rfl;obtain ⟨r0,r1,r2,r3,r4⟩:=sl5 Gr;have v1w:=fun q : Wd w2 => (q.cell hbv).trans v1;have v3w:=fun q : Wd w2 => (q.cell hbv).trans v3;have v4w:=fun q : Wd w2 => (q.cell hbv).trans v4;have v5w:=fun q : Wd w2 => (q.cell hbv).trans v5;have hne0:=Wd.ne w2;go_wp2_with fail;refine wp_region_wide (by kernel_rfl) (by kernel_rfl) ?_
      repeat (go_big_quiet_step (first | fail))
      refine wpQuiet_nil ?_;rintro _ ⟨q1,rfl⟩;have HB3:=upB HW q1.b;have Ck:=upK Gk q1.b;have Cr:=upK Gr q1.b;clear hne0 HW HB k2 r0 r1 r2 r3 r4 v1w v3w v4w v5w Gk Gr Bk Br pr v1 v3 v4 v5 hbv;have HB:=HB3;clear HB3;have Bk:=Ck;clear Ck;have Br:=Cr;clear Cr
      go_wp2
      go_ret;refine BoolB.f (fun h => ?_) HB.out
      rcases (h.2 k x HXx.out).2 with h2 | ⟨i,y2,h2,h3,h4⟩
      ·exact HEm.out h2
      ·obtain ⟨_,rfl⟩:=HVS.out.inj h2 HJ.out (h3.trans HN.out.symm);exact HNo.out h4.1
     have HY1:=hidK hno;have q1:=tl_yes hno;clear hno
     by_cases hno : x.z ≤ y.c
     rotate_left
     ·have HNo:=hidK hno;clear hno
      have n1 : y.c < x.z:=by have:=HNo.out;omega
      have Gk:=Bk;have Gr:=Br;have HW:=HB;have k2:=fun q : Wd w2 => q.slot (o:=2) Gk.out rfl;obtain ⟨r0,r1,r2,r3,r4⟩:=sl5 Gr;have v1w:=fun q : Wd w2 => (q.cell hbv).trans v1;have v3w:=fun q : Wd w2 => (q.cell hbv).trans v3;have v4w:=fun q : Wd w2 => (q.cell hbv).trans v4;have v5w:=fun q : Wd w2 => (q.cell hbv).trans v5;have hne0:=Wd.ne w2;go_wp2_with fail;refine wp_region_wide (by kernel_rfl) (by kernel_rfl) ?_
      repeat (go_big_quiet_step (first | fail))
      refine wpQuiet_nil ?_;rintro _ ⟨q1,rfl⟩;have HB3:=upB HW q1.b;have Ck:=upK Gk q1.b;have Cr:=upK Gr q1.b;clear hne0 HW HB k2 r0 r1 r2 r3 r4 v1w v3w v4w v5w Gk Gr Bk Br pr v1 v3 v4 v5 hbv;have HB:=HB3;clear HB3;have Bk:=Ck;clear Ck;have Br:=Cr;clear Cr
      go_wp2
      go_ret;refine BoolB.f (fun h => ?_) HB.out
      rcases (h.2 k x HXx.out).2 with h2 | ⟨i,y2,h2,h3,h4⟩
      ·exact HEm.out h2
      ·obtain ⟨_,rfl⟩:=HVS.out.inj h2 HJ.out (h3.trans HN.out.symm);have h5:=h4.2.1;have h6:=HNo.out;omega
     have HY2:=hidK hno
     have q2 : decide (y.c < x.z) = false:=by simp;omega
     clear hno
     by_cases hno : y.k = x.k
     rotate_left
     ·have HNo:=hidK hno;clear hno;have n1:=tl_no HNo.out;have Gk:=Bk;have Gr:=Br;have HW:=HB;have k2:=fun q : Wd w2 => q.slot (o:=2) Gk.out rfl;obtain ⟨r0,r1,r2,r3,r4⟩:=sl5 Gr;have v1w:=fun q : Wd w2 => (q.cell hbv).trans v1;have v3w:=fun q : Wd w2 => (q.cell hbv).trans v3;have v4w:=fun q : Wd w2 => (q.cell hbv).trans v4;have v5w:=fun q : Wd w2 => (q.cell hbv).trans v5;have hne0:=Wd.ne w2;go_wp2_with fail;refine wp_region_wide (by kernel_rfl) (by kernel_rfl) ?_
      repeat (go_big_quiet_step (first | fail))
      refine wpQuiet_nil ?_;rintro _ ⟨q1,rfl⟩;have HB3:=upB HW q1.b;have Ck:=upK Gk q1.b;have Cr:=upK Gr q1.b;clear hne0 HW HB k2 r0 r1 r2 r3 r4 v1w v3w v4w v5w Gk Gr Bk Br pr v1 v3 v4 v5 hbv;have HB:=HB3;clear HB3;have Bk:=Ck;clear Ck;have Br:=Cr;clear Cr
      go_wp2
      go_ret;refine BoolB.f (fun h => ?_) HB.out
      rcases (h.2 k x HXx.out).2 with h2 | ⟨i,y2,h2,h3,h4⟩
      ·exact HEm.out h2
      ·obtain ⟨_,rfl⟩:=HVS.out.inj h2 HJ.out (h3.trans HN.out.symm);exact HNo.out h4.2.2.1
     have HY3:=hidK hno;have q3:=tl_yes hno;clear hno
     by_cases hno : y.x = x.x
     rotate_left
     ·have HNo:=hidK hno;clear hno
      have n1 : (y.x == x.x) = false:=by simpa using HNo.out
      have Gk:=Bk;have Gr:=Br;have HW:=HB;have k2:=fun q : Wd w2 => q.slot (o:=2) Gk.out rfl;obtain ⟨r0,r1,r2,r3,r4⟩:=sl5 Gr;have v1w:=fun q : Wd w2 => (q.cell hbv).trans v1;have v3w:=fun q : Wd w2 => (q.cell hbv).trans v3;have v4w:=fun q : Wd w2 => (q.cell hbv).trans v4;have v5w:=fun q : Wd w2 => (q.cell hbv).trans v5;have hne0:=Wd.ne w2;go_wp2_with fail;refine wp_region_wide (by kernel_rfl) (by kernel_rfl) ?_
      repeat (go_big_quiet_step (first | fail))
      refine wpQuiet_nil ?_;rintro _ ⟨q1,rfl⟩;have HB3:=upB HW q1.b;have Ck:=upK Gk q1.b;have Cr:=upK Gr q1.b;clear hne0 HW HB k2 r0 r1 r2 r3 r4 v1w v3w v4w v5w Gk Gr Bk Br pr v1 v3 v4 v5 hbv;have HB:=HB3;clear HB3;have Bk:=Ck;clear Ck;have Br:=Cr;clear Cr
      go_wp2
      go_ret;refine BoolB.f (fun h => ?_) HB.out
      rcases (h.2 k x HXx.out).2 with h2 | ⟨i,y2,h2,h3,h4⟩
      ·exact HEm.out h2
      ·obtain ⟨_,rfl⟩:=HVS.out.inj h2 HJ.out (h3.trans HN.out.symm);exact HNo.out h4.2.2.2
     have HY4:=hidK hno
     have q4 : (y.x == x.x) = true:=by simpa using hno
     clear hno;have Gk:=Bk;have Gr:=Br;have HW:=HB;have k2:=fun q : Wd w2 => q.slot (o:=2) Gk.out rfl;obtain ⟨r0,r1,r2,r3,r4⟩:=sl5 Gr;have v1w:=fun q : Wd w2 => (q.cell hbv).trans v1;have v3w:=fun q : Wd w2 => (q.cell hbv).trans v3;have v4w:=fun q : Wd w2 => (q.cell hbv).trans v4;have v5w:=fun q : Wd w2 => (q.cell hbv).trans v5;have hne0:=Wd.ne w2;go_wp2_with fail;refine wp_region_wide (by kernel_rfl) (by kernel_rfl) ?_
     repeat (go_big_quiet_step (first | fail))
     refine wpQuiet_nil ?_;rintro _ ⟨qz,rfl⟩;have HB3:=upB HW qz.b;have Ck:=upK Gk qz.b;have Cr:=upK Gr qz.b;clear hne0 HW HB k2 r0 r1 r2 r3 r4 v1w v3w v4w v5w Gk Gr Bk Br pr v1 v3 v4 v5 hbv;have HB:=HB3;clear HB3;have Bk:=Ck;clear Ck;have Br:=Cr;clear Cr;clear q1 q2 q3 q4;go_wp2_with fail;refine ⟨⟨k + 1,by omega,by go_num,fun j z hj hz => ?_,HB.out,Bk.out⟩,by simp [intOf];omega⟩
     by_cases e : j = k
     ·subst e;rw [HXx.out] at hz;obtain rfl:=Option.some.inj hz;exact ⟨⟨i2,kd2,HG1.out,HG2.out⟩,.inr ⟨j3,y,HJ.out,HN.out,HY1.out,HY2.out,HY3.out,HY4.out⟩⟩
     ·exact HQ.out j z (by omega) hz
    ·obtain rfl : l4 = k:=by omega
     have HQ2 : Hid (∀ (j : Nat) z,c.xs[j]? = some z → SX c z):=fun j z hz => HQ.out j z (by have:=(List.getElem?_eq_some_iff.1 hz).1;omega) hz;clear HQ
     go_wp2
     go_ret;exact BoolB.t ⟨HQ1.out,HQ2.out⟩ HB.out

def PSa (c : Cl) (p : Pd) : Prop:=p.d = ⟨#[]⟩ ∨ ∃ (i : Nat) (n : Nd),c.ns[i]? = some n ∧ n.n = p.d ∧ (p.z = ⟨#[]⟩ ∨ n.z = p.z)
def PSb1 (c : Cl) (p : Pd) (t : ByteArray) : Prop:=(∃ (i : Nat) (x : Xd),c.xs[i]? = some x ∧ x.n = t) ∧ (p.d = ⟨#[]⟩ ∨ ∃ (v : Vd) (i : Nat) (n : Nd),IsBd c t v ∧ c.ns[i]? = some n ∧ n.n = p.d ∧ v.z = n.z)
def PSb (c : Cl) (p : Pd) : Prop:=∀ (j : Nat) t,p.zs[j]? = some t → PSb1 c p t
def PSc (c : Cl) (k : Nat) (p : Pd) : Prop:=∀ (j : Nat) q,j < k → c.ps[j]? = some q → PairS c q p
def PS (c : Cl) (k : Nat) (p : Pd) : Prop:=PSa c p ∧ PSb c p ∧ PSc c k p
def PlacedS (c : Cl) : Prop:=(∀ (k : Nat) p,c.ps[k]? = some p → PS c k p) ∧ ∀ (j : Nat) n,c.ns[j]? = some n → cpuOf n.n c.ps ≤ n.c

theorem splaced_any (d : Ad) (c : Cl) (w : World) (hr : ClRow w d c.raw) (hn : RisBy Nd.n c.ns) (hx : RisBy Xd.n c.xs) (hv : RisBy Vd.n c.vs) (hne : ∀ (j : Nat) v,c.vs[j]? = some v → ¬ v.n = ⟨#[]⟩) (hps8 : c.ps.length ≤ 8) (hpc : ∀ (j : Nat) p,c.ps[j]? = some p → 0 ≤ p.c ∧ p.c ≤ 1000000) :
  Calls Tryz.prog 102 #[.agg #[.slice d.a1 d.l1 d.c1,.slice d.a2 d.l2 d.c2,.slice d.a3 d.l3 d.c3,.slice d.a4 d.l4 d.c4,.slice d.a5 d.l5 d.c5,.int .i64 c.now]] w (BoolB (PlacedS c) w):=by
 obtain ⟨a1,l1,y1,a2,l2,y2,a3,l3,y3,a4,l4,y4,a5,l5,y5⟩:=d;dsimp only;have HR:=hidK hr
 have hl1 : c.ns.length = l1:=by simpa using (show (c.ns.map ndF).length = l1 from hr.n.1)
 have hm1 : l1 ≤ 9223372036854775807:=Nat.le_trans hr.n.2.1 hr.n.2.2.1
 have hl3 : c.vs.length = l3:=by simpa using (show (c.vs.map vdF).length = l3 from hr.v.1)
 have hl5 : c.ps.length = l5:=by simpa using (show (c.ps.map pdF).length = l5 from hr.p.1)
 have hm5 : l5 ≤ 9223372036854775807:=Nat.le_trans hr.p.2.1 hr.p.2.2.1;clear hr;have HNR:=hidK hn;have HX:=hidK hx;have HV:=hidK hv;have HNE:=hidK hne;have HL5:=hidK hps8;have HPC:=hidK hpc;clear hn hx hv hne hps8 hpc
 go_enter Tryz.func102,Tryz.ntmps102
 go_wp2
 go_loopw [3] (fun i wr => ∃ k : Nat,k ≤ l5 ∧ i = .int .i64 k ∧ Hid (∀ (j : Nat) z,j < k → c.ps[j]? = some z → PS c j z) ∧ Hid (Below w.heap.size w wr) ∧ Hid (wr.heap[w.heap.size]? = some (.cells #[.slice a1 l1 y1,.slice a2 l2 y2,.slice a3 l3 y3,.slice a4 l4 y4,.slice a5 l5 y5,.int .i64 c.now] 36 (0,0)))) (fun i _ => l5 - (intOf i).toNat)
 case atStart => exact ⟨0,by omega,rfl,fun _ _ h => absurd h (by omega),below1 _ _,Array.getElem?_push_size⟩
 case round =>
  obtain ⟨k,hk,rfl,HQ,HB,Bk⟩:=hrel;have pk:=ck4 Bk.out
  by_cases hlt : k < l5
  ·obtain ⟨b,o,p,rfl,hb,hx,hat⟩:=pd_at (HR.out.p.below HB.out) hlt;obtain ⟨va,vl,vc,hvr,z0,z2,z4,c0,c1,c2,c3,c4,c5⟩:=pd_cells hat;have HXp:=hidK hx;have HTp:=hidK hvr;clear hat hx z0 z2 z4 hvr;have hvl:=HTp.out.1;have hvc:=Nat.le_trans HTp.out.2.1 HTp.out.2.2.1;have HVL:=hidK hvl;clear hvl;obtain ⟨k0,k1,k2,k3,k4,k5⟩:=cs6 Bk.out;have ltk_0:=lt_of_some Bk.out;go_wp2_with fail;refine (sxnd_any ⟨a1,l1,y1,a2,l2,y2,a3,l3,y3,a4,l4,y4,(some ⟨b,o,none⟩),l5,y5⟩ c.now c.ns p.d _ (HR.out.n.below (HB.out.trans ((below1 _ _).mono HB.out.size)))).mono ?_;rintro e w1 ⟨hb2,hf⟩;clear k0 k1 k2 k3 k4 k5 ltk_0;obtain ⟨HA0,hbx⟩:=slots1 hb2;replace Bk:=upK Bk hbx;have Br:=hidK HA0;replace HTp:=hidK (HTp.out.below hbx);replace HB:=upB HB hbx;clear hb2 hbx HA0;clear pk hb c0 c1 c2 c3 c4 c5
   by_cases he : p.d = ⟨#[]⟩
   ·have hq:=isE_y he;have HEm:=hidK he;clear he
    obtain ⟨r5,hre⟩ : ∃ r : Int,e = .returned (.int .i64 r):=by rcases hf with ⟨j,y,_,_,h⟩ | ⟨_,h⟩ <;> exact ⟨_,h⟩
    subst hre;clear hf;have Gk:=Bk;have Gr:=Br;have HW:=HB;have k0:=fun q : Wd w1 => q.slot (o:=0) Gk.out rfl;obtain ⟨r0,r1,r2,r3,r4,r5⟩:=sl6 Gr;have hne0:=Wd.ne w1;go_wp2_with fail;refine wp_region_wide (by kernel_rfl) (by kernel_rfl) ?_
    repeat (go_big_quiet_step (first | fail))
    refine wpQuiet_nil ?_;rintro _ ⟨q0,rfl⟩;have HB2:=upB HW q0.b;have Ck:=upK Gk q0.b;have Cr:=upK Gr q0.b;have CHTp:=hidK ((HTp.out).below q0.b);clear hne0 HW HB k0 r0 r1 r2 r3 r4 r5 Gk Gr Bk Br HTp;have HB:=HB2;clear HB2;have HTp:=CHTp;clear CHTp;have Bk:=Ck;clear Ck;have Br:=Cr;clear Cr;have HPa : Hid (PSa c p):=.inl HEm.out;obtain ⟨gb,hgb⟩ : ∃ gb,gb = wr.heap.size:=⟨_,rfl⟩;rw [← hgb] at Br;have pr3:=ck3 Br.out;rw [hgb] at pr3
    go_wp2
    rw [← hgb];clear pr3 hgb;have KV:=Bk;have GV:=Br;have BV:=HB;have TV:=HTp;clear Bk Br HB HTp;obtain ⟨W,hW⟩ : ∃ W,W = q0.w:=⟨_,rfl⟩;rw [← hW] at KV GV BV TV ⊢;clear hW
    go_loopw [6] (fun i wr => ∃ kq : Nat,kq ≤ vl ∧ i = .int .i64 kq ∧ Hid (∀ (j : Nat) t,j < kq → p.zs[j]? = some t → PSb1 c p t) ∧ Hid (Below W.heap.size W wr)) (fun i _ => vl - (intOf i).toNat)
    case atStart => exact ⟨0,by omega,rfl,fun _ _ h => absurd h (by omega),Below.refl _ _⟩
    case round =>
     obtain ⟨kq,hkq,rfl,HQ2,HBW⟩:=hrel;have HB:=hidK (BV.out.trans (HBW.out.mono BV.out.size));have Bk:=upK KV HBW.out;have Br:=upK GV HBW.out;have pr3:=ck3 Br.out
     by_cases hlt2 : kq < vl
     ·obtain ⟨b2,o2,t,rfl,hb,hxt,hc,hsz⟩:=(TV.out.below HBW.out).at hlt2;have HXt:=hidK hxt;clear hxt hsz
      have hcase : (∃ v,IsBd c t v) ∨ (∀ v,¬ IsBd c t v):=by
       by_cases h : ∃ v,IsBd c t v
       ·exact .inl h
       ·exact .inr (fun v hv => h ⟨v,hv⟩)
      rcases hcase with ⟨v,hbd⟩ | hbd
      ·obtain ⟨j3,hj3⟩:=hbd.at
       have hl3' : j3 < l3:=by have h1:=(List.getElem?_eq_some_iff.1 hj3).1;omega
       obtain ⟨b3,o3,v',rfl,hb3,hv',hat⟩:=vd_at HR.out.v hl3';rw [hj3] at hv';obtain rfl:=Option.some.inj hv';obtain ⟨xa,xl,xc,hvr,z0,z2,z3,z5,d0,d1,d2,d3,d4,d5,d6,d7⟩:=vd_cells hat;have HJ:=hidK hj3;have HD:=hidK hbd;have HC2:=hidK d2;have HB3:=hidK hb3
       have hj31 : decide ((j3 : Int) < 0) = false:=by simp
       clear hv' hat hvr z0 z2 z3 z5 d0 d1 d2 d3 d4 d5 d6 d7 hj3 hbd hb3;have Gk:=Bk;have Gr:=Br;have HW:=HB;obtain ⟨k0,k1,k2,k3,k4,k5⟩:=sl6 Gk;have r3:=fun q : Wd wr => q.slot (o:=3) Gr.out rfl;have tw:=fun q : Wd wr => (q.cell hb).trans hc;have hne0:=Wd.ne wr;have HC0:=hidK (fun q : Wd wr => sbind_hit ⟨a1,l1,y1,a2,l2,y2,(some ⟨b3,o3,none⟩),l3,y3,a4,l4,y4,(some ⟨b,o,none⟩),l5,y5⟩ c t q.w (HR.out.below (HW.out.trans (q.b.mono HW.out.size))) HX.out HV.out HNE.out HJ.out HD.out);go_wp2_with fail;refine wp_region_wide (by kernel_rfl) (by kernel_rfl) ?_
       repeat (go_big_quiet_step (first | (go_at_call 81;exact Calls.wide (HC0.out _)) | fail))
       refine wpQuiet_nil ?_;rintro _ ⟨q1,rfl⟩;have HB1:=upB HW q1.b;have Ck:=upK Gk q1.b;have Cr:=upK Gr q1.b;clear hne0 HW HB HC0 k0 k1 k2 k3 k4 k5 r3 tw Gk Gr Bk Br pr3;have HB:=HB1;clear HB1;have Bk:=Ck;clear Ck;have Br:=Cr;clear Cr;have hc1:=(q1.cell hb).trans hc;have hb1:=Nat.lt_of_lt_of_le hb q1.b.size;have HBW1:=upB HBW q1.b;clear hc hb HBW
       by_cases hg : ∃ (i : Nat) (x : Xd),c.xs[i]? = some x ∧ x.n = t
       rotate_left
       ·have HG:=hidK hg;clear hg;have Gk:=Bk;have Gr:=Br;have HW:=HB;obtain ⟨k0,k1,k2,k3,k4,k5⟩:=sl6 Gk;obtain ⟨r0,r1,r2,r3,r4,r5⟩:=sl6 Gr;have tw:=fun q : Wd q1.w => (q.cell hb1).trans hc1;have hne0:=Wd.ne q1.w;have HC0:=hidK (fun q : Wd q1.w => sxxd_miss ⟨a1,l1,y1,a2,l2,y2,(some ⟨b3,o3,none⟩),l3,y3,a4,l4,y4,(some ⟨b,o,none⟩),l5,y5⟩ c.now c.xs t q.w (HR.out.x.below (HW.out.trans (q.b.mono HW.out.size))) (fun i x h1 h2 => HG.out ⟨i,x,h1,h2⟩));go_wp2_with fail;refine wp_region_wide (by kernel_rfl) (by kernel_rfl) ?_
        repeat (go_big_quiet_step (first | (go_at_call 105;exact Calls.wide (HC0.out _)) | fail))
        refine wpQuiet_nil ?_;rintro _ ⟨q2,rfl⟩;have HB2:=upB HW q2.b;have Ck:=upK Gk q2.b;have Cr:=upK Gr q2.b;clear hne0 HW HB HC0 k0 k1 k2 k3 k4 k5 r0 r1 r2 r3 r4 r5 tw Gk Gr Bk Br hc1 hb1;have HB:=HB2;clear HB2;have Bk:=Ck;clear Ck;have Br:=Cr;clear Cr
        go_wp2
        go_ret;refine BoolB.f (fun h => ?_) HB.out;have h9:=(h.1 k p HXp.out).2.1 kq t HXt.out;exact HG.out h9.1
       obtain ⟨i4,x4,g1,g2⟩:=hg;have HG1:=hidK g1;have HG2:=hidK g2
       have hi41 : decide ((i4 : Int) < 0) = false:=by simp
       clear g1 g2;have Gk:=Bk;have Gr:=Br;have HW:=HB;obtain ⟨k0,k1,k2,k3,k4,k5⟩:=sl6 Gk;obtain ⟨r0,r1,r2,r3,r4,r5⟩:=sl6 Gr;have tw:=fun q : Wd q1.w => (q.cell hb1).trans hc1;have hne0:=Wd.ne q1.w;have HC0:=hidK (fun q : Wd q1.w => sxxd_hit ⟨a1,l1,y1,a2,l2,y2,(some ⟨b3,o3,none⟩),l3,y3,a4,l4,y4,(some ⟨b,o,none⟩),l5,y5⟩ c.now c.xs t q.w (HR.out.x.below (HW.out.trans (q.b.mono HW.out.size))) HX.out HG1.out HG2.out);go_wp2_with fail;refine wp_region_wide (by kernel_rfl) (by kernel_rfl) ?_
       repeat (go_big_quiet_step (first | (go_at_call 105;exact Calls.wide (HC0.out _)) | fail))
       refine wpQuiet_nil ?_;rintro _ ⟨q2,rfl⟩;have HB2:=upB HW q2.b;have Ck:=upK Gk q2.b;have Cr:=upK Gr q2.b;clear hne0 HW HB HC0 k0 k1 k2 k3 k4 k5 r0 r1 r2 r3 r4 r5 tw Gk Gr Bk Br hc1 hb1;have HB:=HB2;clear HB2;have Bk:=Ck;clear Ck;have Br:=Cr;clear Cr;go_wp2_with fail;refine ⟨⟨kq + 1,by omega,by go_num,fun j s hj hs => ?_,HBW1.out.trans (q2.b.mono HBW1.out.size)⟩,by simp [intOf];omega⟩
       by_cases e : j = kq
       ·subst e;rw [HXt.out] at hs;obtain rfl:=Option.some.inj hs;exact ⟨⟨i4,x4,HG1.out,HG2.out⟩,.inl HEm.out⟩
       ·exact HQ2.out j s (by omega) hs
      ·have HD:=hidK hbd;clear hbd;have Gk:=Bk;have Gr:=Br;have HW:=HB;obtain ⟨k0,k1,k2,k3,k4,k5⟩:=sl6 Gk;have r3:=fun q : Wd wr => q.slot (o:=3) Gr.out rfl;have tw:=fun q : Wd wr => (q.cell hb).trans hc;have hne0:=Wd.ne wr;have HC0:=hidK (fun q : Wd wr => sbind_miss ⟨a1,l1,y1,a2,l2,y2,a3,l3,y3,a4,l4,y4,(some ⟨b,o,none⟩),l5,y5⟩ c t q.w (HR.out.below (HW.out.trans (q.b.mono HW.out.size))) HX.out HV.out HNE.out HD.out);go_wp2_with fail;refine wp_region_wide (by kernel_rfl) (by kernel_rfl) ?_
       repeat (go_big_quiet_step (first | (go_at_call 81;exact Calls.wide (HC0.out _)) | fail))
       refine wpQuiet_nil ?_;rintro _ ⟨q1,rfl⟩;have HB1:=upB HW q1.b;have Ck:=upK Gk q1.b;have Cr:=upK Gr q1.b;clear hne0 HW HB HC0 k0 k1 k2 k3 k4 k5 r3 tw Gk Gr Bk Br pr3;have HB:=HB1;clear HB1;have Bk:=Ck;clear Ck;have Br:=Cr;clear Cr;have hc1:=(q1.cell hb).trans hc;have hb1:=Nat.lt_of_lt_of_le hb q1.b.size;have HBW1:=upB HBW q1.b;clear hc hb HBW
       by_cases hg : ∃ (i : Nat) (x : Xd),c.xs[i]? = some x ∧ x.n = t
       rotate_left
       ·have HG:=hidK hg;clear hg;have Gk:=Bk;have Gr:=Br;have HW:=HB;obtain ⟨k0,k1,k2,k3,k4,k5⟩:=sl6 Gk;obtain ⟨r0,r1,r2,r3,r4,r5⟩:=sl6 Gr;have tw:=fun q : Wd q1.w => (q.cell hb1).trans hc1;have hne0:=Wd.ne q1.w;have HC0:=hidK (fun q : Wd q1.w => sxxd_miss ⟨a1,l1,y1,a2,l2,y2,a3,l3,y3,a4,l4,y4,(some ⟨b,o,none⟩),l5,y5⟩ c.now c.xs t q.w (HR.out.x.below (HW.out.trans (q.b.mono HW.out.size))) (fun i x h1 h2 => HG.out ⟨i,x,h1,h2⟩));go_wp2_with fail;refine wp_region_wide (by kernel_rfl) (by kernel_rfl) ?_
        repeat (go_big_quiet_step (first | (go_at_call 105;exact Calls.wide (HC0.out _)) | fail))
        refine wpQuiet_nil ?_;rintro _ ⟨q2,rfl⟩;have HB2:=upB HW q2.b;have Ck:=upK Gk q2.b;have Cr:=upK Gr q2.b;clear hne0 HW HB HC0 k0 k1 k2 k3 k4 k5 r0 r1 r2 r3 r4 r5 tw Gk Gr Bk Br hc1 hb1;have HB:=HB2;clear HB2;have Bk:=Ck;clear Ck;have Br:=Cr;clear Cr
        go_wp2
        go_ret;refine BoolB.f (fun h => ?_) HB.out;have h9:=(h.1 k p HXp.out).2.1 kq t HXt.out;exact HG.out h9.1
       obtain ⟨i4,x4,g1,g2⟩:=hg;have HG1:=hidK g1;have HG2:=hidK g2
       have hi41 : decide ((i4 : Int) < 0) = false:=by simp
       clear g1 g2;have Gk:=Bk;have Gr:=Br;have HW:=HB;obtain ⟨k0,k1,k2,k3,k4,k5⟩:=sl6 Gk;obtain ⟨r0,r1,r2,r3,r4,r5⟩:=sl6 Gr;have tw:=fun q : Wd q1.w => (q.cell hb1).trans hc1;have hne0:=Wd.ne q1.w;have HC0:=hidK (fun q : Wd q1.w => sxxd_hit ⟨a1,l1,y1,a2,l2,y2,a3,l3,y3,a4,l4,y4,(some ⟨b,o,none⟩),l5,y5⟩ c.now c.xs t q.w (HR.out.x.below (HW.out.trans (q.b.mono HW.out.size))) HX.out HG1.out HG2.out);go_wp2_with fail;refine wp_region_wide (by kernel_rfl) (by kernel_rfl) ?_
       repeat (go_big_quiet_step (first | (go_at_call 105;exact Calls.wide (HC0.out _)) | fail))
       refine wpQuiet_nil ?_;rintro _ ⟨q2,rfl⟩;have HB2:=upB HW q2.b;have Ck:=upK Gk q2.b;have Cr:=upK Gr q2.b;clear hne0 HW HB HC0 k0 k1 k2 k3 k4 k5 r0 r1 r2 r3 r4 r5 tw Gk Gr Bk Br hc1 hb1;have HB:=HB2;clear HB2;have Bk:=Ck;clear Ck;have Br:=Cr;clear Cr;go_wp2_with fail;refine ⟨⟨kq + 1,by omega,by go_num,fun j s hj hs => ?_,HBW1.out.trans (q2.b.mono HBW1.out.size)⟩,by simp [intOf];omega⟩
       by_cases e : j = kq
       ·subst e;rw [HXt.out] at hs;obtain rfl:=Option.some.inj hs;exact ⟨⟨i4,x4,HG1.out,HG2.out⟩,.inl HEm.out⟩
       ·exact HQ2.out j s (by omega) hs
     ·obtain rfl : vl = kq:=by omega
      have HQb : Hid (PSb c p):=fun j t ht => HQ2.out j t (by have h1:=(List.getElem?_eq_some_iff.1 ht).1;have h2:=HVL.out;omega) ht;clear HQ2;have TV2:=hidK (TV.out.below HBW.out);have KV2:=Bk;have GV2:=Br;have BV2:=HB;clear KV GV BV TV Bk Br HB HBW;obtain ⟨W2,hW⟩ : ∃ W2,W2 = wr:=⟨_,rfl⟩;rw [← hW] at KV2 GV2 BV2 TV2
      go_wp2
      clear pr3;rw [← hW];clear hW
      go_loopw [8] (fun i wr => ∃ kz : Nat,kz ≤ k ∧ i = .int .i64 kz ∧ Hid (∀ (j : Nat) q,j < kz → c.ps[j]? = some q → PairS c q p) ∧ Hid (Below W2.heap.size W2 wr)) (fun i _ => k - (intOf i).toNat)
      case atStart => exact ⟨0,by omega,rfl,fun _ _ h => absurd h (by omega),Below.refl _ _⟩
      case round =>
       obtain ⟨kz,hkz,rfl,HQ3,HBW⟩:=hrel;have HB:=hidK (BV2.out.trans (HBW.out.mono BV2.out.size));have Bk:=upK KV2 HBW.out;have Br:=upK GV2 HBW.out;have HTp:=hidK (TV2.out.below HBW.out)
       by_cases hlt3 : kz < k
       ·obtain ⟨b',o',pq,e',hb',hqq,hatq⟩:=pd_at (HR.out.p.below HB.out) (show kz < l5 by omega)
        cases e'
        obtain ⟨qa,ql,qc,hqr,z0,z2,z4,d0,d1,d2,d3,d4,d5⟩:=pd_cells hatq;have HXq:=hidK hqq;have HTq:=hidK hqr;clear hatq hqq hqr z0 z2 z4
        by_cases hpr : PairS c pq p
        ·have HPr:=hidK hpr;clear hpr;have Gk:=Bk;have Gr:=Br;have HW:=HB;obtain ⟨k0,k1,k2,k3,k4,k5⟩:=sl6 Gk;obtain ⟨r0,r1,r2,r3,r4,r5⟩:=sl6 Gr;have q0 : ∀ q : Wd wr,q.w.cell? ⟨b,o + kz * 6,none⟩ = some (.string pq.n):=fun q => (q.cell (hb')).trans (d0);have q1 : ∀ q : Wd wr,q.w.cell? ⟨b,o + kz * 6 + 1,none⟩ = some (.int .i64 pq.c):=fun q => (q.cell (hb')).trans (d1);have q2 : ∀ q : Wd wr,q.w.cell? ⟨b,o + kz * 6 + 2,none⟩ = some (.string pq.z):=fun q => (q.cell (hb')).trans (d2);have q3 : ∀ q : Wd wr,q.w.cell? ⟨b,o + kz * 6 + 3,none⟩ = some (.slice qa ql qc):=fun q => (q.cell (hb')).trans (d3);have q4 : ∀ q : Wd wr,q.w.cell? ⟨b,o + kz * 6 + 4,none⟩ = some (.string pq.d):=fun q => (q.cell (hb')).trans (d4);have q5 : ∀ q : Wd wr,q.w.cell? ⟨b,o + kz * 6 + 5,none⟩ = some (.int .i64 pq.p):=fun q => (q.cell (hb')).trans (d5);have hne0:=Wd.ne wr;have HC0:=hidK (fun qw : Wd wr => (spair_any ⟨a1,l1,y1,a2,l2,y2,a3,l3,y3,a4,l4,y4,(some ⟨b,o,none⟩),l5,y5⟩ c pq p qa ql qc va vl vc qw.w (HR.out.below (HW.out.trans (qw.b.mono HW.out.size))) HX.out HV.out HNE.out (HTq.out.below qw.b) (HTp.out.below qw.b)).mono (fun _ _ h => BoolB.yes h HPr.out));go_wp2_with fail;refine wp_region_wide (by kernel_rfl) (by kernel_rfl) ?_
         repeat (go_big_quiet_step (first | (go_at_call 122;exact Calls.wide (HC0.out _)) | fail))
         refine wpQuiet_nil ?_;rintro _ ⟨q9,rfl⟩;have HB1:=upB HW q9.b;have Ck:=upK Gk q9.b;have Cr:=upK Gr q9.b;clear hne0 HW HB HC0 k0 k1 k2 k3 k4 k5 r0 r1 r2 r3 r4 r5 q0 q1 q2 q3 q4 q5 Gk Gr Bk Br d0 d1 d2 d3 d4 d5;have HB:=HB1;clear HB1;have Bk:=Ck;clear Ck;have Br:=Cr;clear Cr;go_wp2_with fail;refine ⟨⟨kz + 1,by omega,by go_num,fun j s hj hs => ?_,HBW.out.trans (q9.b.mono HBW.out.size)⟩,by simp [intOf];omega⟩
         by_cases e : j = kz
         ·subst e;rw [HXq.out] at hs;obtain rfl:=Option.some.inj hs;exact HPr.out
         ·exact HQ3.out j s (by omega) hs
        ·have HPr:=hidK hpr;clear hpr;have Gk:=Bk;have Gr:=Br;have HW:=HB;obtain ⟨k0,k1,k2,k3,k4,k5⟩:=sl6 Gk;obtain ⟨r0,r1,r2,r3,r4,r5⟩:=sl6 Gr;have q0 : ∀ q : Wd wr,q.w.cell? ⟨b,o + kz * 6,none⟩ = some (.string pq.n):=fun q => (q.cell (hb')).trans (d0);have q1 : ∀ q : Wd wr,q.w.cell? ⟨b,o + kz * 6 + 1,none⟩ = some (.int .i64 pq.c):=fun q => (q.cell (hb')).trans (d1);have q2 : ∀ q : Wd wr,q.w.cell? ⟨b,o + kz * 6 + 2,none⟩ = some (.string pq.z):=fun q => (q.cell (hb')).trans (d2);have q3 : ∀ q : Wd wr,q.w.cell? ⟨b,o + kz * 6 + 3,none⟩ = some (.slice qa ql qc):=fun q => (q.cell (hb')).trans (d3);have q4 : ∀ q : Wd wr,q.w.cell? ⟨b,o + kz * 6 + 4,none⟩ = some (.string pq.d):=fun q => (q.cell (hb')).trans (d4);have q5 : ∀ q : Wd wr,q.w.cell? ⟨b,o + kz * 6 + 5,none⟩ = some (.int .i64 pq.p):=fun q => (q.cell (hb')).trans (d5);have hne0:=Wd.ne wr;have HC0:=hidK (fun qw : Wd wr => (spair_any ⟨a1,l1,y1,a2,l2,y2,a3,l3,y3,a4,l4,y4,(some ⟨b,o,none⟩),l5,y5⟩ c pq p qa ql qc va vl vc qw.w (HR.out.below (HW.out.trans (qw.b.mono HW.out.size))) HX.out HV.out HNE.out (HTq.out.below qw.b) (HTp.out.below qw.b)).mono (fun _ _ h => BoolB.no h HPr.out));go_wp2_with fail;refine wp_region_wide (by kernel_rfl) (by kernel_rfl) ?_
         repeat (go_big_quiet_step (first | (go_at_call 122;exact Calls.wide (HC0.out _)) | fail))
         refine wpQuiet_nil ?_;rintro _ ⟨q9,rfl⟩;have HB1:=upB HW q9.b;have Ck:=upK Gk q9.b;have Cr:=upK Gr q9.b;clear hne0 HW HB HC0 k0 k1 k2 k3 k4 k5 r0 r1 r2 r3 r4 r5 q0 q1 q2 q3 q4 q5 Gk Gr Bk Br d0 d1 d2 d3 d4 d5;have HB:=HB1;clear HB1;have Bk:=Ck;clear Ck;have Br:=Cr;clear Cr
         go_wp2
         go_ret;exact BoolB.f (fun h => HPr.out ((h.1 k p HXp.out).2.2 kz pq hlt3 HXq.out)) HB.out
       ·obtain rfl : k = kz:=by omega
        go_wp2_with fail;refine ⟨⟨k + 1,by omega,by go_num,fun j z hj hz => ?_,HB.out,Bk.out⟩,by simp [intOf];omega⟩
        by_cases e : j = k
        ·subst e;rw [HXp.out] at hz;obtain rfl:=Option.some.inj hz;exact ⟨HPa.out,HQb.out,fun j2 q2 hj2 hq2 => HQ3.out j2 q2 hj2 hq2⟩
        ·exact HQ.out j z (by omega) hz
   have hq:=isE_no he;have HEm:=hidK he;clear he
   rcases hf with ⟨j1,n,h1,h2,rfl⟩ | ⟨hh,rfl⟩
   rotate_left
   ·have HH:=hidK hh;clear hh;have Gk:=Bk;have Gr:=Br;have HW:=HB;have k0:=fun q : Wd w1 => q.slot (o:=0) Gk.out rfl;obtain ⟨r0,r1,r2,r3,r4,r5⟩:=sl6 Gr;have hne0:=Wd.ne w1;go_wp2_with fail;refine wp_region_wide (by kernel_rfl) (by kernel_rfl) ?_
    repeat (go_big_quiet_step (first | fail))
    refine wpQuiet_nil ?_;rintro _ ⟨q0,rfl⟩;have HB2:=upB HW q0.b;have Ck:=upK Gk q0.b;have Cr:=upK Gr q0.b;have CHTp:=hidK ((HTp.out).below q0.b);clear hne0 HW HB k0 r0 r1 r2 r3 r4 r5 Gk Gr Bk Br HTp;have HB:=HB2;clear HB2;have HTp:=CHTp;clear CHTp;have Bk:=Ck;clear Ck;have Br:=Cr;clear Cr
    go_wp2
    go_ret;refine BoolB.f (fun h => ?_) HB.out
    rcases (h.1 k p HXp.out).1 with h2 | ⟨i,n,h2,h3,_⟩
    ·exact HEm.out h2
    ·exact HH.out i n h2 h3
   have hl1' : j1 < l1:=by have h3:=(List.getElem?_eq_some_iff.1 h1).1;omega
   obtain ⟨b1,o1,n',rfl,hb1n,hn',hat⟩:=nd_at HR.out.n hl1';rw [h1] at hn';obtain rfl:=Option.some.inj hn';obtain ⟨na,nl,nc,hnr,z0,z1,d0,d1,d2,d3,d4,d5,d6⟩:=nd_cells hat;have HJn:=hidK h1;have HNn:=hidK h2;have HCn:=hidK d1;have HBn:=hidK hb1n
   have hj11 : decide ((j1 : Int) < 0) = false:=by simp
   have hbn:=Nat.lt_of_lt_of_le hb1n HB.out.size;have n1:=(cell_below HB.out hb1n).trans d1;clear hn' hat hnr z0 z1 d0 d1 d2 d3 d4 d5 d6 h1 h2 hb1n
   by_cases hz0 : p.z = ⟨#[]⟩
   ·have hq2:=isE_y hz0;have HPa : Hid (PSa c p):=.inr ⟨j1,n,HJn.out,HNn.out,.inl hz0⟩;clear hz0;have Gk:=Bk;have Gr:=Br;have HW:=HB;have k0:=fun q : Wd w1 => q.slot (o:=0) Gk.out rfl;obtain ⟨r0,r1,r2,r3,r4,r5⟩:=sl6 Gr;have nw:=fun q : Wd w1 => (q.cell hbn).trans n1;have hne0:=Wd.ne w1;go_wp2_with fail;refine wp_region_wide (by kernel_rfl) (by kernel_rfl) ?_
    repeat (go_big_quiet_step (first | fail))
    refine wpQuiet_nil ?_;rintro _ ⟨q0,rfl⟩;have HB2:=upB HW q0.b;have Ck:=upK Gk q0.b;have Cr:=upK Gr q0.b;have CHTp:=hidK ((HTp.out).below q0.b);clear hne0 HW HB k0 r0 r1 r2 r3 r4 r5 nw Gk Gr Bk Br HTp hbn n1;have HB:=HB2;clear HB2;have HTp:=CHTp;clear CHTp;have Bk:=Ck;clear Ck;have Br:=Cr;clear Cr;clear hq2;obtain ⟨gb,hgb⟩ : ∃ gb,gb = wr.heap.size:=⟨_,rfl⟩;rw [← hgb] at Br;have pr3:=ck3 Br.out;rw [hgb] at pr3
    go_wp2
    rw [← hgb];clear pr3 hgb;have KV:=Bk;have GV:=Br;have BV:=HB;have TV:=HTp;clear Bk Br HB HTp;obtain ⟨W,hW⟩ : ∃ W,W = q0.w:=⟨_,rfl⟩;rw [← hW] at KV GV BV TV ⊢;clear hW
    go_loopw [6] (fun i wr => ∃ kq : Nat,kq ≤ vl ∧ i = .int .i64 kq ∧ Hid (∀ (j : Nat) t,j < kq → p.zs[j]? = some t → PSb1 c p t) ∧ Hid (Below W.heap.size W wr)) (fun i _ => vl - (intOf i).toNat)
    case atStart => exact ⟨0,by omega,rfl,fun _ _ h => absurd h (by omega),Below.refl _ _⟩
    case round =>
     obtain ⟨kq,hkq,rfl,HQ2,HBW⟩:=hrel;have HB:=hidK (BV.out.trans (HBW.out.mono BV.out.size));have Bk:=upK KV HBW.out;have Br:=upK GV HBW.out;have pr3:=ck3 Br.out
     by_cases hlt2 : kq < vl
     ·obtain ⟨b2,o2,t,rfl,hb,hxt,hc,hsz⟩:=(TV.out.below HBW.out).at hlt2;have HXt:=hidK hxt;clear hxt hsz
      have hcase : (∃ v,IsBd c t v) ∨ (∀ v,¬ IsBd c t v):=by
       by_cases h : ∃ v,IsBd c t v
       ·exact .inl h
       ·exact .inr (fun v hv => h ⟨v,hv⟩)
      rcases hcase with ⟨v,hbd⟩ | hbd
      ·obtain ⟨j3,hj3⟩:=hbd.at
       have hl3' : j3 < l3:=by have h1:=(List.getElem?_eq_some_iff.1 hj3).1;omega
       obtain ⟨b3,o3,v',rfl,hb3,hv',hat⟩:=vd_at HR.out.v hl3';rw [hj3] at hv';obtain rfl:=Option.some.inj hv';obtain ⟨xa,xl,xc,hvr,z0,z2,z3,z5,d0,d1,d2,d3,d4,d5,d6,d7⟩:=vd_cells hat;have HJ:=hidK hj3;have HD:=hidK hbd;have HC2:=hidK d2;have HB3:=hidK hb3
       have hj31 : decide ((j3 : Int) < 0) = false:=by simp
       clear hv' hat hvr z0 z2 z3 z5 d0 d1 d2 d3 d4 d5 d6 d7 hj3 hbd hb3;have Gk:=Bk;have Gr:=Br;have HW:=HB;obtain ⟨k0,k1,k2,k3,k4,k5⟩:=sl6 Gk;have r3:=fun q : Wd wr => q.slot (o:=3) Gr.out rfl;have tw:=fun q : Wd wr => (q.cell hb).trans hc;have hne0:=Wd.ne wr;have HC0:=hidK (fun q : Wd wr => sbind_hit ⟨(some ⟨b1,o1,none⟩),l1,y1,a2,l2,y2,(some ⟨b3,o3,none⟩),l3,y3,a4,l4,y4,(some ⟨b,o,none⟩),l5,y5⟩ c t q.w (HR.out.below (HW.out.trans (q.b.mono HW.out.size))) HX.out HV.out HNE.out HJ.out HD.out);go_wp2_with fail;refine wp_region_wide (by kernel_rfl) (by kernel_rfl) ?_
       repeat (go_big_quiet_step (first | (go_at_call 81;exact Calls.wide (HC0.out _)) | fail))
       refine wpQuiet_nil ?_;rintro _ ⟨q1,rfl⟩;have HB1:=upB HW q1.b;have Ck:=upK Gk q1.b;have Cr:=upK Gr q1.b;clear hne0 HW HB HC0 k0 k1 k2 k3 k4 k5 r3 tw Gk Gr Bk Br pr3;have HB:=HB1;clear HB1;have Bk:=Ck;clear Ck;have Br:=Cr;clear Cr;have hc1:=(q1.cell hb).trans hc;have hb1:=Nat.lt_of_lt_of_le hb q1.b.size;have HBW1:=upB HBW q1.b;clear hc hb HBW
       by_cases hg : ∃ (i : Nat) (x : Xd),c.xs[i]? = some x ∧ x.n = t
       rotate_left
       ·have HG:=hidK hg;clear hg;have Gk:=Bk;have Gr:=Br;have HW:=HB;obtain ⟨k0,k1,k2,k3,k4,k5⟩:=sl6 Gk;obtain ⟨r0,r1,r2,r3,r4,r5⟩:=sl6 Gr;have tw:=fun q : Wd q1.w => (q.cell hb1).trans hc1;have hne0:=Wd.ne q1.w;have HC0:=hidK (fun q : Wd q1.w => sxxd_miss ⟨(some ⟨b1,o1,none⟩),l1,y1,a2,l2,y2,(some ⟨b3,o3,none⟩),l3,y3,a4,l4,y4,(some ⟨b,o,none⟩),l5,y5⟩ c.now c.xs t q.w (HR.out.x.below (HW.out.trans (q.b.mono HW.out.size))) (fun i x h1 h2 => HG.out ⟨i,x,h1,h2⟩));go_wp2_with fail;refine wp_region_wide (by kernel_rfl) (by kernel_rfl) ?_
        repeat (go_big_quiet_step (first | (go_at_call 105;exact Calls.wide (HC0.out _)) | fail))
        refine wpQuiet_nil ?_;rintro _ ⟨q2,rfl⟩;have HB2:=upB HW q2.b;have Ck:=upK Gk q2.b;have Cr:=upK Gr q2.b;clear hne0 HW HB HC0 k0 k1 k2 k3 k4 k5 r0 r1 r2 r3 r4 r5 tw Gk Gr Bk Br hc1 hb1;have HB:=HB2;clear HB2;have Bk:=Ck;clear Ck;have Br:=Cr;clear Cr
        go_wp2
        go_ret;refine BoolB.f (fun h => ?_) HB.out;have h9:=(h.1 k p HXp.out).2.1 kq t HXt.out;exact HG.out h9.1
       obtain ⟨i4,x4,g1,g2⟩:=hg;have HG1:=hidK g1;have HG2:=hidK g2
       have hi41 : decide ((i4 : Int) < 0) = false:=by simp
       clear g1 g2;have hbv:=Nat.lt_of_lt_of_le HB3.out HB.out.size;have v2:=(cell_below HB.out HB3.out).trans HC2.out;have hbn:=Nat.lt_of_lt_of_le HBn.out HB.out.size;have n1:=(cell_below HB.out HBn.out).trans HCn.out
       by_cases hz : v.z = n.z
       ·have hzq:=tl_yes hz;have HZ:=hidK hz;clear hz;have Gk:=Bk;have Gr:=Br;have HW:=HB;obtain ⟨k0,k1,k2,k3,k4,k5⟩:=sl6 Gk;obtain ⟨r0,r1,r2,r3,r4,r5⟩:=sl6 Gr;have tw:=fun q : Wd q1.w => (q.cell hb1).trans hc1;have vw:=fun q : Wd q1.w => (q.cell hbv).trans v2;have nw:=fun q : Wd q1.w => (q.cell hbn).trans n1;have hne0:=Wd.ne q1.w;have HC0:=hidK (fun q : Wd q1.w => sxxd_hit ⟨(some ⟨b1,o1,none⟩),l1,y1,a2,l2,y2,(some ⟨b3,o3,none⟩),l3,y3,a4,l4,y4,(some ⟨b,o,none⟩),l5,y5⟩ c.now c.xs t q.w (HR.out.x.below (HW.out.trans (q.b.mono HW.out.size))) HX.out HG1.out HG2.out);go_wp2_with fail;refine wp_region_wide (by kernel_rfl) (by kernel_rfl) ?_
        repeat (go_big_quiet_step (first | (go_at_call 105;exact Calls.wide (HC0.out _)) | fail))
        refine wpQuiet_nil ?_;rintro _ ⟨q2,rfl⟩;have HB2:=upB HW q2.b;have Ck:=upK Gk q2.b;have Cr:=upK Gr q2.b;clear hne0 HW HB HC0 k0 k1 k2 k3 k4 k5 r0 r1 r2 r3 r4 r5 tw vw nw Gk Gr Bk Br hc1 hb1 hbv v2 hbn n1;have HB:=HB2;clear HB2;have Bk:=Ck;clear Ck;have Br:=Cr;clear Cr;clear hzq;go_wp2_with fail;refine ⟨⟨kq + 1,by omega,by go_num,fun j s hj hs => ?_,HBW1.out.trans (q2.b.mono HBW1.out.size)⟩,by simp [intOf];omega⟩
        by_cases e : j = kq
        ·subst e;rw [HXt.out] at hs;obtain rfl:=Option.some.inj hs;exact ⟨⟨i4,x4,HG1.out,HG2.out⟩,.inr ⟨v,j1,n,HD.out,HJn.out,HNn.out,HZ.out⟩⟩
        ·exact HQ2.out j s (by omega) hs
       ·have hzq:=tl_no hz;have HZ:=hidK hz;clear hz;have Gk:=Bk;have Gr:=Br;have HW:=HB;obtain ⟨k0,k1,k2,k3,k4,k5⟩:=sl6 Gk;obtain ⟨r0,r1,r2,r3,r4,r5⟩:=sl6 Gr;have tw:=fun q : Wd q1.w => (q.cell hb1).trans hc1;have vw:=fun q : Wd q1.w => (q.cell hbv).trans v2;have nw:=fun q : Wd q1.w => (q.cell hbn).trans n1;have hne0:=Wd.ne q1.w;have HC0:=hidK (fun q : Wd q1.w => sxxd_hit ⟨(some ⟨b1,o1,none⟩),l1,y1,a2,l2,y2,(some ⟨b3,o3,none⟩),l3,y3,a4,l4,y4,(some ⟨b,o,none⟩),l5,y5⟩ c.now c.xs t q.w (HR.out.x.below (HW.out.trans (q.b.mono HW.out.size))) HX.out HG1.out HG2.out);go_wp2_with fail;refine wp_region_wide (by kernel_rfl) (by kernel_rfl) ?_
        repeat (go_big_quiet_step (first | (go_at_call 105;exact Calls.wide (HC0.out _)) | fail))
        refine wpQuiet_nil ?_;rintro _ ⟨q2,rfl⟩;have HB2:=upB HW q2.b;have Ck:=upK Gk q2.b;have Cr:=upK Gr q2.b;clear hne0 HW HB HC0 k0 k1 k2 k3 k4 k5 r0 r1 r2 r3 r4 r5 tw vw nw Gk Gr Bk Br hc1 hb1 hbv v2 hbn n1;have HB:=HB2;clear HB2;have Bk:=Ck;clear Ck;have Br:=Cr;clear Cr
        go_wp2
        go_ret;refine BoolB.f (fun h => ?_) HB.out;have h9:=(h.1 k p HXp.out).2.1 kq t HXt.out
        rcases h9.2 with h2 | ⟨v',i,n',h2,h3,h4,h5⟩
        ·exact HEm.out h2
        ·obtain rfl:=IsBd.inj HX.out HV.out HD.out h2;obtain ⟨_,rfl⟩:=HNR.out.inj h3 HJn.out (h4.trans HNn.out.symm);exact HZ.out h5
      ·have HD:=hidK hbd;clear hbd;have Gk:=Bk;have Gr:=Br;have HW:=HB;obtain ⟨k0,k1,k2,k3,k4,k5⟩:=sl6 Gk;have r3:=fun q : Wd wr => q.slot (o:=3) Gr.out rfl;have tw:=fun q : Wd wr => (q.cell hb).trans hc;have hne0:=Wd.ne wr;have HC0:=hidK (fun q : Wd wr => sbind_miss ⟨(some ⟨b1,o1,none⟩),l1,y1,a2,l2,y2,a3,l3,y3,a4,l4,y4,(some ⟨b,o,none⟩),l5,y5⟩ c t q.w (HR.out.below (HW.out.trans (q.b.mono HW.out.size))) HX.out HV.out HNE.out HD.out);go_wp2_with fail;refine wp_region_wide (by kernel_rfl) (by kernel_rfl) ?_
       repeat (go_big_quiet_step (first | (go_at_call 81;exact Calls.wide (HC0.out _)) | fail))
       refine wpQuiet_nil ?_;rintro _ ⟨q1,rfl⟩;have HB1:=upB HW q1.b;have Ck:=upK Gk q1.b;have Cr:=upK Gr q1.b;clear hne0 HW HB HC0 k0 k1 k2 k3 k4 k5 r3 tw Gk Gr Bk Br pr3;have HB:=HB1;clear HB1;have Bk:=Ck;clear Ck;have Br:=Cr;clear Cr;have hc1:=(q1.cell hb).trans hc;have hb1:=Nat.lt_of_lt_of_le hb q1.b.size;have HBW1:=upB HBW q1.b;clear hc hb HBW
       by_cases hg : ∃ (i : Nat) (x : Xd),c.xs[i]? = some x ∧ x.n = t
       rotate_left
       ·have HG:=hidK hg;clear hg;have Gk:=Bk;have Gr:=Br;have HW:=HB;obtain ⟨k0,k1,k2,k3,k4,k5⟩:=sl6 Gk;obtain ⟨r0,r1,r2,r3,r4,r5⟩:=sl6 Gr;have tw:=fun q : Wd q1.w => (q.cell hb1).trans hc1;have hne0:=Wd.ne q1.w;have HC0:=hidK (fun q : Wd q1.w => sxxd_miss ⟨(some ⟨b1,o1,none⟩),l1,y1,a2,l2,y2,a3,l3,y3,a4,l4,y4,(some ⟨b,o,none⟩),l5,y5⟩ c.now c.xs t q.w (HR.out.x.below (HW.out.trans (q.b.mono HW.out.size))) (fun i x h1 h2 => HG.out ⟨i,x,h1,h2⟩));go_wp2_with fail;refine wp_region_wide (by kernel_rfl) (by kernel_rfl) ?_
        repeat (go_big_quiet_step (first | (go_at_call 105;exact Calls.wide (HC0.out _)) | fail))
        refine wpQuiet_nil ?_;rintro _ ⟨q2,rfl⟩;have HB2:=upB HW q2.b;have Ck:=upK Gk q2.b;have Cr:=upK Gr q2.b;clear hne0 HW HB HC0 k0 k1 k2 k3 k4 k5 r0 r1 r2 r3 r4 r5 tw Gk Gr Bk Br hc1 hb1;have HB:=HB2;clear HB2;have Bk:=Ck;clear Ck;have Br:=Cr;clear Cr
        go_wp2
        go_ret;refine BoolB.f (fun h => ?_) HB.out;have h9:=(h.1 k p HXp.out).2.1 kq t HXt.out;exact HG.out h9.1
       obtain ⟨i4,x4,g1,g2⟩:=hg;have HG1:=hidK g1;have HG2:=hidK g2
       have hi41 : decide ((i4 : Int) < 0) = false:=by simp
       clear g1 g2;have Gk:=Bk;have Gr:=Br;have HW:=HB;obtain ⟨k0,k1,k2,k3,k4,k5⟩:=sl6 Gk;obtain ⟨r0,r1,r2,r3,r4,r5⟩:=sl6 Gr;have tw:=fun q : Wd q1.w => (q.cell hb1).trans hc1;have hne0:=Wd.ne q1.w;have HC0:=hidK (fun q : Wd q1.w => sxxd_hit ⟨(some ⟨b1,o1,none⟩),l1,y1,a2,l2,y2,a3,l3,y3,a4,l4,y4,(some ⟨b,o,none⟩),l5,y5⟩ c.now c.xs t q.w (HR.out.x.below (HW.out.trans (q.b.mono HW.out.size))) HX.out HG1.out HG2.out);go_wp2_with fail;refine wp_region_wide (by kernel_rfl) (by kernel_rfl) ?_
       repeat (go_big_quiet_step (first | (go_at_call 105;exact Calls.wide (HC0.out _)) | fail))
       refine wpQuiet_nil ?_;rintro _ ⟨q2,rfl⟩;have HB2:=upB HW q2.b;have Ck:=upK Gk q2.b;have Cr:=upK Gr q2.b;clear hne0 HW HB HC0 k0 k1 k2 k3 k4 k5 r0 r1 r2 r3 r4 r5 tw Gk Gr Bk Br hc1 hb1;have HB:=HB2;clear HB2;have Bk:=Ck;clear Ck;have Br:=Cr;clear Cr
       go_wp2
       go_ret;refine BoolB.f (fun h => ?_) HB.out;have h9:=(h.1 k p HXp.out).2.1 kq t HXt.out
       rcases h9.2 with h2 | ⟨v',i,n',h2,_⟩
       ·exact HEm.out h2
       ·exact HD.out v' h2
     ·obtain rfl : vl = kq:=by omega
      have HQb : Hid (PSb c p):=fun j t ht => HQ2.out j t (by have h1:=(List.getElem?_eq_some_iff.1 ht).1;have h2:=HVL.out;omega) ht;clear HQ2;have TV2:=hidK (TV.out.below HBW.out);have KV2:=Bk;have GV2:=Br;have BV2:=HB;clear KV GV BV TV Bk Br HB HBW;obtain ⟨W2,hW⟩ : ∃ W2,W2 = wr:=⟨_,rfl⟩;rw [← hW] at KV2 GV2 BV2 TV2
      go_wp2
      clear pr3;rw [← hW];clear hW
      go_loopw [8] (fun i wr => ∃ kz : Nat,kz ≤ k ∧ i = .int .i64 kz ∧ Hid (∀ (j : Nat) q,j < kz → c.ps[j]? = some q → PairS c q p) ∧ Hid (Below W2.heap.size W2 wr)) (fun i _ => k - (intOf i).toNat)
      case atStart => exact ⟨0,by omega,rfl,fun _ _ h => absurd h (by omega),Below.refl _ _⟩
      case round =>
       obtain ⟨kz,hkz,rfl,HQ3,HBW⟩:=hrel;have HB:=hidK (BV2.out.trans (HBW.out.mono BV2.out.size));have Bk:=upK KV2 HBW.out;have Br:=upK GV2 HBW.out;have HTp:=hidK (TV2.out.below HBW.out)
       by_cases hlt3 : kz < k
       ·obtain ⟨b',o',pq,e',hb',hqq,hatq⟩:=pd_at (HR.out.p.below HB.out) (show kz < l5 by omega)
        cases e'
        obtain ⟨qa,ql,qc,hqr,z0,z2,z4,d0,d1,d2,d3,d4,d5⟩:=pd_cells hatq;have HXq:=hidK hqq;have HTq:=hidK hqr;clear hatq hqq hqr z0 z2 z4
        by_cases hpr : PairS c pq p
        ·have HPr:=hidK hpr;clear hpr;have Gk:=Bk;have Gr:=Br;have HW:=HB;obtain ⟨k0,k1,k2,k3,k4,k5⟩:=sl6 Gk;obtain ⟨r0,r1,r2,r3,r4,r5⟩:=sl6 Gr;have q0 : ∀ q : Wd wr,q.w.cell? ⟨b,o + kz * 6,none⟩ = some (.string pq.n):=fun q => (q.cell (hb')).trans (d0);have q1 : ∀ q : Wd wr,q.w.cell? ⟨b,o + kz * 6 + 1,none⟩ = some (.int .i64 pq.c):=fun q => (q.cell (hb')).trans (d1);have q2 : ∀ q : Wd wr,q.w.cell? ⟨b,o + kz * 6 + 2,none⟩ = some (.string pq.z):=fun q => (q.cell (hb')).trans (d2);have q3 : ∀ q : Wd wr,q.w.cell? ⟨b,o + kz * 6 + 3,none⟩ = some (.slice qa ql qc):=fun q => (q.cell (hb')).trans (d3);have q4 : ∀ q : Wd wr,q.w.cell? ⟨b,o + kz * 6 + 4,none⟩ = some (.string pq.d):=fun q => (q.cell (hb')).trans (d4);have q5 : ∀ q : Wd wr,q.w.cell? ⟨b,o + kz * 6 + 5,none⟩ = some (.int .i64 pq.p):=fun q => (q.cell (hb')).trans (d5);have hne0:=Wd.ne wr;have HC0:=hidK (fun qw : Wd wr => (spair_any ⟨(some ⟨b1,o1,none⟩),l1,y1,a2,l2,y2,a3,l3,y3,a4,l4,y4,(some ⟨b,o,none⟩),l5,y5⟩ c pq p qa ql qc va vl vc qw.w (HR.out.below (HW.out.trans (qw.b.mono HW.out.size))) HX.out HV.out HNE.out (HTq.out.below qw.b) (HTp.out.below qw.b)).mono (fun _ _ h => BoolB.yes h HPr.out));go_wp2_with fail;refine wp_region_wide (by kernel_rfl) (by kernel_rfl) ?_
         repeat (go_big_quiet_step (first | (go_at_call 122;exact Calls.wide (HC0.out _)) | fail))
         refine wpQuiet_nil ?_;rintro _ ⟨q9,rfl⟩;have HB1:=upB HW q9.b;have Ck:=upK Gk q9.b;have Cr:=upK Gr q9.b;clear hne0 HW HB HC0 k0 k1 k2 k3 k4 k5 r0 r1 r2 r3 r4 r5 q0 q1 q2 q3 q4 q5 Gk Gr Bk Br d0 d1 d2 d3 d4 d5;have HB:=HB1;clear HB1;have Bk:=Ck;clear Ck;have Br:=Cr;clear Cr;go_wp2_with fail;refine ⟨⟨kz + 1,by omega,by go_num,fun j s hj hs => ?_,HBW.out.trans (q9.b.mono HBW.out.size)⟩,by simp [intOf];omega⟩
         by_cases e : j = kz
         ·subst e;rw [HXq.out] at hs;obtain rfl:=Option.some.inj hs;exact HPr.out
         ·exact HQ3.out j s (by omega) hs
        ·have HPr:=hidK hpr;clear hpr;have Gk:=Bk;have Gr:=Br;have HW:=HB;obtain ⟨k0,k1,k2,k3,k4,k5⟩:=sl6 Gk;obtain ⟨r0,r1,r2,r3,r4,r5⟩:=sl6 Gr;have q0 : ∀ q : Wd wr,q.w.cell? ⟨b,o + kz * 6,none⟩ = some (.string pq.n):=fun q => (q.cell (hb')).trans (d0);have q1 : ∀ q : Wd wr,q.w.cell? ⟨b,o + kz * 6 + 1,none⟩ = some (.int .i64 pq.c):=fun q => (q.cell (hb')).trans (d1);have q2 : ∀ q : Wd wr,q.w.cell? ⟨b,o + kz * 6 + 2,none⟩ = some (.string pq.z):=fun q => (q.cell (hb')).trans (d2);have q3 : ∀ q : Wd wr,q.w.cell? ⟨b,o + kz * 6 + 3,none⟩ = some (.slice qa ql qc):=fun q => (q.cell (hb')).trans (d3);have q4 : ∀ q : Wd wr,q.w.cell? ⟨b,o + kz * 6 + 4,none⟩ = some (.string pq.d):=fun q => (q.cell (hb')).trans (d4);have q5 : ∀ q : Wd wr,q.w.cell? ⟨b,o + kz * 6 + 5,none⟩ = some (.int .i64 pq.p):=fun q => (q.cell (hb')).trans (d5);have hne0:=Wd.ne wr;have HC0:=hidK (fun qw : Wd wr => (spair_any ⟨(some ⟨b1,o1,none⟩),l1,y1,a2,l2,y2,a3,l3,y3,a4,l4,y4,(some ⟨b,o,none⟩),l5,y5⟩ c pq p qa ql qc va vl vc qw.w (HR.out.below (HW.out.trans (qw.b.mono HW.out.size))) HX.out HV.out HNE.out (HTq.out.below qw.b) (HTp.out.below qw.b)).mono (fun _ _ h => BoolB.no h HPr.out));go_wp2_with fail;refine wp_region_wide (by kernel_rfl) (by kernel_rfl) ?_
         repeat (go_big_quiet_step (first | (go_at_call 122;exact Calls.wide (HC0.out _)) | fail))
         refine wpQuiet_nil ?_;rintro _ ⟨q9,rfl⟩;have HB1:=upB HW q9.b;have Ck:=upK Gk q9.b;have Cr:=upK Gr q9.b;clear hne0 HW HB HC0 k0 k1 k2 k3 k4 k5 r0 r1 r2 r3 r4 r5 q0 q1 q2 q3 q4 q5 Gk Gr Bk Br d0 d1 d2 d3 d4 d5;have HB:=HB1;clear HB1;have Bk:=Ck;clear Ck;have Br:=Cr;clear Cr
         go_wp2
         go_ret;exact BoolB.f (fun h => HPr.out ((h.1 k p HXp.out).2.2 kz pq hlt3 HXq.out)) HB.out
       ·obtain rfl : k = kz:=by omega
        go_wp2_with fail;refine ⟨⟨k + 1,by omega,by go_num,fun j z hj hz => ?_,HB.out,Bk.out⟩,by simp [intOf];omega⟩
        by_cases e : j = k
        ·subst e;rw [HXp.out] at hz;obtain rfl:=Option.some.inj hz;exact ⟨HPa.out,HQb.out,fun j2 q2 hj2 hq2 => HQ3.out j2 q2 hj2 hq2⟩
        ·exact HQ.out j z (by omega) hz
   have hq2:=isE_no hz0
   by_cases hz1 : n.z = p.z
   ·have hq3:=tl_yes hz1;have HPa : Hid (PSa c p):=.inr ⟨j1,n,HJn.out,HNn.out,.inr hz1⟩;clear hz0 hz1;have Gk:=Bk;have Gr:=Br;have HW:=HB;have k0:=fun q : Wd w1 => q.slot (o:=0) Gk.out rfl;obtain ⟨r0,r1,r2,r3,r4,r5⟩:=sl6 Gr;have nw:=fun q : Wd w1 => (q.cell hbn).trans n1;have hne0:=Wd.ne w1;go_wp2_with fail;refine wp_region_wide (by kernel_rfl) (by kernel_rfl) ?_
    repeat (go_big_quiet_step (first | fail))
    refine wpQuiet_nil ?_;rintro _ ⟨q0,rfl⟩;have HB2:=upB HW q0.b;have Ck:=upK Gk q0.b;have Cr:=upK Gr q0.b;have CHTp:=hidK ((HTp.out).below q0.b);clear hne0 HW HB k0 r0 r1 r2 r3 r4 r5 nw Gk Gr Bk Br HTp hbn n1;have HB:=HB2;clear HB2;have HTp:=CHTp;clear CHTp;have Bk:=Ck;clear Ck;have Br:=Cr;clear Cr;clear hq2 hq3;obtain ⟨gb,hgb⟩ : ∃ gb,gb = wr.heap.size:=⟨_,rfl⟩;rw [← hgb] at Br;have pr3:=ck3 Br.out;rw [hgb] at pr3
    go_wp2
    rw [← hgb];clear pr3 hgb;have KV:=Bk;have GV:=Br;have BV:=HB;have TV:=HTp;clear Bk Br HB HTp;obtain ⟨W,hW⟩ : ∃ W,W = q0.w:=⟨_,rfl⟩;rw [← hW] at KV GV BV TV ⊢;clear hW
    go_loopw [6] (fun i wr => ∃ kq : Nat,kq ≤ vl ∧ i = .int .i64 kq ∧ Hid (∀ (j : Nat) t,j < kq → p.zs[j]? = some t → PSb1 c p t) ∧ Hid (Below W.heap.size W wr)) (fun i _ => vl - (intOf i).toNat)
    case atStart => exact ⟨0,by omega,rfl,fun _ _ h => absurd h (by omega),Below.refl _ _⟩
    case round =>
     obtain ⟨kq,hkq,rfl,HQ2,HBW⟩:=hrel;have HB:=hidK (BV.out.trans (HBW.out.mono BV.out.size));have Bk:=upK KV HBW.out;have Br:=upK GV HBW.out;have pr3:=ck3 Br.out
     by_cases hlt2 : kq < vl
     ·obtain ⟨b2,o2,t,rfl,hb,hxt,hc,hsz⟩:=(TV.out.below HBW.out).at hlt2;have HXt:=hidK hxt;clear hxt hsz
      have hcase : (∃ v,IsBd c t v) ∨ (∀ v,¬ IsBd c t v):=by
       by_cases h : ∃ v,IsBd c t v
       ·exact .inl h
       ·exact .inr (fun v hv => h ⟨v,hv⟩)
      rcases hcase with ⟨v,hbd⟩ | hbd
      ·obtain ⟨j3,hj3⟩:=hbd.at
       have hl3' : j3 < l3:=by have h1:=(List.getElem?_eq_some_iff.1 hj3).1;omega
       obtain ⟨b3,o3,v',rfl,hb3,hv',hat⟩:=vd_at HR.out.v hl3';rw [hj3] at hv';obtain rfl:=Option.some.inj hv';obtain ⟨xa,xl,xc,hvr,z0,z2,z3,z5,d0,d1,d2,d3,d4,d5,d6,d7⟩:=vd_cells hat;have HJ:=hidK hj3;have HD:=hidK hbd;have HC2:=hidK d2;have HB3:=hidK hb3
       have hj31 : decide ((j3 : Int) < 0) = false:=by simp
       clear hv' hat hvr z0 z2 z3 z5 d0 d1 d2 d3 d4 d5 d6 d7 hj3 hbd hb3;have Gk:=Bk;have Gr:=Br;have HW:=HB;obtain ⟨k0,k1,k2,k3,k4,k5⟩:=sl6 Gk;have r3:=fun q : Wd wr => q.slot (o:=3) Gr.out rfl;have tw:=fun q : Wd wr => (q.cell hb).trans hc;have hne0:=Wd.ne wr;have HC0:=hidK (fun q : Wd wr => sbind_hit ⟨(some ⟨b1,o1,none⟩),l1,y1,a2,l2,y2,(some ⟨b3,o3,none⟩),l3,y3,a4,l4,y4,(some ⟨b,o,none⟩),l5,y5⟩ c t q.w (HR.out.below (HW.out.trans (q.b.mono HW.out.size))) HX.out HV.out HNE.out HJ.out HD.out);go_wp2_with fail;refine wp_region_wide (by kernel_rfl) (by kernel_rfl) ?_
       repeat (go_big_quiet_step (first | (go_at_call 81;exact Calls.wide (HC0.out _)) | fail))
       refine wpQuiet_nil ?_;rintro _ ⟨q1,rfl⟩;have HB1:=upB HW q1.b;have Ck:=upK Gk q1.b;have Cr:=upK Gr q1.b;clear hne0 HW HB HC0 k0 k1 k2 k3 k4 k5 r3 tw Gk Gr Bk Br pr3;have HB:=HB1;clear HB1;have Bk:=Ck;clear Ck;have Br:=Cr;clear Cr;have hc1:=(q1.cell hb).trans hc;have hb1:=Nat.lt_of_lt_of_le hb q1.b.size;have HBW1:=upB HBW q1.b;clear hc hb HBW
       by_cases hg : ∃ (i : Nat) (x : Xd),c.xs[i]? = some x ∧ x.n = t
       rotate_left
       ·have HG:=hidK hg;clear hg;have Gk:=Bk;have Gr:=Br;have HW:=HB;obtain ⟨k0,k1,k2,k3,k4,k5⟩:=sl6 Gk;obtain ⟨r0,r1,r2,r3,r4,r5⟩:=sl6 Gr;have tw:=fun q : Wd q1.w => (q.cell hb1).trans hc1;have hne0:=Wd.ne q1.w;have HC0:=hidK (fun q : Wd q1.w => sxxd_miss ⟨(some ⟨b1,o1,none⟩),l1,y1,a2,l2,y2,(some ⟨b3,o3,none⟩),l3,y3,a4,l4,y4,(some ⟨b,o,none⟩),l5,y5⟩ c.now c.xs t q.w (HR.out.x.below (HW.out.trans (q.b.mono HW.out.size))) (fun i x h1 h2 => HG.out ⟨i,x,h1,h2⟩));go_wp2_with fail;refine wp_region_wide (by kernel_rfl) (by kernel_rfl) ?_
        repeat (go_big_quiet_step (first | (go_at_call 105;exact Calls.wide (HC0.out _)) | fail))
        refine wpQuiet_nil ?_;rintro _ ⟨q2,rfl⟩;have HB2:=upB HW q2.b;have Ck:=upK Gk q2.b;have Cr:=upK Gr q2.b;clear hne0 HW HB HC0 k0 k1 k2 k3 k4 k5 r0 r1 r2 r3 r4 r5 tw Gk Gr Bk Br hc1 hb1;have HB:=HB2;clear HB2;have Bk:=Ck;clear Ck;have Br:=Cr;clear Cr
        go_wp2
        go_ret;refine BoolB.f (fun h => ?_) HB.out;have h9:=(h.1 k p HXp.out).2.1 kq t HXt.out;exact HG.out h9.1
       obtain ⟨i4,x4,g1,g2⟩:=hg;have HG1:=hidK g1;have HG2:=hidK g2
       have hi41 : decide ((i4 : Int) < 0) = false:=by simp
       clear g1 g2;have hbv:=Nat.lt_of_lt_of_le HB3.out HB.out.size;have v2:=(cell_below HB.out HB3.out).trans HC2.out;have hbn:=Nat.lt_of_lt_of_le HBn.out HB.out.size;have n1:=(cell_below HB.out HBn.out).trans HCn.out
       by_cases hz : v.z = n.z
       ·have hzq:=tl_yes hz;have HZ:=hidK hz;clear hz;have Gk:=Bk;have Gr:=Br;have HW:=HB;obtain ⟨k0,k1,k2,k3,k4,k5⟩:=sl6 Gk;obtain ⟨r0,r1,r2,r3,r4,r5⟩:=sl6 Gr;have tw:=fun q : Wd q1.w => (q.cell hb1).trans hc1;have vw:=fun q : Wd q1.w => (q.cell hbv).trans v2;have nw:=fun q : Wd q1.w => (q.cell hbn).trans n1;have hne0:=Wd.ne q1.w;have HC0:=hidK (fun q : Wd q1.w => sxxd_hit ⟨(some ⟨b1,o1,none⟩),l1,y1,a2,l2,y2,(some ⟨b3,o3,none⟩),l3,y3,a4,l4,y4,(some ⟨b,o,none⟩),l5,y5⟩ c.now c.xs t q.w (HR.out.x.below (HW.out.trans (q.b.mono HW.out.size))) HX.out HG1.out HG2.out);go_wp2_with fail;refine wp_region_wide (by kernel_rfl) (by kernel_rfl) ?_
        repeat (go_big_quiet_step (first | (go_at_call 105;exact Calls.wide (HC0.out _)) | fail))
        refine wpQuiet_nil ?_;rintro _ ⟨q2,rfl⟩;have HB2:=upB HW q2.b;have Ck:=upK Gk q2.b;have Cr:=upK Gr q2.b;clear hne0 HW HB HC0 k0 k1 k2 k3 k4 k5 r0 r1 r2 r3 r4 r5 tw vw nw Gk Gr Bk Br hc1 hb1 hbv v2 hbn n1;have HB:=HB2;clear HB2;have Bk:=Ck;clear Ck;have Br:=Cr;clear Cr;clear hzq;go_wp2_with fail;refine ⟨⟨kq + 1,by omega,by go_num,fun j s hj hs => ?_,HBW1.out.trans (q2.b.mono HBW1.out.size)⟩,by simp [intOf];omega⟩
        by_cases e : j = kq
        ·subst e;rw [HXt.out] at hs;obtain rfl:=Option.some.inj hs;exact ⟨⟨i4,x4,HG1.out,HG2.out⟩,.inr ⟨v,j1,n,HD.out,HJn.out,HNn.out,HZ.out⟩⟩
        ·exact HQ2.out j s (by omega) hs
       ·have hzq:=tl_no hz;have HZ:=hidK hz;clear hz;have Gk:=Bk;have Gr:=Br;have HW:=HB;obtain ⟨k0,k1,k2,k3,k4,k5⟩:=sl6 Gk;obtain ⟨r0,r1,r2,r3,r4,r5⟩:=sl6 Gr;have tw:=fun q : Wd q1.w => (q.cell hb1).trans hc1;have vw:=fun q : Wd q1.w => (q.cell hbv).trans v2;have nw:=fun q : Wd q1.w => (q.cell hbn).trans n1;have hne0:=Wd.ne q1.w;have HC0:=hidK (fun q : Wd q1.w => sxxd_hit ⟨(some ⟨b1,o1,none⟩),l1,y1,a2,l2,y2,(some ⟨b3,o3,none⟩),l3,y3,a4,l4,y4,(some ⟨b,o,none⟩),l5,y5⟩ c.now c.xs t q.w (HR.out.x.below (HW.out.trans (q.b.mono HW.out.size))) HX.out HG1.out HG2.out);go_wp2_with fail;refine wp_region_wide (by kernel_rfl) (by kernel_rfl) ?_
        repeat (go_big_quiet_step (first | (go_at_call 105;exact Calls.wide (HC0.out _)) | fail))
        refine wpQuiet_nil ?_;rintro _ ⟨q2,rfl⟩;have HB2:=upB HW q2.b;have Ck:=upK Gk q2.b;have Cr:=upK Gr q2.b;clear hne0 HW HB HC0 k0 k1 k2 k3 k4 k5 r0 r1 r2 r3 r4 r5 tw vw nw Gk Gr Bk Br hc1 hb1 hbv v2 hbn n1;have HB:=HB2;clear HB2;have Bk:=Ck;clear Ck;have Br:=Cr;clear Cr
        go_wp2
        go_ret;refine BoolB.f (fun h => ?_) HB.out;have h9:=(h.1 k p HXp.out).2.1 kq t HXt.out
        rcases h9.2 with h2 | ⟨v',i,n',h2,h3,h4,h5⟩
        ·exact HEm.out h2
        ·obtain rfl:=IsBd.inj HX.out HV.out HD.out h2;obtain ⟨_,rfl⟩:=HNR.out.inj h3 HJn.out (h4.trans HNn.out.symm);exact HZ.out h5
      ·have HD:=hidK hbd;clear hbd;have Gk:=Bk;have Gr:=Br;have HW:=HB;obtain ⟨k0,k1,k2,k3,k4,k5⟩:=sl6 Gk;have r3:=fun q : Wd wr => q.slot (o:=3) Gr.out rfl;have tw:=fun q : Wd wr => (q.cell hb).trans hc;have hne0:=Wd.ne wr;have HC0:=hidK (fun q : Wd wr => sbind_miss ⟨(some ⟨b1,o1,none⟩),l1,y1,a2,l2,y2,a3,l3,y3,a4,l4,y4,(some ⟨b,o,none⟩),l5,y5⟩ c t q.w (HR.out.below (HW.out.trans (q.b.mono HW.out.size))) HX.out HV.out HNE.out HD.out);go_wp2_with fail;refine wp_region_wide (by kernel_rfl) (by kernel_rfl) ?_
       repeat (go_big_quiet_step (first | (go_at_call 81;exact Calls.wide (HC0.out _)) | fail))
       refine wpQuiet_nil ?_;rintro _ ⟨q1,rfl⟩;have HB1:=upB HW q1.b;have Ck:=upK Gk q1.b;have Cr:=upK Gr q1.b;clear hne0 HW HB HC0 k0 k1 k2 k3 k4 k5 r3 tw Gk Gr Bk Br pr3;have HB:=HB1;clear HB1;have Bk:=Ck;clear Ck;have Br:=Cr;clear Cr;have hc1:=(q1.cell hb).trans hc;have hb1:=Nat.lt_of_lt_of_le hb q1.b.size;have HBW1:=upB HBW q1.b;clear hc hb HBW
       by_cases hg : ∃ (i : Nat) (x : Xd),c.xs[i]? = some x ∧ x.n = t
       rotate_left
       ·have HG:=hidK hg;clear hg;have Gk:=Bk;have Gr:=Br;have HW:=HB;obtain ⟨k0,k1,k2,k3,k4,k5⟩:=sl6 Gk;obtain ⟨r0,r1,r2,r3,r4,r5⟩:=sl6 Gr;have tw:=fun q : Wd q1.w => (q.cell hb1).trans hc1;have hne0:=Wd.ne q1.w;have HC0:=hidK (fun q : Wd q1.w => sxxd_miss ⟨(some ⟨b1,o1,none⟩),l1,y1,a2,l2,y2,a3,l3,y3,a4,l4,y4,(some ⟨b,o,none⟩),l5,y5⟩ c.now c.xs t q.w (HR.out.x.below (HW.out.trans (q.b.mono HW.out.size))) (fun i x h1 h2 => HG.out ⟨i,x,h1,h2⟩));go_wp2_with fail;refine wp_region_wide (by kernel_rfl) (by kernel_rfl) ?_
        repeat (go_big_quiet_step (first | (go_at_call 105;exact Calls.wide (HC0.out _)) | fail))
        refine wpQuiet_nil ?_;rintro _ ⟨q2,rfl⟩;have HB2:=upB HW q2.b;have Ck:=upK Gk q2.b;have Cr:=upK Gr q2.b;clear hne0 HW HB HC0 k0 k1 k2 k3 k4 k5 r0 r1 r2 r3 r4 r5 tw Gk Gr Bk Br hc1 hb1;have HB:=HB2;clear HB2;have Bk:=Ck;clear Ck;have Br:=Cr;clear Cr
        go_wp2
        go_ret;refine BoolB.f (fun h => ?_) HB.out;have h9:=(h.1 k p HXp.out).2.1 kq t HXt.out;exact HG.out h9.1
       obtain ⟨i4,x4,g1,g2⟩:=hg;have HG1:=hidK g1;have HG2:=hidK g2
       have hi41 : decide ((i4 : Int) < 0) = false:=by simp
       clear g1 g2;have Gk:=Bk;have Gr:=Br;have HW:=HB;obtain ⟨k0,k1,k2,k3,k4,k5⟩:=sl6 Gk;obtain ⟨r0,r1,r2,r3,r4,r5⟩:=sl6 Gr;have tw:=fun q : Wd q1.w => (q.cell hb1).trans hc1;have hne0:=Wd.ne q1.w;have HC0:=hidK (fun q : Wd q1.w => sxxd_hit ⟨(some ⟨b1,o1,none⟩),l1,y1,a2,l2,y2,a3,l3,y3,a4,l4,y4,(some ⟨b,o,none⟩),l5,y5⟩ c.now c.xs t q.w (HR.out.x.below (HW.out.trans (q.b.mono HW.out.size))) HX.out HG1.out HG2.out);go_wp2_with fail;refine wp_region_wide (by kernel_rfl) (by kernel_rfl) ?_
       repeat (go_big_quiet_step (first | (go_at_call 105;exact Calls.wide (HC0.out _)) | fail))
       refine wpQuiet_nil ?_;rintro _ ⟨q2,rfl⟩;have HB2:=upB HW q2.b;have Ck:=upK Gk q2.b;have Cr:=upK Gr q2.b;clear hne0 HW HB HC0 k0 k1 k2 k3 k4 k5 r0 r1 r2 r3 r4 r5 tw Gk Gr Bk Br hc1 hb1;have HB:=HB2;clear HB2;have Bk:=Ck;clear Ck;have Br:=Cr;clear Cr
       go_wp2
       go_ret;refine BoolB.f (fun h => ?_) HB.out;have h9:=(h.1 k p HXp.out).2.1 kq t HXt.out
       rcases h9.2 with h2 | ⟨v',i,n',h2,_⟩
       ·exact HEm.out h2
       ·exact HD.out v' h2
     ·obtain rfl : vl = kq:=by omega
      have HQb : Hid (PSb c p):=fun j t ht => HQ2.out j t (by have h1:=(List.getElem?_eq_some_iff.1 ht).1;have h2:=HVL.out;omega) ht;clear HQ2;have TV2:=hidK (TV.out.below HBW.out);have KV2:=Bk;have GV2:=Br;have BV2:=HB;clear KV GV BV TV Bk Br HB HBW;obtain ⟨W2,hW⟩ : ∃ W2,W2 = wr:=⟨_,rfl⟩;rw [← hW] at KV2 GV2 BV2 TV2
      go_wp2
      clear pr3;rw [← hW];clear hW
      go_loopw [8] (fun i wr => ∃ kz : Nat,kz ≤ k ∧ i = .int .i64 kz ∧ Hid (∀ (j : Nat) q,j < kz → c.ps[j]? = some q → PairS c q p) ∧ Hid (Below W2.heap.size W2 wr)) (fun i _ => k - (intOf i).toNat)
      case atStart => exact ⟨0,by omega,rfl,fun _ _ h => absurd h (by omega),Below.refl _ _⟩
      case round =>
       obtain ⟨kz,hkz,rfl,HQ3,HBW⟩:=hrel;have HB:=hidK (BV2.out.trans (HBW.out.mono BV2.out.size));have Bk:=upK KV2 HBW.out;have Br:=upK GV2 HBW.out;have HTp:=hidK (TV2.out.below HBW.out)
       by_cases hlt3 : kz < k
       ·obtain ⟨b',o',pq,e',hb',hqq,hatq⟩:=pd_at (HR.out.p.below HB.out) (show kz < l5 by omega)
        cases e'
        obtain ⟨qa,ql,qc,hqr,z0,z2,z4,d0,d1,d2,d3,d4,d5⟩:=pd_cells hatq;have HXq:=hidK hqq;have HTq:=hidK hqr;clear hatq hqq hqr z0 z2 z4
        by_cases hpr : PairS c pq p
        ·have HPr:=hidK hpr;clear hpr;have Gk:=Bk;have Gr:=Br;have HW:=HB;obtain ⟨k0,k1,k2,k3,k4,k5⟩:=sl6 Gk;obtain ⟨r0,r1,r2,r3,r4,r5⟩:=sl6 Gr;have q0 : ∀ q : Wd wr,q.w.cell? ⟨b,o + kz * 6,none⟩ = some (.string pq.n):=fun q => (q.cell (hb')).trans (d0);have q1 : ∀ q : Wd wr,q.w.cell? ⟨b,o + kz * 6 + 1,none⟩ = some (.int .i64 pq.c):=fun q => (q.cell (hb')).trans (d1);have q2 : ∀ q : Wd wr,q.w.cell? ⟨b,o + kz * 6 + 2,none⟩ = some (.string pq.z):=fun q => (q.cell (hb')).trans (d2);have q3 : ∀ q : Wd wr,q.w.cell? ⟨b,o + kz * 6 + 3,none⟩ = some (.slice qa ql qc):=fun q => (q.cell (hb')).trans (d3);have q4 : ∀ q : Wd wr,q.w.cell? ⟨b,o + kz * 6 + 4,none⟩ = some (.string pq.d):=fun q => (q.cell (hb')).trans (d4);have q5 : ∀ q : Wd wr,q.w.cell? ⟨b,o + kz * 6 + 5,none⟩ = some (.int .i64 pq.p):=fun q => (q.cell (hb')).trans (d5);have hne0:=Wd.ne wr;have HC0:=hidK (fun qw : Wd wr => (spair_any ⟨(some ⟨b1,o1,none⟩),l1,y1,a2,l2,y2,a3,l3,y3,a4,l4,y4,(some ⟨b,o,none⟩),l5,y5⟩ c pq p qa ql qc va vl vc qw.w (HR.out.below (HW.out.trans (qw.b.mono HW.out.size))) HX.out HV.out HNE.out (HTq.out.below qw.b) (HTp.out.below qw.b)).mono (fun _ _ h => BoolB.yes h HPr.out));go_wp2_with fail;refine wp_region_wide (by kernel_rfl) (by kernel_rfl) ?_
         repeat (go_big_quiet_step (first | (go_at_call 122;exact Calls.wide (HC0.out _)) | fail))
         refine wpQuiet_nil ?_;rintro _ ⟨q9,rfl⟩;have HB1:=upB HW q9.b;have Ck:=upK Gk q9.b;have Cr:=upK Gr q9.b;clear hne0 HW HB HC0 k0 k1 k2 k3 k4 k5 r0 r1 r2 r3 r4 r5 q0 q1 q2 q3 q4 q5 Gk Gr Bk Br d0 d1 d2 d3 d4 d5;have HB:=HB1;clear HB1;have Bk:=Ck;clear Ck;have Br:=Cr;clear Cr;go_wp2_with fail;refine ⟨⟨kz + 1,by omega,by go_num,fun j s hj hs => ?_,HBW.out.trans (q9.b.mono HBW.out.size)⟩,by simp [intOf];omega⟩
         by_cases e : j = kz
         ·subst e;rw [HXq.out] at hs;obtain rfl:=Option.some.inj hs;exact HPr.out
         ·exact HQ3.out j s (by omega) hs
        ·have HPr:=hidK hpr;clear hpr;have Gk:=Bk;have Gr:=Br;have HW:=HB;obtain ⟨k0,k1,k2,k3,k4,k5⟩:=sl6 Gk;obtain ⟨r0,r1,r2,r3,r4,r5⟩:=sl6 Gr;have q0 : ∀ q : Wd wr,q.w.cell? ⟨b,o + kz * 6,none⟩ = some (.string pq.n):=fun q => (q.cell (hb')).trans (d0);have q1 : ∀ q : Wd wr,q.w.cell? ⟨b,o + kz * 6 + 1,none⟩ = some (.int .i64 pq.c):=fun q => (q.cell (hb')).trans (d1);have q2 : ∀ q : Wd wr,q.w.cell? ⟨b,o + kz * 6 + 2,none⟩ = some (.string pq.z):=fun q => (q.cell (hb')).trans (d2);have q3 : ∀ q : Wd wr,q.w.cell? ⟨b,o + kz * 6 + 3,none⟩ = some (.slice qa ql qc):=fun q => (q.cell (hb')).trans (d3);have q4 : ∀ q : Wd wr,q.w.cell? ⟨b,o + kz * 6 + 4,none⟩ = some (.string pq.d):=fun q => (q.cell (hb')).trans (d4);have q5 : ∀ q : Wd wr,q.w.cell? ⟨b,o + kz * 6 + 5,none⟩ = some (.int .i64 pq.p):=fun q => (q.cell (hb')).trans (d5);have hne0:=Wd.ne wr;have HC0:=hidK (fun qw : Wd wr => (spair_any ⟨(some ⟨b1,o1,none⟩),l1,y1,a2,l2,y2,a3,l3,y3,a4,l4,y4,(some ⟨b,o,none⟩),l5,y5⟩ c pq p qa ql qc va vl vc qw.w (HR.out.below (HW.out.trans (qw.b.mono HW.out.size))) HX.out HV.out HNE.out (HTq.out.below qw.b) (HTp.out.below qw.b)).mono (fun _ _ h => BoolB.no h HPr.out));go_wp2_with fail;refine wp_region_wide (by kernel_rfl) (by kernel_rfl) ?_
         repeat (go_big_quiet_step (first | (go_at_call 122;exact Calls.wide (HC0.out _)) | fail))
         refine wpQuiet_nil ?_;rintro _ ⟨q9,rfl⟩;have HB1:=upB HW q9.b;have Ck:=upK Gk q9.b;have Cr:=upK Gr q9.b;clear hne0 HW HB HC0 k0 k1 k2 k3 k4 k5 r0 r1 r2 r3 r4 r5 q0 q1 q2 q3 q4 q5 Gk Gr Bk Br d0 d1 d2 d3 d4 d5;have HB:=HB1;clear HB1;have Bk:=Ck;clear Ck;have Br:=Cr;clear Cr
         go_wp2
         go_ret;exact BoolB.f (fun h => HPr.out ((h.1 k p HXp.out).2.2 kz pq hlt3 HXq.out)) HB.out
       ·obtain rfl : k = kz:=by omega
        go_wp2_with fail;refine ⟨⟨k + 1,by omega,by go_num,fun j z hj hz => ?_,HB.out,Bk.out⟩,by simp [intOf];omega⟩
        by_cases e : j = k
        ·subst e;rw [HXp.out] at hz;obtain rfl:=Option.some.inj hz;exact ⟨HPa.out,HQb.out,fun j2 q2 hj2 hq2 => HQ3.out j2 q2 hj2 hq2⟩
        ·exact HQ.out j z (by omega) hz
   ·have hq3:=tl_no hz1;have HZ0:=hidK hz0;have HZ1:=hidK hz1;clear hz0 hz1;have Gk:=Bk;have Gr:=Br;have HW:=HB;have k0:=fun q : Wd w1 => q.slot (o:=0) Gk.out rfl;obtain ⟨r0,r1,r2,r3,r4,r5⟩:=sl6 Gr;have nw:=fun q : Wd w1 => (q.cell hbn).trans n1;have hne0:=Wd.ne w1;go_wp2_with fail;refine wp_region_wide (by kernel_rfl) (by kernel_rfl) ?_
    repeat (go_big_quiet_step (first | fail))
    refine wpQuiet_nil ?_;rintro _ ⟨q0,rfl⟩;have HB2:=upB HW q0.b;have Ck:=upK Gk q0.b;have Cr:=upK Gr q0.b;have CHTp:=hidK ((HTp.out).below q0.b);clear hne0 HW HB k0 r0 r1 r2 r3 r4 r5 nw Gk Gr Bk Br HTp hbn n1;have HB:=HB2;clear HB2;have HTp:=CHTp;clear CHTp;have Bk:=Ck;clear Ck;have Br:=Cr;clear Cr
    go_wp2
    go_ret;refine BoolB.f (fun h => ?_) HB.out
    rcases (h.1 k p HXp.out).1 with h2 | ⟨i,n',h2,h3,h4⟩
    ·exact HEm.out h2
    ·obtain ⟨_,rfl⟩:=HNR.out.inj h2 HJn.out (h3.trans HNn.out.symm)
     rcases h4 with h4 | h4
     ·exact HZ0.out h4
     ·exact HZ1.out h4
  ·obtain rfl : l5 = k:=by omega
   have HQ1 : Hid (∀ (k : Nat) p,c.ps[k]? = some p → PS c k p):=fun j z hz => HQ.out j z (by have:=(List.getElem?_eq_some_iff.1 hz).1;omega) hz;clear HQ
   go_wp2
   clear pk
   go_loopw [9] (fun i wr => ∃ k : Nat,k ≤ l1 ∧ i = .int .i64 k ∧ Hid (∀ (j : Nat) n,j < k → c.ns[j]? = some n → cpuOf n.n c.ps ≤ n.c) ∧ Hid (Below w.heap.size w wr) ∧ Hid (wr.heap[w.heap.size]? = some (.cells #[.slice a1 l1 y1,.slice a2 l2 y2,.slice a3 l3 y3,.slice a4 l4 y4,.slice a5 l5 y5,.int .i64 c.now] 36 (0,0)))) (fun i _ => l1 - (intOf i).toNat)
   case atStart => exact ⟨0,by omega,rfl,fun _ _ h => absurd h (by omega),HB.out,Bk.out⟩
   case round =>
    obtain ⟨k,hk,rfl,HQ,HB,Bk⟩:=hrel;have pk:=ck0 Bk.out
    by_cases hlt : k < l1
    ·obtain ⟨b,o,n,rfl,hb,hx,hat⟩:=nd_at (HR.out.n.below HB.out) hlt;obtain ⟨va,vl,vc,hvr,z0,z1,c0,c1,c2,c3,c4,c5,c6⟩:=nd_cells hat;have HXn:=hidK hx;clear hat hx z0 z1 hvr;have Gk:=Bk;have HW:=HB;obtain ⟨k0,k1,k2,k3,k4,k5⟩:=sl6 Gk;have n0w:=fun q : Wd wr => (q.cell hb).trans c0;have n2w:=fun q : Wd wr => (q.cell hb).trans c2;have hne0:=Wd.ne wr;have HC0:=hidK (fun q : Wd wr => sused_any ⟨(some ⟨b,o,none⟩),l1,y1,a2,l2,y2,a3,l3,y3,a4,l4,y4,a5,l5,y5⟩ c.now c.ps n.n q.w (HR.out.p.below (HW.out.trans (q.b.mono HW.out.size))) HL5.out HPC.out);go_wp2_with fail;refine wp_region_wide (by kernel_rfl) (by kernel_rfl) ?_
     repeat (go_big_quiet_step (first | (go_at_call 123;exact Calls.wide (HC0.out _)) | fail))
     refine wpQuiet_nil ?_;rintro _ ⟨q1,rfl⟩;have HB1:=upB HW q1.b;have Ck:=upK Gk q1.b;clear hne0 HW HB HC0 k0 k1 k2 k3 k4 k5 n0w n2w Gk Bk pk c0 c1 c2 c3 c4 c5 c6 hb;have HB:=HB1;clear HB1;have Bk:=Ck;clear Ck
     by_cases hq : cpuOf n.n c.ps ≤ n.c
     ·have HCq:=hidK hq;go_wp2_with fail;refine ⟨⟨k + 1,by omega,by go_num,fun j z hj hz => ?_,HB.out,Bk.out⟩,by simp [intOf];omega⟩
      by_cases e : j = k
      ·subst e;rw [HXn.out] at hz;obtain rfl:=Option.some.inj hz;exact HCq.out
      ·exact HQ.out j z (by omega) hz
     ·have HCq:=hidK hq
      go_wp2
      go_ret;exact BoolB.f (fun h => by have h1 : cpuOf n.n c.ps ≤ n.c:=h.2 k n HXn.out;have h2:=HCq.out;omega) HB.out
    ·obtain rfl : l1 = k:=by omega
     go_wp2
     go_ret;exact BoolB.t ⟨HQ1.out,fun j n hz => HQ.out j n (by have:=(List.getElem?_eq_some_iff.1 hz).1;omega) hz⟩ HB.out

def AttachedS (c : Cl) : Prop:=(∀ (j : Nat) z,c.vs[j]? = some z → AQ1 c z) ∧ ∀ (j : Nat) n,c.ns[j]? = some n → onOf n.n c.vs ≤ n.s

theorem sattached_any (d : Ad) (c : Cl) (w : World) (hr : ClRow w d c.raw) (hn : RisBy Nd.n c.ns) (hvs8 : c.vs.length ≤ 8) :
  Calls Tryz.prog 103 #[.agg #[.slice d.a1 d.l1 d.c1,.slice d.a2 d.l2 d.c2,.slice d.a3 d.l3 d.c3,.slice d.a4 d.l4 d.c4,.slice d.a5 d.l5 d.c5,.int .i64 c.now]] w (BoolB (AttachedS c) w):=by
 obtain ⟨a1,l1,y1,a2,l2,y2,a3,l3,y3,a4,l4,y4,a5,l5,y5⟩:=d;dsimp only;have HR:=hidK hr
 have hl1 : c.ns.length = l1:=by simpa using (show (c.ns.map ndF).length = l1 from hr.n.1)
 have hm1 : l1 ≤ 9223372036854775807:=Nat.le_trans hr.n.2.1 hr.n.2.2.1
 have hl3 : c.vs.length = l3:=by simpa using (show (c.vs.map vdF).length = l3 from hr.v.1)
 have hm3 : l3 ≤ 9223372036854775807:=Nat.le_trans hr.v.2.1 hr.v.2.2.1;clear hr;have HNR:=hidK hn;have HL3:=hidK hvs8;clear hn hvs8
 go_enter Tryz.func103,Tryz.ntmps103
 go_wp2
 go_loopw [3] (fun i wr => ∃ k : Nat,k ≤ l3 ∧ i = .int .i64 k ∧ Hid (∀ (j : Nat) z,j < k → c.vs[j]? = some z → AQ1 c z) ∧ Hid (Below w.heap.size w wr) ∧ Hid (wr.heap[w.heap.size]? = some (.cells #[.slice a1 l1 y1,.slice a2 l2 y2,.slice a3 l3 y3,.slice a4 l4 y4,.slice a5 l5 y5,.int .i64 c.now] 36 (0,0)))) (fun i _ => l3 - (intOf i).toNat)
 case atStart => exact ⟨0,by omega,rfl,fun _ _ h => absurd h (by omega),below1 _ _,Array.getElem?_push_size⟩
 case round =>
  obtain ⟨k,hk,rfl,HQ,HB,Bk⟩:=hrel;have pk:=ck2 Bk.out
  by_cases hlt : k < l3
  ·obtain ⟨b,o,v,rfl,hb,hx,hat⟩:=vd_at (HR.out.v.below HB.out) hlt;obtain ⟨va,vl,vc,hvr,z0,z2,z3,z5,c0,c1,c2,c3,c4,c5,c6,c7⟩:=vd_cells hat;have HXv:=hidK hx;have HTv:=hidK hvr;clear hat hx z0 z2 z3 z5 hvr;have hvl:=HTv.out.1;have hvc:=Nat.le_trans HTv.out.2.1 HTv.out.2.2.1;have HVL:=hidK hvl;clear hvl;have KV : Hid ((wr.alloc (.cells #[.string v.n,.int .i64 v.c,.string v.z,.string v.k,.bool v.x,.string v.m,.bool v.y,.slice va vl vc] 101)).heap[w.heap.size]? = some (.cells #[.slice a1 l1 y1,.slice a2 l2 y2,.slice (some ⟨b,o,none⟩) l3 y3,.slice a4 l4 y4,.slice a5 l5 y5,.int .i64 c.now] 36 (0,0))):=(Below.heap_alloc wr (.cells #[.string v.n,.int .i64 v.c,.string v.z,.string v.k,.bool v.x,.string v.m,.bool v.y,.slice va vl vc] 101) _ (lt_of_some Bk.out)).trans Bk.out;have GV : Hid ((wr.alloc (.cells #[.string v.n,.int .i64 v.c,.string v.z,.string v.k,.bool v.x,.string v.m,.bool v.y,.slice va vl vc] 101)).heap[wr.heap.size]? = some (.cells #[.string v.n,.int .i64 v.c,.string v.z,.string v.k,.bool v.x,.string v.m,.bool v.y,.slice va vl vc] 101 (0,0))):=Array.getElem?_push_size;have BV:=hidK (HB.out.trans ((below1 wr (.cells #[.string v.n,.int .i64 v.c,.string v.z,.string v.k,.bool v.x,.string v.m,.bool v.y,.slice va vl vc] 101)).mono HB.out.size));have TT:=hidK (HTv.out.below (below1 wr (.cells #[.string v.n,.int .i64 v.c,.string v.z,.string v.k,.bool v.x,.string v.m,.bool v.y,.slice va vl vc] 101)));obtain ⟨W,hW⟩ : ∃ W,W = wr.alloc (.cells #[.string v.n,.int .i64 v.c,.string v.z,.string v.k,.bool v.x,.string v.m,.bool v.y,.slice va vl vc] 101):=⟨_,rfl⟩;obtain ⟨gb,hgb⟩ : ∃ gb,gb = wr.heap.size:=⟨_,rfl⟩;rw [← hW] at KV GV BV TT;rw [← hgb] at GV
   go_wp2
   rw [← hW,← hgb];clear hW hgb HB Bk HTv c0 c1 c2 c3 c4 c5 c6 c7 hb pk
   go_loopw [5] (fun i wr => ∃ kq : Nat,kq ≤ vl ∧ i = .int .i64 kq ∧ Hid (∀ (j : Nat) t,j < kq → v.zs[j]? = some t → ∃ (i : Nat) (n : Nd),c.ns[i]? = some n ∧ n.n = t ∧ n.z = v.z) ∧ Hid (Below W.heap.size W wr)) (fun i _ => vl - (intOf i).toNat)
   case atStart => exact ⟨0,by omega,rfl,fun _ _ h => absurd h (by omega),Below.refl _ _⟩
   case round =>
    obtain ⟨kq,hkq,rfl,HQ2,HBW⟩:=hrel;have HB:=hidK (BV.out.trans (HBW.out.mono BV.out.size));have Bk:=upK KV HBW.out;have Bv:=upK GV HBW.out;have pv:=ck7 Bv.out
    by_cases hlt2 : kq < vl
    ·obtain ⟨b2,o2,t,rfl,hb,hx,hc,hsz⟩:=(TT.out.below HBW.out).at hlt2;have HXt:=hidK hx;clear hx hsz
     by_cases hnn : ∃ (i : Nat) (n : Nd),c.ns[i]? = some n ∧ n.n = t
     rotate_left
     ·have HH:=hidK hnn;clear hnn;have Gk:=Bk;have Gv:=Bv;have HW:=HB;have k0:=fun q : Wd wr => q.slot (o:=0) Gk.out rfl;have k1:=fun q : Wd wr => q.slot (o:=1) Gk.out rfl;have k2:=fun q : Wd wr => q.slot (o:=2) Gk.out rfl;have k3:=fun q : Wd wr => q.slot (o:=3) Gk.out rfl;have k4:=fun q : Wd wr => q.slot (o:=4) Gk.out rfl;have k5:=fun q : Wd wr => q.slot (o:=5) Gk.out rfl;have v7:=fun q : Wd wr => q.slot (o:=7) Gv.out rfl;have tw:=fun q : Wd wr => (q.cell hb).trans hc;have hne0:=Wd.ne wr;have HC0:=hidK (fun q : Wd wr => sxnd_miss ⟨a1,l1,y1,a2,l2,y2,(some ⟨b,o,none⟩),l3,y3,a4,l4,y4,a5,l5,y5⟩ c.now c.ns t q.w (HR.out.n.below (HW.out.trans (q.b.mono HW.out.size))) (fun i n h1 h2 => HH.out ⟨i,n,h1,h2⟩));go_wp2_with fail;refine wp_region_wide (by kernel_rfl) (by kernel_rfl) ?_
      repeat (go_big_quiet_step (first | (go_at_call 51;exact Calls.wide (HC0.out _)) | fail))
      refine wpQuiet_nil ?_;rintro _ ⟨q1,rfl⟩;have HB1:=upB HW q1.b;have Ck:=upK Gk q1.b;have Cv:=upK Gv q1.b;clear hne0 HW HB HC0 k0 k1 k2 k3 k4 k5 v7 tw Gk Gv Bk Bv pv;have HB:=HB1;clear HB1;have Bk:=Ck;clear Ck;have Bv:=Cv;clear Cv;have Gk:=Bk;have Gv:=Bv;have HW:=HB;have k0:=fun q : Wd q1.w => q.slot (o:=0) Gk.out rfl;have v2:=fun q : Wd q1.w => q.slot (o:=2) Gv.out rfl;have v7:=fun q : Wd q1.w => q.slot (o:=7) Gv.out rfl;have hne0:=Wd.ne q1.w;go_wp2_with fail;refine wp_region_wide (by kernel_rfl) (by kernel_rfl) ?_
      repeat (go_big_quiet_step (first | fail))
      refine wpQuiet_nil ?_;rintro _ ⟨q2,rfl⟩;have HB2:=upB HW q2.b;have Ck:=upK Gk q2.b;have Cv:=upK Gv q2.b;clear hne0 HW HB k0 v2 v7 Gk Gv Bk Bv;have HB:=HB2;clear HB2;have Bk:=Ck;clear Ck;have Bv:=Cv;clear Cv
      go_wp2
      go_ret;refine BoolB.f (fun h => ?_) HB.out;obtain ⟨i,n,h2,h3,_⟩:=(h.1 k v HXv.out) kq t HXt.out;exact HH.out ⟨i,n,h2,h3⟩
     obtain ⟨j1,n,h1,h2⟩:=hnn
     have hl1' : j1 < l1:=by have h3:=(List.getElem?_eq_some_iff.1 h1).1;omega
     obtain ⟨b1,o1,n',rfl,hb1n,hn',hat⟩:=nd_at HR.out.n hl1';rw [h1] at hn';obtain rfl:=Option.some.inj hn';obtain ⟨na,nl,nc,hnr,z0,z1,d0,d1,d2,d3,d4,d5,d6⟩:=nd_cells hat;have HJn:=hidK h1;have HNn:=hidK h2;have HCn:=hidK d1;have HBn:=hidK hb1n
     have hj11 : decide ((j1 : Int) < 0) = false:=by simp
     clear hn' hat hnr z0 z1 d0 d1 d2 d3 d4 d5 d6 h1 h2 hb1n;have Gk:=Bk;have Gv:=Bv;have HW:=HB;obtain ⟨k0,k1,k2,k3,k4,k5⟩:=sl6 Gk;have v7:=fun q : Wd wr => q.slot (o:=7) Gv.out rfl;have tw:=fun q : Wd wr => (q.cell hb).trans hc;have hne0:=Wd.ne wr;have HC0:=hidK (fun q : Wd wr => sxnd_hit ⟨(some ⟨b1,o1,none⟩),l1,y1,a2,l2,y2,(some ⟨b,o,none⟩),l3,y3,a4,l4,y4,a5,l5,y5⟩ c.now c.ns t q.w (HR.out.n.below (HW.out.trans (q.b.mono HW.out.size))) HNR.out HJn.out HNn.out);go_wp2_with fail;refine wp_region_wide (by kernel_rfl) (by kernel_rfl) ?_
     repeat (go_big_quiet_step (first | (go_at_call 51;exact Calls.wide (HC0.out _)) | fail))
     refine wpQuiet_nil ?_;rintro _ ⟨q1,rfl⟩;have HB1:=upB HW q1.b;have Ck:=upK Gk q1.b;have Cv:=upK Gv q1.b;clear hne0 HW HB HC0 k0 k1 k2 k3 k4 k5 v7 tw Gk Gv Bk Bv pv hb hc;have HB:=HB1;clear HB1;have Bk:=Ck;clear Ck;have Bv:=Cv;clear Cv;have HBW1:=upB HBW q1.b;have hbn:=Nat.lt_of_lt_of_le HBn.out HB.out.size;have n1:=(cell_below HB.out HBn.out).trans HCn.out;clear HBW
     by_cases hz : n.z = v.z
     ·have q8:=tl_yes hz;have HZ:=hidK hz;clear hz;have Gk:=Bk;have Gv:=Bv;have HW:=HB;have k0:=fun q : Wd q1.w => q.slot (o:=0) Gk.out rfl;have v2:=fun q : Wd q1.w => q.slot (o:=2) Gv.out rfl;have v7:=fun q : Wd q1.w => q.slot (o:=7) Gv.out rfl;have nw:=fun q : Wd q1.w => (q.cell hbn).trans n1;have hne0:=Wd.ne q1.w;go_wp2_with fail;refine wp_region_wide (by kernel_rfl) (by kernel_rfl) ?_
      repeat (go_big_quiet_step (first | fail))
      refine wpQuiet_nil ?_;rintro _ ⟨q2,rfl⟩;have HB2:=upB HW q2.b;have Ck:=upK Gk q2.b;have Cv:=upK Gv q2.b;clear hne0 HW HB k0 v2 v7 nw Gk Gv Bk Bv hbn n1;have HB:=HB2;clear HB2;have Bk:=Ck;clear Ck;have Bv:=Cv;clear Cv;clear q8;go_wp2_with fail;refine ⟨⟨kq + 1,by omega,by go_num,fun j s hj hs => ?_,HBW1.out.trans (q2.b.mono HBW1.out.size)⟩,by simp [intOf];omega⟩
      by_cases e : j = kq
      ·subst e;rw [HXt.out] at hs;obtain rfl:=Option.some.inj hs;exact ⟨j1,n,HJn.out,HNn.out,HZ.out⟩
      ·exact HQ2.out j s (by omega) hs
     ·have q8:=tl_no hz;have HZ:=hidK hz;clear hz;have Gk:=Bk;have Gv:=Bv;have HW:=HB;have k0:=fun q : Wd q1.w => q.slot (o:=0) Gk.out rfl;have v2:=fun q : Wd q1.w => q.slot (o:=2) Gv.out rfl;have v7:=fun q : Wd q1.w => q.slot (o:=7) Gv.out rfl;have nw:=fun q : Wd q1.w => (q.cell hbn).trans n1;have hne0:=Wd.ne q1.w;go_wp2_with fail;refine wp_region_wide (by kernel_rfl) (by kernel_rfl) ?_
      repeat (go_big_quiet_step (first | fail))
      refine wpQuiet_nil ?_;rintro _ ⟨q2,rfl⟩;have HB2:=upB HW q2.b;have Ck:=upK Gk q2.b;have Cv:=upK Gv q2.b;clear hne0 HW HB k0 v2 v7 nw Gk Gv Bk Bv hbn n1;have HB:=HB2;clear HB2;have Bk:=Ck;clear Ck;have Bv:=Cv;clear Cv
      go_wp2
      go_ret;refine BoolB.f (fun h => ?_) HB.out;obtain ⟨i,m2,e1,e2,e3⟩:=(h.1 k v HXv.out) kq t HXt.out;obtain ⟨_,rfl⟩:=HNR.out.inj e1 HJn.out (e2.trans HNn.out.symm);exact HZ.out e3
    ·obtain rfl : vl = kq:=by omega
     go_wp2_with fail;refine ⟨⟨k + 1,by omega,by go_num,fun j z hj hz => ?_,HB.out,Bk.out⟩,by simp [intOf];omega⟩
     by_cases e : j = k
     ·subst e;rw [HXv.out] at hz;obtain rfl:=Option.some.inj hz;exact fun j s hs => HQ2.out j s (by have h1:=(List.getElem?_eq_some_iff.1 hs).1;have h2:=HVL.out;omega) hs
     ·exact HQ.out j z (by omega) hz
  ·obtain rfl : l3 = k:=by omega
   have HQ1 : Hid (∀ (j : Nat) z,c.vs[j]? = some z → AQ1 c z):=fun j z hz => HQ.out j z (by have:=(List.getElem?_eq_some_iff.1 hz).1;omega) hz;clear HQ
   go_wp2
   clear pk
   go_loopw [7] (fun i wr => ∃ k : Nat,k ≤ l1 ∧ i = .int .i64 k ∧ Hid (∀ (j : Nat) n,j < k → c.ns[j]? = some n → onOf n.n c.vs ≤ n.s) ∧ Hid (Below w.heap.size w wr) ∧ Hid (wr.heap[w.heap.size]? = some (.cells #[.slice a1 l1 y1,.slice a2 l2 y2,.slice a3 l3 y3,.slice a4 l4 y4,.slice a5 l5 y5,.int .i64 c.now] 36 (0,0)))) (fun i _ => l1 - (intOf i).toNat)
   case atStart => exact ⟨0,by omega,rfl,fun _ _ h => absurd h (by omega),HB.out,Bk.out⟩
   case round =>
    obtain ⟨k,hk,rfl,HQ,HB,Bk⟩:=hrel;have pk:=ck0 Bk.out
    by_cases hlt : k < l1
    ·obtain ⟨b,o,n,rfl,hb,hx,hat⟩:=nd_at (HR.out.n.below HB.out) hlt;obtain ⟨va,vl,vc,hvr,z0,z1,c0,c1,c2,c3,c4,c5,c6⟩:=nd_cells hat;have HXn:=hidK hx;clear hat hx z0 z1 hvr;have Gk:=Bk;have HW:=HB;obtain ⟨k0,k1,k2,k3,k4,k5⟩:=sl6 Gk;have n0w:=fun q : Wd wr => (q.cell hb).trans c0;have n2w:=fun q : Wd wr => (q.cell hb).trans c3;have hne0:=Wd.ne wr;have HC0:=hidK (fun q : Wd wr => son_any ⟨(some ⟨b,o,none⟩),l1,y1,a2,l2,y2,a3,l3,y3,a4,l4,y4,a5,l5,y5⟩ c.now c.vs n.n q.w (HR.out.v.below (HW.out.trans (q.b.mono HW.out.size))) HL3.out);go_wp2_with fail;refine wp_region_wide (by kernel_rfl) (by kernel_rfl) ?_
     repeat (go_big_quiet_step (first | (go_at_call 124;exact Calls.wide (HC0.out _)) | fail))
     refine wpQuiet_nil ?_;rintro _ ⟨q1,rfl⟩;have HB1:=upB HW q1.b;have Ck:=upK Gk q1.b;clear hne0 HW HB HC0 k0 k1 k2 k3 k4 k5 n0w n2w Gk Bk pk c0 c1 c2 c3 c4 c5 c6 hb;have HB:=HB1;clear HB1;have Bk:=Ck;clear Ck
     by_cases hq : onOf n.n c.vs ≤ n.s
     ·have HCq:=hidK hq;go_wp2_with fail;refine ⟨⟨k + 1,by omega,by go_num,fun j z hj hz => ?_,HB.out,Bk.out⟩,by simp [intOf];omega⟩
      by_cases e : j = k
      ·subst e;rw [HXn.out] at hz;obtain rfl:=Option.some.inj hz;exact HCq.out
      ·exact HQ.out j z (by omega) hz
     ·have HCq:=hidK hq
      go_wp2
      go_ret;exact BoolB.f (fun h => by have h1 : onOf n.n c.vs ≤ n.s:=h.2 k n HXn.out;have h2:=HCq.out;omega) HB.out
    ·obtain rfl : l1 = k:=by omega
     go_wp2
     go_ret;exact BoolB.t ⟨HQ1.out,fun j n hz => HQ.out j n (by have:=(List.getElem?_eq_some_iff.1 hz).1;omega) hz⟩ HB.out

def FreshN (W : World) : Fact:=fun v w => ∃ g,v = .pointer (some ⟨g,0,none⟩) ∧ W.heap.size ≤ g ∧ w.heap[g]? = some (.cells #[.string ⟨#[]⟩,.string ⟨#[]⟩,.int .i64 0,.int .i64 0,.int .i64 0,.bool false,.slice none 0 0] 56 (0,0))
theorem FreshN.mono (W : World) : Fact.Mono (FreshN W):=by
 rintro v w w' ⟨g,h1,h2,h3⟩ hb;exact ⟨g,h1,h2,(hb.block g (lt_of_some h3)).trans h3⟩
theorem put7N {w : World} {g : Nat} {v0 v1 v2 v3 v4 v5 v6 : Value} (h : w.heap[g]? = some (.cells #[.string ⟨#[]⟩,.string ⟨#[]⟩,.int .i64 0,.int .i64 0,.int .i64 0,.bool false,.slice none 0 0] 56 (0,0))) :
  (((((((w.setCell ⟨g,0,none⟩ (v0)).setCell ⟨g,1,none⟩ (v1)).setCell ⟨g,2,none⟩ (v2)).setCell ⟨g,3,none⟩ (v3)).setCell ⟨g,4,none⟩ (v4)).setCell ⟨g,5,none⟩ (v5)).setCell ⟨g,6,none⟩ (v6)).heap[g]? = some (.cells #[v0,v1,v2,v3,v4,v5,v6] 56 (0,0)):=by
 have:=block_set (i:=6) (block_set (i:=5) (block_set (i:=4) (block_set (i:=3) (block_set (i:=2) (block_set (i:=1) (block_set (i:=0) h v0) v1) v2) v3) v4) v5) v6
 simpa using this
theorem set_below7 {W w : World} {g : Nat} {v0 v1 v2 v3 v4 v5 v6 : Value} (hg : W.heap.size ≤ g) (h : Below W.heap.size W w) : Below W.heap.size W (((((((w.setCell ⟨g,0,none⟩ (v0)).setCell ⟨g,1,none⟩ (v1)).setCell ⟨g,2,none⟩ (v2)).setCell ⟨g,3,none⟩ (v3)).setCell ⟨g,4,none⟩ (v4)).setCell ⟨g,5,none⟩ (v5)).setCell ⟨g,6,none⟩ (v6)) :=
 set_below hg (set_below hg (set_below hg (set_below hg (set_below hg (set_below hg (set_below hg h))))))
def AllS (c : Cl) (p : Pd) (n : Nd) : Prop:=∀ (j : Nat) t,p.zs[j]? = some t → ∃ v,IsBd c t v ∧ InL n.zs v.n

theorem sall_any (d : Ad) (c : Cl) (p : Pd) (pa : Option Addr) (pl pc : Nat) (j1 : Nat) (n : Nd) (w : World) (hr : ClRow w d c.raw) (hn : RisBy Nd.n c.ns) (hx : RisBy Xd.n c.xs) (hv : RisBy Vd.n c.vs) (hne : ∀ (j : Nat) v,c.vs[j]? = some v → ¬ v.n = ⟨#[]⟩) (hp : TxRow w pa pl pc p.zs) (hj1 : c.ns[j1]? = some n) (hnn : n.n = p.d) (hbd : ∀ (j : Nat) t,p.zs[j]? = some t → ∃ v,IsBd c t v) :
  Calls Tryz.prog 53 #[.agg #[.slice d.a1 d.l1 d.c1,.slice d.a2 d.l2 d.c2,.slice d.a3 d.l3 d.c3,.slice d.a4 d.l4 d.c4,.slice d.a5 d.l5 d.c5,.int .i64 c.now],.agg #[.string p.n,.int .i64 p.c,.string p.z,.slice pa pl pc,.string p.d,.int .i64 p.p]] w (BoolB (AllS c p n) w):=by
 obtain ⟨a1,l1,y1,a2,l2,y2,a3,l3,y3,a4,l4,y4,a5,l5,y5⟩:=d;dsimp only;have HR:=hidK hr
 have hl1 : c.ns.length = l1:=by simpa using (show (c.ns.map ndF).length = l1 from hr.n.1)
 have hl3 : c.vs.length = l3:=by simpa using (show (c.vs.map vdF).length = l3 from hr.v.1)
 clear hr;have HNR:=hidK hn;have HX:=hidK hx;have HV:=hidK hv;have HNE:=hidK hne;have HP:=hidK hp;have HBD:=hidK hbd;have hlc:=Nat.le_trans hp.2.1 hp.2.2.1;have hzl:=hp.1
 have hl1' : j1 < l1:=by have h3:=(List.getElem?_eq_some_iff.1 hj1).1;omega
 obtain ⟨b1,o1,n',rfl,hb1n,hn',hat⟩:=nd_at HR.out.n hl1';rw [hj1] at hn';obtain rfl:=Option.some.inj hn';obtain ⟨na,nl,nc,hnr,z0,z1,d0,d1,d2,d3,d4,d5,d6⟩:=nd_cells hat;have HJn:=hidK hj1;have HNn:=hidK hnn;have HTn:=hidK hnr;have HBn:=hidK hb1n;have HD : Hid (w.cell? ⟨b1,o1 + j1 * 7,none⟩ = some (.string n.n) ∧ w.cell? ⟨b1,o1 + j1 * 7 + 1,none⟩ = some (.string n.z) ∧ w.cell? ⟨b1,o1 + j1 * 7 + 2,none⟩ = some (.int .i64 n.c) ∧ w.cell? ⟨b1,o1 + j1 * 7 + 3,none⟩ = some (.int .i64 n.s) ∧ w.cell? ⟨b1,o1 + j1 * 7 + 4,none⟩ = some (.int .i64 n.u) ∧ w.cell? ⟨b1,o1 + j1 * 7 + 5,none⟩ = some (.bool n.d) ∧ w.cell? ⟨b1,o1 + j1 * 7 + 6,none⟩ = some (.slice na nl nc)):=⟨d0,d1,d2,d3,d4,d5,d6⟩;clear hn' hat hnr z0 z1 d0 d1 d2 d3 d4 d5 d6 hj1 hnn hb1n hn hx hv hne hp hbd;obtain ⟨W,hW0⟩ : ∃ W,W = (w.alloc (.cells #[.slice (some ⟨b1,o1,none⟩) l1 y1,.slice a2 l2 y2,.slice a3 l3 y3,.slice a4 l4 y4,.slice a5 l5 y5,.int .i64 c.now] 36)).alloc (.cells #[.string p.n,.int .i64 p.c,.string p.z,.slice pa pl pc,.string p.d,.int .i64 p.p] 103):=⟨_,rfl⟩
 have GK : Hid (W.heap[w.heap.size]? = some (.cells #[.slice (some ⟨b1,o1,none⟩) l1 y1,.slice a2 l2 y2,.slice a3 l3 y3,.slice a4 l4 y4,.slice a5 l5 y5,.int .i64 c.now] 36 (0,0))):=by rw [hW0];exact heap2_0 _ _ _
 have GP : Hid (W.heap[w.heap.size + 1]? = some (.cells #[.string p.n,.int .i64 p.c,.string p.z,.slice pa pl pc,.string p.d,.int .i64 p.p] 103 (0,0))):=by rw [hW0];exact heap2_1 _ _ _
 have BW : Hid (Below w.heap.size w W):=by rw [hW0];exact below2 _ _ _
 go_enter Tryz.func53,Tryz.ntmps53
 go_wp2_with fail;rw [← hW0];clear hW0;rename_i K0 hK0;refine wp_region_grow_last (by kernel_rfl) rfl rfl (by kernel_rfl) ?_;refine' Grow.stepC _ rfl ?_ ?_;rotate_left 1
 ·refine Obl.plain rfl ?_;intro ac wg K hsz hW hf hK;clear hsz;have e2:=hf 2 (by decide)
  simp [slotFact,List.lookup] at e2
  clear hf;go_simp;refine hK _ _ (Below.refl _ _) ?_;with_reducible rfl
 refine' Grow.stepC _ rfl ?_ ?_;rotate_left 1
 ·refine Obl.plain rfl ?_;intro ac wg K hsz hW hf hK;clear hsz;have e7:=hf 7 (by decide)
  simp [slotFact,List.lookup] at e7
  clear hf;obtain ⟨k0,k1,k2,k3,k4,k5⟩:=cs6 ((hW.block _ (lt_of_some GK.out)).trans GK.out);go_simp;refine hK _ _ (Below.refl _ _) ?_;with_reducible rfl
 refine' Grow.stepC _ rfl ?_ ?_;rotate_left 1
 ·refine Obl.plain rfl ?_;intro ac wg K hsz hW hf hK;clear hsz;have e2:=hf 2 (by decide)
  simp [slotFact,List.lookup] at e2
  clear hf;obtain ⟨k0,k1,k2,k3,k4,k5⟩:=cs6 ((hW.block _ (lt_of_some GK.out)).trans GK.out);go_simp;refine hK _ _ (Below.refl _ _) ?_;with_reducible rfl
 refine' Grow.stepC _ rfl ?_ ?_;rotate_left 1
 ·refine Obl.plain rfl ?_;intro ac wg K hsz hW hf hK;clear hsz;have e3:=hf 3 (by decide)
  simp [slotFact,List.lookup] at e3
  clear hf;go_simp;refine hK _ _ (Below.refl _ _) ?_;with_reducible rfl
 refine' Grow.stepC _ rfl ?_ ?_;rotate_left 1
 ·refine Obl.plain rfl ?_;intro ac wg K hsz hW hf hK;clear hsz;have e10:=hf 10 (by decide)
  simp [slotFact,List.lookup] at e10
  clear hf;obtain ⟨r0,r1,r2,r3,r4,r5⟩:=cs6 ((hW.block _ (lt_of_some GP.out)).trans GP.out);go_simp;refine hK _ _ (Below.refl _ _) ?_;with_reducible rfl
 refine' Grow.stepC (.int .i64 j1) rfl ?_ ?_
 ·refine Obl.plain rfl ?_;intro ac wg K hsz hW hf hK;clear hsz;have e9:=hf 9 (by decide)
  simp [slotFact,List.lookup] at e9
  have e11:=hf 11 (by decide)
  simp [slotFact,List.lookup] at e11
  clear hf;go_simp;refine (sxnd_hit ⟨(some ⟨b1,o1,none⟩),l1,y1,a2,l2,y2,a3,l3,y3,a4,l4,y4,a5,l5,y5⟩ c.now c.ns p.d _ (HR.out.n.below (BW.out.trans (hW.mono BW.out.size))) HNR.out HJn.out HNn.out).mono ?_;rintro e w5 ⟨rfl,hb5⟩;exact hK _ _ hb5 rfl
 refine' Grow.stepC _ rfl ?_ ?_;rotate_left 1
 ·refine Obl.plain rfl ?_;intro ac wg K hsz hW hf hK;clear hsz;have e8:=hf 8 (by decide)
  simp [slotFact,List.lookup] at e8
  have e12:=hf 12 (by decide)
  simp [slotFact,List.lookup] at e12
  clear hf;go_simp;refine hK _ _ (Below.refl _ _) ?_;with_reducible rfl
 refine' Grow.stepC _ rfl ?_ ?_;rotate_left 1
 ·refine Obl.plain rfl ?_;intro ac wg K hsz hW hf hK;clear hsz;have e13:=hf 13 (by decide)
  simp [slotFact,List.lookup] at e13
  clear hf;have hBg:=BW.out.trans (hW.mono BW.out.size);obtain ⟨d0,d1,d2,d3,d4,d5,d6⟩:=HD.out;have g0:=(cell_below hBg HBn.out).trans d0;have g1:=(cell_below hBg HBn.out).trans d1;have g2:=(cell_below hBg HBn.out).trans d2;have g3:=(cell_below hBg HBn.out).trans d3;have g4:=(cell_below hBg HBn.out).trans d4;have g5:=(cell_below hBg HBn.out).trans d5;have g6:=(cell_below hBg HBn.out).trans d6;clear d0 d1 d2 d3 d4 d5 d6 hBg;go_simp;refine hK _ _ (Below.refl _ _) ?_;with_reducible rfl
 refine Grow.step (FreshN W) rfl (FreshN.mono W) ?_ ?_
 ·refine Obl.plain rfl ?_;intro ac wg K hsz hW hf hK;clear hsz;clear hf;go_simp;exact hK _ _ (below1 _ _) ⟨_,rfl,hW.size,Array.getElem?_push_size⟩
 refine Grow.done ?_;intro q wz hW hf;simp only [List.forall_mem_cons] at hf;obtain ⟨⟨g5,h5,hbW,hgb⟩,h14,-⟩:=hf;have r0:=ck0 hgb;have r1:=ck1 hgb;have r2:=ck2 hgb;have r3:=ck3 hgb;have r4:=ck4 hgb;have r5:=ck5 hgb;have r6:=ck6 hgb;have f0:=froK hgb 0;have f1:=froK hgb 1;have f2:=froK hgb 2;have f3:=froK hgb 3;have f4:=froK hgb 4;have f5:=froK hgb 5;have f6:=froK hgb 6;have GN:=hidK (put7N (v0:=.string n.n) (v1:=.string n.z) (v2:=.int .i64 n.c) (v3:=.int .i64 n.s) (v4:=.int .i64 n.u) (v5:=.bool n.d) (v6:=.slice na nl nc) hgb);have BN:=hidK (set_below7 (v0:=.string n.n) (v1:=.string n.z) (v2:=.int .i64 n.c) (v3:=.int .i64 n.s) (v4:=.int .i64 n.u) (v5:=.bool n.d) (v6:=.slice na nl nc) hbW hW);clear hgb hW;intro K hK;rw [if_pos (by rfl)];simp only [putsAll,List.foldr,Act.put,List.setIfInBounds_toArray,List.set_cons_zero,List.set_cons_succ,h5,h14];simp only [List.getLast];go_simp;refine hK _ _ ?_;refine hK0 _ _ ?_;clear hK hK0 K K0
 generalize (((((((wz.setCell ⟨g5,0,none⟩ (.string n.n)).setCell ⟨g5,1,none⟩ (.string n.z)).setCell ⟨g5,2,none⟩ (.int .i64 n.c)).setCell ⟨g5,3,none⟩ (.int .i64 n.s)).setCell ⟨g5,4,none⟩ (.int .i64 n.u)).setCell ⟨g5,5,none⟩ (.bool n.d)).setCell ⟨g5,6,none⟩ (.slice na nl nc)) = Y at GN BN ⊢
 clear r0 f0 r1 f1 r2 f2 r3 f3 r4 f4 r5 f5 r6 f6;have KV:=upK GK BN.out;have PVv:=upK GP BN.out;have BV:=hidK (BW.out.trans (BN.out.mono BW.out.size));clear GK GP BW BN hbW;have pp:=ck3 PVv.out
 go_wp2
 clear pp
 go_loopw [6] (fun i wr => ∃ k : Nat,k ≤ pl ∧ i = .int .i64 k ∧ Hid (∀ (j : Nat) t,j < k → p.zs[j]? = some t → ∃ v,IsBd c t v ∧ InL n.zs v.n) ∧ Hid (Below Y.heap.size Y wr)) (fun i _ => pl - (intOf i).toNat)
 case atStart => exact ⟨0,by omega,rfl,fun _ _ h => absurd h (by omega),Below.refl _ _⟩
 case round =>
  obtain ⟨k,hk,rfl,HQ,HBY⟩:=hrel;have HB:=hidK (BV.out.trans (HBY.out.mono BV.out.size));have Bk:=upK KV HBY.out;have Bp:=upK PVv HBY.out;have Bn:=upK GN HBY.out;have pp:=ck3 Bp.out
  by_cases hlt : k < pl
  ·obtain ⟨b,o,t,rfl,hb,hxt,hc,hsz⟩:=(HP.out.below HB.out).at hlt;have HXt:=hidK hxt;clear hxt hsz;obtain ⟨v,hbd⟩:=HBD.out k t HXt.out;obtain ⟨j3,hj3⟩:=hbd.at
   have hl3' : j3 < l3:=by have h1:=(List.getElem?_eq_some_iff.1 hj3).1;omega
   obtain ⟨b3,o3,v',rfl,hb3,hv',hat⟩:=vd_at HR.out.v hl3';rw [hj3] at hv';obtain rfl:=Option.some.inj hv';obtain ⟨xa,xl,xc,hvr,z0,z2,z3,z5,d0,d1,d2,d3,d4,d5,d6,d7⟩:=vd_cells hat;have HJ:=hidK hj3;have HDb:=hidK hbd;have hbv:=Nat.lt_of_lt_of_le hb3 HB.out.size;have v0:=(cell_below HB.out hb3).trans d0;clear hv' hat hvr z0 z2 z3 z5 d0 d1 d2 d3 d4 d5 d6 d7 hj3 hbd hb3
   by_cases hin : InL n.zs v.n
   ·have HIn:=hidK hin;clear hin;have Gk:=Bk;have Gp:=Bp;have Gn:=Bn;have HW:=HB;obtain ⟨k0,k1,k2,k3,k4,k5⟩:=sl6 Gk;have p3:=fun q : Wd wr => q.slot (o:=3) Gp.out rfl;have n6:=fun q : Wd wr => q.slot (o:=6) Gn.out rfl;have tw:=fun q : Wd wr => (q.cell hb).trans hc;have vw:=fun q : Wd wr => (q.cell hbv).trans v0;have hne0:=Wd.ne wr;have HC0:=hidK (fun q : Wd wr => sbind_hit ⟨(some ⟨b1,o1,none⟩),l1,y1,a2,l2,y2,(some ⟨b3,o3,none⟩),l3,y3,a4,l4,y4,a5,l5,y5⟩ c t q.w (HR.out.below (HW.out.trans (q.b.mono HW.out.size))) HX.out HV.out HNE.out HJ.out HDb.out);have HC1:=hidK (fun q : Wd wr => (shas_any na nl nc n.zs v.n q.w (HTn.out.below (HW.out.trans (q.b.mono HW.out.size)))).mono (fun _ _ h => BoolB.yes h HIn.out));go_wp2_with fail;refine wp_region_wide (by kernel_rfl) (by kernel_rfl) ?_
    repeat (go_big_quiet_step (first | (go_at_call 81;exact Calls.wide (HC0.out _)) | (go_at_call 80;exact Calls.wide (HC1.out _)) | fail))
    refine wpQuiet_nil ?_;rintro _ ⟨q2,rfl⟩;have HB1:=upB HW q2.b;have Ck:=upK Gk q2.b;have Cp:=upK Gp q2.b;have Cn:=upK Gn q2.b;clear hne0 HW HB HC0 HC1 k0 k1 k2 k3 k4 k5 p3 n6 tw vw Gk Gp Gn Bk Bp Bn pp hb hc hbv v0;have HB:=HB1;clear HB1;have Bk:=Ck;clear Ck;have Bp:=Cp;clear Cp;have Bn:=Cn;clear Cn;go_wp2_with fail;refine ⟨⟨k + 1,by omega,by go_num,fun j s hj hs => ?_,HBY.out.trans (q2.b.mono HBY.out.size)⟩,by simp [intOf];omega⟩
    by_cases e : j = k
    ·subst e;rw [HXt.out] at hs;obtain rfl:=Option.some.inj hs;exact ⟨v,HDb.out,HIn.out⟩
    ·exact HQ.out j s (by omega) hs
   ·have HIn:=hidK hin;clear hin;have Gk:=Bk;have Gp:=Bp;have Gn:=Bn;have HW:=HB;obtain ⟨k0,k1,k2,k3,k4,k5⟩:=sl6 Gk;have p3:=fun q : Wd wr => q.slot (o:=3) Gp.out rfl;have n6:=fun q : Wd wr => q.slot (o:=6) Gn.out rfl;have tw:=fun q : Wd wr => (q.cell hb).trans hc;have vw:=fun q : Wd wr => (q.cell hbv).trans v0;have hne0:=Wd.ne wr;have HC0:=hidK (fun q : Wd wr => sbind_hit ⟨(some ⟨b1,o1,none⟩),l1,y1,a2,l2,y2,(some ⟨b3,o3,none⟩),l3,y3,a4,l4,y4,a5,l5,y5⟩ c t q.w (HR.out.below (HW.out.trans (q.b.mono HW.out.size))) HX.out HV.out HNE.out HJ.out HDb.out);have HC1:=hidK (fun q : Wd wr => (shas_any na nl nc n.zs v.n q.w (HTn.out.below (HW.out.trans (q.b.mono HW.out.size)))).mono (fun _ _ h => BoolB.no h HIn.out));go_wp2_with fail;refine wp_region_wide (by kernel_rfl) (by kernel_rfl) ?_
    repeat (go_big_quiet_step (first | (go_at_call 81;exact Calls.wide (HC0.out _)) | (go_at_call 80;exact Calls.wide (HC1.out _)) | fail))
    refine wpQuiet_nil ?_;rintro _ ⟨q2,rfl⟩;have HB1:=upB HW q2.b;have Ck:=upK Gk q2.b;have Cp:=upK Gp q2.b;have Cn:=upK Gn q2.b;clear hne0 HW HB HC0 HC1 k0 k1 k2 k3 k4 k5 p3 n6 tw vw Gk Gp Gn Bk Bp Bn pp hb hc hbv v0;have HB:=HB1;clear HB1;have Bk:=Ck;clear Ck;have Bp:=Cp;clear Cp;have Bn:=Cn;clear Cn
    go_wp2
    go_ret;refine BoolB.f (fun h => ?_) HB.out;obtain ⟨v2,e1,e2⟩:=h k t HXt.out;obtain rfl:=IsBd.inj HX.out HV.out HDb.out e1;exact HIn.out e2
  ·obtain rfl : pl = k:=by omega
   go_wp2
   go_ret;exact BoolB.t (fun j t ht => HQ.out j t (by have:=(List.getElem?_eq_some_iff.1 ht).1;omega) ht) HB.out

theorem smounted_any (d : Ad) (c : Cl) (w : World) (hr : ClRow w d c.raw) (hn : RisBy Nd.n c.ns) (hx : RisBy Xd.n c.xs) (hv : RisBy Vd.n c.vs) (hne : ∀ (j : Nat) v,c.vs[j]? = some v → ¬ v.n = ⟨#[]⟩) (hrun : ∀ (j : Nat) p,c.ps[j]? = some p → p.p = 2 → (∃ (i : Nat) (n : Nd),c.ns[i]? = some n ∧ n.n = p.d) ∧ ∀ (j : Nat) t,p.zs[j]? = some t → ∃ v,IsBd c t v) :
  Calls Tryz.prog 104 #[.agg #[.slice d.a1 d.l1 d.c1,.slice d.a2 d.l2 d.c2,.slice d.a3 d.l3 d.c3,.slice d.a4 d.l4 d.c4,.slice d.a5 d.l5 d.c5,.int .i64 c.now]] w (BoolB (MountedI c) w):=by
 obtain ⟨a1,l1,y1,a2,l2,y2,a3,l3,y3,a4,l4,y4,a5,l5,y5⟩:=d;dsimp only;have HR:=hidK hr
 have hl1 : c.ns.length = l1:=by simpa using (show (c.ns.map ndF).length = l1 from hr.n.1)
 have hm1 : l1 ≤ 9223372036854775807:=Nat.le_trans hr.n.2.1 hr.n.2.2.1
 have hl3 : c.vs.length = l3:=by simpa using (show (c.vs.map vdF).length = l3 from hr.v.1)
 have hl5 : c.ps.length = l5:=by simpa using (show (c.ps.map pdF).length = l5 from hr.p.1)
 have hm5 : l5 ≤ 9223372036854775807:=Nat.le_trans hr.p.2.1 hr.p.2.2.1;clear hr;have HNR:=hidK hn;have HX:=hidK hx;have HV:=hidK hv;have HNE:=hidK hne;have HRun:=hidK hrun;clear hn hx hv hne hrun
 go_enter Tryz.func104,Tryz.ntmps104
 go_wp2
 go_loopw [3] (fun i wr => ∃ k : Nat,k ≤ l1 ∧ i = .int .i64 k ∧ Hid (∀ (j : Nat) z,j < k → c.ns[j]? = some z → MntI c z) ∧ Hid (Below w.heap.size w wr) ∧ Hid (wr.heap[w.heap.size]? = some (.cells #[.slice a1 l1 y1,.slice a2 l2 y2,.slice a3 l3 y3,.slice a4 l4 y4,.slice a5 l5 y5,.int .i64 c.now] 36 (0,0)))) (fun i _ => l1 - (intOf i).toNat)
 case atStart => exact ⟨0,by omega,rfl,fun _ _ h => absurd h (by omega),below1 _ _,Array.getElem?_push_size⟩
 case round =>
  obtain ⟨k,hk,rfl,HQ,HB,Bk⟩:=hrel;have pk:=ck0 Bk.out
  by_cases hlt : k < l1
  ·obtain ⟨b,o,n,rfl,hb,hx,hat⟩:=nd_at (HR.out.n.below HB.out) hlt;obtain ⟨va,vl,vc,hvr,z0,z1,c0,c1,c2,c3,c4,c5,c6⟩:=nd_cells hat;have HXn:=hidK hx;have HTn:=hidK hvr;clear hat hx z0 z1 hvr;have hvl:=HTn.out.1;have hvc:=Nat.le_trans HTn.out.2.1 HTn.out.2.2.1;have HVL:=hidK hvl;clear hvl;have KV : Hid ((wr.alloc (.cells #[.string n.n,.string n.z,.int .i64 n.c,.int .i64 n.s,.int .i64 n.u,.bool n.d,.slice va vl vc] 56)).heap[w.heap.size]? = some (.cells #[.slice (some ⟨b,o,none⟩) l1 y1,.slice a2 l2 y2,.slice a3 l3 y3,.slice a4 l4 y4,.slice a5 l5 y5,.int .i64 c.now] 36 (0,0))):=(Below.heap_alloc wr (.cells #[.string n.n,.string n.z,.int .i64 n.c,.int .i64 n.s,.int .i64 n.u,.bool n.d,.slice va vl vc] 56) _ (lt_of_some Bk.out)).trans Bk.out;have GV : Hid ((wr.alloc (.cells #[.string n.n,.string n.z,.int .i64 n.c,.int .i64 n.s,.int .i64 n.u,.bool n.d,.slice va vl vc] 56)).heap[wr.heap.size]? = some (.cells #[.string n.n,.string n.z,.int .i64 n.c,.int .i64 n.s,.int .i64 n.u,.bool n.d,.slice va vl vc] 56 (0,0))):=Array.getElem?_push_size;have BV:=hidK (HB.out.trans ((below1 wr (.cells #[.string n.n,.string n.z,.int .i64 n.c,.int .i64 n.s,.int .i64 n.u,.bool n.d,.slice va vl vc] 56)).mono HB.out.size));have TT:=hidK (HTn.out.below (below1 wr (.cells #[.string n.n,.string n.z,.int .i64 n.c,.int .i64 n.s,.int .i64 n.u,.bool n.d,.slice va vl vc] 56)));obtain ⟨W,hW⟩ : ∃ W,W = wr.alloc (.cells #[.string n.n,.string n.z,.int .i64 n.c,.int .i64 n.s,.int .i64 n.u,.bool n.d,.slice va vl vc] 56):=⟨_,rfl⟩;obtain ⟨gb,hgb⟩ : ∃ gb,gb = wr.heap.size:=⟨_,rfl⟩;rw [← hW] at KV GV BV TT;rw [← hgb] at GV
   go_wp2
   rw [← hW,← hgb];clear hW hgb HB Bk HTn c0 c1 c2 c3 c4 c5 c6 hb pk
   go_loopw [5] (fun i wr => ∃ kq : Nat,kq ≤ vl ∧ i = .int .i64 kq ∧ Hid (∀ (j : Nat) t,j < kq → n.zs[j]? = some t → ∃ (i : Nat) (v : Vd),c.vs[i]? = some v ∧ v.n = t ∧ (n.d = true ∨ InL v.zs n.n)) ∧ Hid (Below W.heap.size W wr)) (fun i _ => vl - (intOf i).toNat)
   case atStart => exact ⟨0,by omega,rfl,fun _ _ h => absurd h (by omega),Below.refl _ _⟩
   case round =>
    obtain ⟨kq,hkq,rfl,HQ2,HBW⟩:=hrel;have HB:=hidK (BV.out.trans (HBW.out.mono BV.out.size));have Bk:=upK KV HBW.out;have Bv:=upK GV HBW.out;have pv:=ck6 Bv.out
    by_cases hlt2 : kq < vl
    ·obtain ⟨b2,o2,t,rfl,hb,hx,hc,hsz⟩:=(TT.out.below HBW.out).at hlt2;have HXt:=hidK hx;clear hx hsz
     by_cases hnn : ∃ (i : Nat) (v : Vd),c.vs[i]? = some v ∧ v.n = t
     rotate_left
     ·have HH:=hidK hnn;clear hnn;have Gk:=Bk;have Gv:=Bv;have HW:=HB;have k0:=fun q : Wd wr => q.slot (o:=0) Gk.out rfl;have k1:=fun q : Wd wr => q.slot (o:=1) Gk.out rfl;have k2:=fun q : Wd wr => q.slot (o:=2) Gk.out rfl;have k3:=fun q : Wd wr => q.slot (o:=3) Gk.out rfl;have k4:=fun q : Wd wr => q.slot (o:=4) Gk.out rfl;have k5:=fun q : Wd wr => q.slot (o:=5) Gk.out rfl;have v6:=fun q : Wd wr => q.slot (o:=6) Gv.out rfl;have tw:=fun q : Wd wr => (q.cell hb).trans hc;have hne0:=Wd.ne wr;have HC0:=hidK (fun q : Wd wr => sxvd_miss ⟨(some ⟨b,o,none⟩),l1,y1,a2,l2,y2,a3,l3,y3,a4,l4,y4,a5,l5,y5⟩ c.now c.vs t q.w (HR.out.v.below (HW.out.trans (q.b.mono HW.out.size))) (fun i v h1 h2 => HH.out ⟨i,v,h1,h2⟩));go_wp2_with fail;refine wp_region_wide (by kernel_rfl) (by kernel_rfl) ?_
      repeat (go_big_quiet_step (first | (go_at_call 106;exact Calls.wide (HC0.out _)) | fail))
      refine wpQuiet_nil ?_;rintro _ ⟨q1,rfl⟩;have HB1:=upB HW q1.b;have Ck:=upK Gk q1.b;have Cv:=upK Gv q1.b;clear hne0 HW HB HC0 k0 k1 k2 k3 k4 k5 v6 tw Gk Gv Bk Bv pv;have HB:=HB1;clear HB1;have Bk:=Ck;clear Ck;have Bv:=Cv;clear Cv;have Gk:=Bk;have Gv:=Bv;have HW:=HB;have k2:=fun q : Wd q1.w => q.slot (o:=2) Gk.out rfl;have v0:=fun q : Wd q1.w => q.slot (o:=0) Gv.out rfl;have v2:=fun q : Wd q1.w => q.slot (o:=2) Gv.out rfl;have v5:=fun q : Wd q1.w => q.slot (o:=5) Gv.out rfl;have v6:=fun q : Wd q1.w => q.slot (o:=6) Gv.out rfl;have hne0:=Wd.ne q1.w;go_wp2_with fail;refine wp_region_wide (by kernel_rfl) (by kernel_rfl) ?_
      repeat (go_big_quiet_step (first | fail))
      refine wpQuiet_nil ?_;rintro _ ⟨q2,rfl⟩;have HB2:=upB HW q2.b;have Ck:=upK Gk q2.b;have Cv:=upK Gv q2.b;clear hne0 HW HB k2 v0 v2 v5 v6 Gk Gv Bk Bv;have HB:=HB2;clear HB2;have Bk:=Ck;clear Ck;have Bv:=Cv;clear Cv
      go_wp2
      go_ret;refine BoolB.f (fun h => ?_) HB.out;obtain ⟨i,v,h2,h3,_⟩:=(h.1 k n HXn.out) kq t HXt.out;exact HH.out ⟨i,v,h2,h3⟩
     obtain ⟨j3,v,h1,h2⟩:=hnn
     have hl3' : j3 < l3:=by have h3:=(List.getElem?_eq_some_iff.1 h1).1;omega
     obtain ⟨b3,o3,v',rfl,hb3,hv',hat⟩:=vd_at HR.out.v hl3';rw [h1] at hv';obtain rfl:=Option.some.inj hv';obtain ⟨xa,xl,xc,hvr,z0,z2,z3,z5,d0,d1,d2,d3,d4,d5,d6,d7⟩:=vd_cells hat;have HJ:=hidK h1;have HNv:=hidK h2;have HTx:=hidK hvr;have HC7:=hidK d7;have HB3:=hidK hb3
     have hj31 : decide ((j3 : Int) < 0) = false:=by simp
     clear hv' hat hvr z0 z2 z3 z5 d0 d1 d2 d3 d4 d5 d6 d7 h1 h2 hb3;have Gk:=Bk;have Gv:=Bv;have HW:=HB;obtain ⟨k0,k1,k2,k3,k4,k5⟩:=sl6 Gk;have v6:=fun q : Wd wr => q.slot (o:=6) Gv.out rfl;have tw:=fun q : Wd wr => (q.cell hb).trans hc;have hne0:=Wd.ne wr;have HC0:=hidK (fun q : Wd wr => sxvd_hit ⟨(some ⟨b,o,none⟩),l1,y1,a2,l2,y2,(some ⟨b3,o3,none⟩),l3,y3,a4,l4,y4,a5,l5,y5⟩ c.now c.vs t q.w (HR.out.v.below (HW.out.trans (q.b.mono HW.out.size))) HV.out HJ.out HNv.out);go_wp2_with fail;refine wp_region_wide (by kernel_rfl) (by kernel_rfl) ?_
     repeat (go_big_quiet_step (first | (go_at_call 106;exact Calls.wide (HC0.out _)) | fail))
     refine wpQuiet_nil ?_;rintro _ ⟨q1,rfl⟩;have HB1:=upB HW q1.b;have Ck:=upK Gk q1.b;have Cv:=upK Gv q1.b;clear hne0 HW HB HC0 k0 k1 k2 k3 k4 k5 v6 tw Gk Gv Bk Bv pv hb hc;have HB:=HB1;clear HB1;have Bk:=Ck;clear Ck;have Bv:=Cv;clear Cv;have HBW1:=upB HBW q1.b;have hbv:=Nat.lt_of_lt_of_le HB3.out HB.out.size;have v7:=(cell_below HB.out HB3.out).trans HC7.out;clear HBW
     rcases Bool.eq_false_or_eq_true n.d with hd | hd
     ·have HDd:=hidK hd;clear hd
      have Bv2 : Hid (q1.w.heap[gb]? = some (.cells #[.string n.n,.string n.z,.int .i64 n.c,.int .i64 n.s,.int .i64 n.u,.bool true,.slice (some ⟨b2,o2,none⟩) vl vc] 56 (0,0))):=by have:=Bv.out;rw [HDd.out] at this;exact this
      clear Bv;have Bv:=Bv2;clear Bv2;have Gk:=Bk;have Gv:=Bv;have HW:=HB;have k2:=fun q : Wd q1.w => q.slot (o:=2) Gk.out rfl;have v0:=fun q : Wd q1.w => q.slot (o:=0) Gv.out rfl;have v2:=fun q : Wd q1.w => q.slot (o:=2) Gv.out rfl;have v5:=fun q : Wd q1.w => q.slot (o:=5) Gv.out rfl;have v6:=fun q : Wd q1.w => q.slot (o:=6) Gv.out rfl;have vw:=fun q : Wd q1.w => (q.cell hbv).trans v7;have hne0:=Wd.ne q1.w;go_wp2_with fail;refine wp_region_wide (by kernel_rfl) (by kernel_rfl) ?_
      repeat (go_big_quiet_step (first | fail))
      refine wpQuiet_nil ?_;rintro _ ⟨q2,rfl⟩;have HB2:=upB HW q2.b;have Ck:=upK Gk q2.b;have Cv:=upK Gv q2.b;clear hne0 HW HB k2 v0 v2 v5 v6 vw Gk Gv Bk Bv hbv v7;have HB:=HB2;clear HB2;have Bk:=Ck;clear Ck;have Bv:=Cv;clear Cv;go_wp2_with fail;refine ⟨⟨kq + 1,by omega,by go_num,fun j s hj hs => ?_,HBW1.out.trans (q2.b.mono HBW1.out.size)⟩,by simp [intOf];omega⟩
      by_cases e : j = kq
      ·subst e;rw [HXt.out] at hs;obtain rfl:=Option.some.inj hs;exact ⟨j3,v,HJ.out,HNv.out,.inl HDd.out⟩
      ·exact HQ2.out j s (by omega) hs
     ·have HDd:=hidK hd;clear hd
      have Bv2 : Hid (q1.w.heap[gb]? = some (.cells #[.string n.n,.string n.z,.int .i64 n.c,.int .i64 n.s,.int .i64 n.u,.bool false,.slice (some ⟨b2,o2,none⟩) vl vc] 56 (0,0))):=by have:=Bv.out;rw [HDd.out] at this;exact this
      clear Bv;have Bv:=Bv2;clear Bv2
      by_cases hin : InL v.zs n.n
      ·have HIn:=hidK hin;clear hin;have Gk:=Bk;have Gv:=Bv;have HW:=HB;have k2:=fun q : Wd q1.w => q.slot (o:=2) Gk.out rfl;have v0:=fun q : Wd q1.w => q.slot (o:=0) Gv.out rfl;have v2:=fun q : Wd q1.w => q.slot (o:=2) Gv.out rfl;have v5:=fun q : Wd q1.w => q.slot (o:=5) Gv.out rfl;have v6:=fun q : Wd q1.w => q.slot (o:=6) Gv.out rfl;have vw:=fun q : Wd q1.w => (q.cell hbv).trans v7;have hne0:=Wd.ne q1.w;have HC0:=hidK (fun q : Wd q1.w => (shas_any xa xl xc v.zs n.n q.w (HTx.out.below (HW.out.trans (q.b.mono HW.out.size)))).mono (fun _ _ h => BoolB.yes h HIn.out));go_wp2_with fail;refine wp_region_wide (by kernel_rfl) (by kernel_rfl) ?_
       repeat (go_big_quiet_step (first | (go_at_call 80;exact Calls.wide (HC0.out _)) | fail))
       refine wpQuiet_nil ?_;rintro _ ⟨q2,rfl⟩;have HB2:=upB HW q2.b;have Ck:=upK Gk q2.b;have Cv:=upK Gv q2.b;clear hne0 HW HB HC0 k2 v0 v2 v5 v6 vw Gk Gv Bk Bv hbv v7;have HB:=HB2;clear HB2;have Bk:=Ck;clear Ck;have Bv:=Cv;clear Cv;go_wp2_with fail;refine ⟨⟨kq + 1,by omega,by go_num,fun j s hj hs => ?_,HBW1.out.trans (q2.b.mono HBW1.out.size)⟩,by simp [intOf];omega⟩
       by_cases e : j = kq
       ·subst e;rw [HXt.out] at hs;obtain rfl:=Option.some.inj hs;exact ⟨j3,v,HJ.out,HNv.out,.inr HIn.out⟩
       ·exact HQ2.out j s (by omega) hs
      ·have HIn:=hidK hin;clear hin;have Gk:=Bk;have Gv:=Bv;have HW:=HB;have k2:=fun q : Wd q1.w => q.slot (o:=2) Gk.out rfl;have v0:=fun q : Wd q1.w => q.slot (o:=0) Gv.out rfl;have v2:=fun q : Wd q1.w => q.slot (o:=2) Gv.out rfl;have v5:=fun q : Wd q1.w => q.slot (o:=5) Gv.out rfl;have v6:=fun q : Wd q1.w => q.slot (o:=6) Gv.out rfl;have vw:=fun q : Wd q1.w => (q.cell hbv).trans v7;have hne0:=Wd.ne q1.w;have HC0:=hidK (fun q : Wd q1.w => (shas_any xa xl xc v.zs n.n q.w (HTx.out.below (HW.out.trans (q.b.mono HW.out.size)))).mono (fun _ _ h => BoolB.no h HIn.out));go_wp2_with fail;refine wp_region_wide (by kernel_rfl) (by kernel_rfl) ?_
       repeat (go_big_quiet_step (first | (go_at_call 80;exact Calls.wide (HC0.out _)) | fail))
       refine wpQuiet_nil ?_;rintro _ ⟨q2,rfl⟩;have HB2:=upB HW q2.b;have Ck:=upK Gk q2.b;have Cv:=upK Gv q2.b;clear hne0 HW HB HC0 k2 v0 v2 v5 v6 vw Gk Gv Bk Bv hbv v7;have HB:=HB2;clear HB2;have Bk:=Ck;clear Ck;have Bv:=Cv;clear Cv
       go_wp2
       go_ret;refine BoolB.f (fun h => ?_) HB.out;obtain ⟨i,v2,e1,e2,e3⟩:=(h.1 k n HXn.out) kq t HXt.out;obtain ⟨_,rfl⟩:=HV.out.inj e1 HJ.out (e2.trans HNv.out.symm)
       rcases e3 with e3 | e3
       ·rw [HDd.out] at e3;cases e3
       ·exact HIn.out e3
    ·obtain rfl : vl = kq:=by omega
     go_wp2_with fail;refine ⟨⟨k + 1,by omega,by go_num,fun j z hj hz => ?_,HB.out,Bk.out⟩,by simp [intOf];omega⟩
     by_cases e : j = k
     ·subst e;rw [HXn.out] at hz;obtain rfl:=Option.some.inj hz;exact fun j s hs => HQ2.out j s (by have h1:=(List.getElem?_eq_some_iff.1 hs).1;have h2:=HVL.out;omega) hs
     ·exact HQ.out j z (by omega) hz
  ·obtain rfl : l1 = k:=by omega
   have HQ1 : Hid (∀ (j : Nat) z,c.ns[j]? = some z → MntI c z):=fun j z hz => HQ.out j z (by have:=(List.getElem?_eq_some_iff.1 hz).1;omega) hz;clear HQ
   go_wp2
   clear pk
   go_loopw [7] (fun i wr => ∃ k : Nat,k ≤ l5 ∧ i = .int .i64 k ∧ Hid (∀ (j : Nat) z,j < k → c.ps[j]? = some z → MQ2 c z) ∧ Hid (Below w.heap.size w wr) ∧ Hid (wr.heap[w.heap.size]? = some (.cells #[.slice a1 l1 y1,.slice a2 l2 y2,.slice a3 l3 y3,.slice a4 l4 y4,.slice a5 l5 y5,.int .i64 c.now] 36 (0,0)))) (fun i _ => l5 - (intOf i).toNat)
   case atStart => exact ⟨0,by omega,rfl,fun _ _ h => absurd h (by omega),HB.out,Bk.out⟩
   case round =>
    obtain ⟨k,hk,rfl,HQ,HB,Bk⟩:=hrel;have pk:=ck4 Bk.out
    by_cases hlt : k < l5
    ·obtain ⟨b,o,p,rfl,hb,hx,hat⟩:=pd_at (HR.out.p.below HB.out) hlt;obtain ⟨va,vl,vc,hvr,z0,z2,z4,c0,c1,c2,c3,c4,c5⟩:=pd_cells hat;have HXp:=hidK hx;have HTp:=hidK hvr;clear hat hx z0 z2 z4 hvr
     by_cases hp2 : p.p = 2
     rotate_left
     ·have HP2:=hidK hp2
      have hp3 : (p.p == 2) = false:=by simpa using hp2
      have Gk : Hid ((wr.alloc (.cells #[.string p.n,.int .i64 p.c,.string p.z,.slice va vl vc,.string p.d,.int .i64 p.p] 103)).heap[w.heap.size]? = some (.cells #[.slice a1 l1 y1,.slice a2 l2 y2,.slice a3 l3 y3,.slice a4 l4 y4,.slice (some ⟨b,o,none⟩) l5 y5,.int .i64 c.now] 36 (0,0))):=(Below.heap_alloc _ _ _ (lt_of_some Bk.out)).trans (Bk.out);have Gr : Hid ((wr.alloc (.cells #[.string p.n,.int .i64 p.c,.string p.z,.slice va vl vc,.string p.d,.int .i64 p.p] 103)).heap[wr.heap.size]? = some (.cells #[.string p.n,.int .i64 p.c,.string p.z,.slice va vl vc,.string p.d,.int .i64 p.p] 103 (0,0))):=Array.getElem?_push_size;have HW : Hid (Below w.heap.size w (wr.alloc (.cells #[.string p.n,.int .i64 p.c,.string p.z,.slice va vl vc,.string p.d,.int .i64 p.p] 103))):=(HB.out.trans ((below1 _ _).mono HB.out.size));obtain ⟨k0,k1,k2,k3,k4,k5⟩:=sl6 Gk;obtain ⟨r0,r1,r2,r3,r4,r5⟩:=sl6 Gr;have hne0:=Wd.ne (wr.alloc (.cells #[.string p.n,.int .i64 p.c,.string p.z,.slice va vl vc,.string p.d,.int .i64 p.p] 103));go_wp2_with fail;refine wp_region_wide (by kernel_rfl) (by kernel_rfl) ?_
      repeat (go_big_quiet_step (first | fail))
      refine wpQuiet_nil ?_;rintro _ ⟨q1,rfl⟩;have HB1:=upB HW q1.b;have Ck:=upK Gk q1.b;have Cr:=upK Gr q1.b;clear hne0 HW HB k0 k1 k2 k3 k4 k5 r0 r1 r2 r3 r4 r5 Gk Gr Bk pk hb c0 c1 c2 c3 c4 c5;have HB:=HB1;clear HB1;have Bk:=Ck;clear Ck;clear Cr;clear hp2 hp3;go_wp2_with fail;refine ⟨⟨k + 1,by omega,by go_num,fun j z hj hz => ?_,HB.out,Bk.out⟩,by simp [intOf];omega⟩
      by_cases e : j = k
      ·subst e;rw [HXp.out] at hz;obtain rfl:=Option.some.inj hz;exact fun h => absurd h HP2.out
      ·exact HQ.out j z (by omega) hz
     have HP2:=hidK hp2;obtain ⟨⟨j1,n,h1,h2⟩,hbd⟩:=HRun.out k p HXp.out hp2;rw [hp2] at c5;clear hp2;have HBD:=hidK hbd
     have hl1' : j1 < l1:=by have h3:=(List.getElem?_eq_some_iff.1 h1).1;omega
     obtain ⟨b1,o1,n',rfl,hb1n,hn',hat⟩:=nd_at HR.out.n hl1';rw [h1] at hn';obtain rfl:=Option.some.inj hn';obtain ⟨na,nl,nc,hnr,z0,z1,d0,d1,d2,d3,d4,d5,d6⟩:=nd_cells hat;have HJn:=hidK h1;have HNn:=hidK h2;have e5:=(cell_below HB.out hb1n).trans d5;have hbn:=Nat.lt_of_lt_of_le hb1n HB.out.size;clear hn' hat hnr z0 z1 d0 d1 d2 d3 d4 d5 d6 h1 h2 hb1n hbd
     rcases Bool.eq_false_or_eq_true n.d with hd | hd
     ·have HDd:=hidK hd;rw [hd] at e5;clear hd
      have hbnv : b1 < (wr.alloc (.cells #[.string p.n,.int .i64 p.c,.string p.z,.slice va vl vc,.string p.d,.int .i64 2] 103)).heap.size:=by simp;omega
      have e5v:=(cell_below (below1 wr (.cells #[.string p.n,.int .i64 p.c,.string p.z,.slice va vl vc,.string p.d,.int .i64 2] 103)) hbn).trans e5;have Gk : Hid ((wr.alloc (.cells #[.string p.n,.int .i64 p.c,.string p.z,.slice va vl vc,.string p.d,.int .i64 2] 103)).heap[w.heap.size]? = some (.cells #[.slice (some ⟨b1,o1,none⟩) l1 y1,.slice a2 l2 y2,.slice a3 l3 y3,.slice a4 l4 y4,.slice (some ⟨b,o,none⟩) l5 y5,.int .i64 c.now] 36 (0,0))):=(Below.heap_alloc _ _ _ (lt_of_some Bk.out)).trans (Bk.out);have Gr : Hid ((wr.alloc (.cells #[.string p.n,.int .i64 p.c,.string p.z,.slice va vl vc,.string p.d,.int .i64 2] 103)).heap[wr.heap.size]? = some (.cells #[.string p.n,.int .i64 p.c,.string p.z,.slice va vl vc,.string p.d,.int .i64 2] 103 (0,0))):=Array.getElem?_push_size;have HW : Hid (Below w.heap.size w (wr.alloc (.cells #[.string p.n,.int .i64 p.c,.string p.z,.slice va vl vc,.string p.d,.int .i64 2] 103))):=(HB.out.trans ((below1 _ _).mono HB.out.size));obtain ⟨k0,k1,k2,k3,k4,k5⟩:=sl6 Gk;obtain ⟨r0,r1,r2,r3,r4,r5⟩:=sl6 Gr;have nw:=fun q : Wd (wr.alloc (.cells #[.string p.n,.int .i64 p.c,.string p.z,.slice va vl vc,.string p.d,.int .i64 2] 103)) => (q.cell hbnv).trans e5v;have hne0:=Wd.ne (wr.alloc (.cells #[.string p.n,.int .i64 p.c,.string p.z,.slice va vl vc,.string p.d,.int .i64 2] 103));have HC0:=hidK (fun q : Wd (wr.alloc (.cells #[.string p.n,.int .i64 p.c,.string p.z,.slice va vl vc,.string p.d,.int .i64 2] 103)) => sxnd_hit ⟨(some ⟨b1,o1,none⟩),l1,y1,a2,l2,y2,a3,l3,y3,a4,l4,y4,(some ⟨b,o,none⟩),l5,y5⟩ c.now c.ns p.d q.w (HR.out.n.below (HW.out.trans (q.b.mono HW.out.size))) HNR.out HJn.out HNn.out);go_wp2_with fail;refine wp_region_wide (by kernel_rfl) (by kernel_rfl) ?_
      repeat (go_big_quiet_step (first | (go_at_call 51;exact Calls.wide (HC0.out _)) | fail))
      refine wpQuiet_nil ?_;rintro _ ⟨q1,rfl⟩;have HB1:=upB HW q1.b;have Ck:=upK Gk q1.b;have Cr:=upK Gr q1.b;clear hne0 HW HB HC0 k0 k1 k2 k3 k4 k5 r0 r1 r2 r3 r4 r5 nw Gk Gr Bk pk hb hbn e5 hbnv e5v c0 c1 c2 c3 c4 c5;have HB:=HB1;clear HB1;have Bk:=Ck;clear Ck;clear Cr
      go_wp2
      go_ret;refine BoolB.f (fun h => ?_) HB.out;obtain ⟨i,m,e1,e2,e3,_⟩:=(h.2 k p HXp.out) HP2.out;obtain ⟨_,rfl⟩:=HNR.out.inj e1 HJn.out (e2.trans HNn.out.symm);rw [HDd.out] at e3
      cases e3
     ·by_cases hal : AllS c p n
      ·have HAl:=hidK hal;clear hal;have HDd:=hidK hd;rw [hd] at e5;clear hd
       have hbnv : b1 < (wr.alloc (.cells #[.string p.n,.int .i64 p.c,.string p.z,.slice va vl vc,.string p.d,.int .i64 2] 103)).heap.size:=by simp;omega
       have e5v:=(cell_below (below1 wr (.cells #[.string p.n,.int .i64 p.c,.string p.z,.slice va vl vc,.string p.d,.int .i64 2] 103)) hbn).trans e5
       have HCA : Hid (∀ q : Wd (wr.alloc (.cells #[.string p.n,.int .i64 p.c,.string p.z,.slice va vl vc,.string p.d,.int .i64 2] 103)),Calls Tryz.prog 53 #[.agg #[.slice (some ⟨b1,o1,none⟩) l1 y1,.slice a2 l2 y2,.slice a3 l3 y3,.slice a4 l4 y4,.slice (some ⟨b,o,none⟩) l5 y5,.int .i64 c.now],.agg #[.string p.n,.int .i64 p.c,.string p.z,.slice va vl vc,.string p.d,.int .i64 2]] q.w fun e w' => e = .returned (.bool true) ∧ Below q.w.heap.size q.w w'):=by
        intro q;have h0:=(sall_any ⟨(some ⟨b1,o1,none⟩),l1,y1,a2,l2,y2,a3,l3,y3,a4,l4,y4,(some ⟨b,o,none⟩),l5,y5⟩ c p va vl vc j1 n q.w (HR.out.below (HB.out.trans (((below1 wr _).trans (q.b.mono (by simp))).mono HB.out.size))) HNR.out HX.out HV.out HNE.out (HTp.out.below ((below1 wr _).trans (q.b.mono (by simp)))) HJn.out HNn.out HBD.out).mono (fun _ _ h => BoolB.yes h HAl.out);rw [HP2.out] at h0;exact h0
       have Gk : Hid ((wr.alloc (.cells #[.string p.n,.int .i64 p.c,.string p.z,.slice va vl vc,.string p.d,.int .i64 2] 103)).heap[w.heap.size]? = some (.cells #[.slice (some ⟨b1,o1,none⟩) l1 y1,.slice a2 l2 y2,.slice a3 l3 y3,.slice a4 l4 y4,.slice (some ⟨b,o,none⟩) l5 y5,.int .i64 c.now] 36 (0,0))):=(Below.heap_alloc _ _ _ (lt_of_some Bk.out)).trans (Bk.out);have Gr : Hid ((wr.alloc (.cells #[.string p.n,.int .i64 p.c,.string p.z,.slice va vl vc,.string p.d,.int .i64 2] 103)).heap[wr.heap.size]? = some (.cells #[.string p.n,.int .i64 p.c,.string p.z,.slice va vl vc,.string p.d,.int .i64 2] 103 (0,0))):=Array.getElem?_push_size;have HW : Hid (Below w.heap.size w (wr.alloc (.cells #[.string p.n,.int .i64 p.c,.string p.z,.slice va vl vc,.string p.d,.int .i64 2] 103))):=(HB.out.trans ((below1 _ _).mono HB.out.size));obtain ⟨k0,k1,k2,k3,k4,k5⟩:=sl6 Gk;obtain ⟨r0,r1,r2,r3,r4,r5⟩:=sl6 Gr;have nw:=fun q : Wd (wr.alloc (.cells #[.string p.n,.int .i64 p.c,.string p.z,.slice va vl vc,.string p.d,.int .i64 2] 103)) => (q.cell hbnv).trans e5v;have hne0:=Wd.ne (wr.alloc (.cells #[.string p.n,.int .i64 p.c,.string p.z,.slice va vl vc,.string p.d,.int .i64 2] 103));have HC0:=hidK (fun q : Wd (wr.alloc (.cells #[.string p.n,.int .i64 p.c,.string p.z,.slice va vl vc,.string p.d,.int .i64 2] 103)) => sxnd_hit ⟨(some ⟨b1,o1,none⟩),l1,y1,a2,l2,y2,a3,l3,y3,a4,l4,y4,(some ⟨b,o,none⟩),l5,y5⟩ c.now c.ns p.d q.w (HR.out.n.below (HW.out.trans (q.b.mono HW.out.size))) HNR.out HJn.out HNn.out);have HC1:=hidK (fun q : Wd (wr.alloc (.cells #[.string p.n,.int .i64 p.c,.string p.z,.slice va vl vc,.string p.d,.int .i64 2] 103)) => HCA.out q);go_wp2_with fail;refine wp_region_wide (by kernel_rfl) (by kernel_rfl) ?_
       repeat (go_big_quiet_step (first | (go_at_call 51;exact Calls.wide (HC0.out _)) | (go_at_call 53;exact Calls.wide (HC1.out _)) | fail))
       refine wpQuiet_nil ?_;rintro _ ⟨q1,rfl⟩;have HB1:=upB HW q1.b;have Ck:=upK Gk q1.b;have Cr:=upK Gr q1.b;clear hne0 HW HB HC0 HC1 k0 k1 k2 k3 k4 k5 r0 r1 r2 r3 r4 r5 nw Gk Gr Bk pk hb hbn e5 hbnv e5v c0 c1 c2 c3 c4 c5;have HB:=HB1;clear HB1;have Bk:=Ck;clear Ck;clear Cr;go_wp2_with fail;refine ⟨⟨k + 1,by omega,by go_num,fun j z hj hz => ?_,HB.out,Bk.out⟩,by simp [intOf];omega⟩
       by_cases e : j = k
       ·subst e;rw [HXp.out] at hz;obtain rfl:=Option.some.inj hz;exact fun _ => ⟨j1,n,HJn.out,HNn.out,HDd.out,HAl.out⟩
       ·exact HQ.out j z (by omega) hz
      ·have HAl:=hidK hal;clear hal;have HDd:=hidK hd;rw [hd] at e5;clear hd
       have hbnv : b1 < (wr.alloc (.cells #[.string p.n,.int .i64 p.c,.string p.z,.slice va vl vc,.string p.d,.int .i64 2] 103)).heap.size:=by simp;omega
       have e5v:=(cell_below (below1 wr (.cells #[.string p.n,.int .i64 p.c,.string p.z,.slice va vl vc,.string p.d,.int .i64 2] 103)) hbn).trans e5
       have HCA : Hid (∀ q : Wd (wr.alloc (.cells #[.string p.n,.int .i64 p.c,.string p.z,.slice va vl vc,.string p.d,.int .i64 2] 103)),Calls Tryz.prog 53 #[.agg #[.slice (some ⟨b1,o1,none⟩) l1 y1,.slice a2 l2 y2,.slice a3 l3 y3,.slice a4 l4 y4,.slice (some ⟨b,o,none⟩) l5 y5,.int .i64 c.now],.agg #[.string p.n,.int .i64 p.c,.string p.z,.slice va vl vc,.string p.d,.int .i64 2]] q.w fun e w' => e = .returned (.bool false) ∧ Below q.w.heap.size q.w w'):=by
        intro q;have h0:=(sall_any ⟨(some ⟨b1,o1,none⟩),l1,y1,a2,l2,y2,a3,l3,y3,a4,l4,y4,(some ⟨b,o,none⟩),l5,y5⟩ c p va vl vc j1 n q.w (HR.out.below (HB.out.trans (((below1 wr _).trans (q.b.mono (by simp))).mono HB.out.size))) HNR.out HX.out HV.out HNE.out (HTp.out.below ((below1 wr _).trans (q.b.mono (by simp)))) HJn.out HNn.out HBD.out).mono (fun _ _ h => BoolB.no h HAl.out);rw [HP2.out] at h0;exact h0
       have Gk : Hid ((wr.alloc (.cells #[.string p.n,.int .i64 p.c,.string p.z,.slice va vl vc,.string p.d,.int .i64 2] 103)).heap[w.heap.size]? = some (.cells #[.slice (some ⟨b1,o1,none⟩) l1 y1,.slice a2 l2 y2,.slice a3 l3 y3,.slice a4 l4 y4,.slice (some ⟨b,o,none⟩) l5 y5,.int .i64 c.now] 36 (0,0))):=(Below.heap_alloc _ _ _ (lt_of_some Bk.out)).trans (Bk.out);have Gr : Hid ((wr.alloc (.cells #[.string p.n,.int .i64 p.c,.string p.z,.slice va vl vc,.string p.d,.int .i64 2] 103)).heap[wr.heap.size]? = some (.cells #[.string p.n,.int .i64 p.c,.string p.z,.slice va vl vc,.string p.d,.int .i64 2] 103 (0,0))):=Array.getElem?_push_size;have HW : Hid (Below w.heap.size w (wr.alloc (.cells #[.string p.n,.int .i64 p.c,.string p.z,.slice va vl vc,.string p.d,.int .i64 2] 103))):=(HB.out.trans ((below1 _ _).mono HB.out.size));obtain ⟨k0,k1,k2,k3,k4,k5⟩:=sl6 Gk;obtain ⟨r0,r1,r2,r3,r4,r5⟩:=sl6 Gr;have nw:=fun q : Wd (wr.alloc (.cells #[.string p.n,.int .i64 p.c,.string p.z,.slice va vl vc,.string p.d,.int .i64 2] 103)) => (q.cell hbnv).trans e5v;have hne0:=Wd.ne (wr.alloc (.cells #[.string p.n,.int .i64 p.c,.string p.z,.slice va vl vc,.string p.d,.int .i64 2] 103));have HC0:=hidK (fun q : Wd (wr.alloc (.cells #[.string p.n,.int .i64 p.c,.string p.z,.slice va vl vc,.string p.d,.int .i64 2] 103)) => sxnd_hit ⟨(some ⟨b1,o1,none⟩),l1,y1,a2,l2,y2,a3,l3,y3,a4,l4,y4,(some ⟨b,o,none⟩),l5,y5⟩ c.now c.ns p.d q.w (HR.out.n.below (HW.out.trans (q.b.mono HW.out.size))) HNR.out HJn.out HNn.out);have HC1:=hidK (fun q : Wd (wr.alloc (.cells #[.string p.n,.int .i64 p.c,.string p.z,.slice va vl vc,.string p.d,.int .i64 2] 103)) => HCA.out q);go_wp2_with fail;refine wp_region_wide (by kernel_rfl) (by kernel_rfl) ?_
       repeat (go_big_quiet_step (first | (go_at_call 51;exact Calls.wide (HC0.out _)) | (go_at_call 53;exact Calls.wide (HC1.out _)) | fail))
       refine wpQuiet_nil ?_;rintro _ ⟨q1,rfl⟩;have HB1:=upB HW q1.b;have Ck:=upK Gk q1.b;have Cr:=upK Gr q1.b;clear hne0 HW HB HC0 HC1 k0 k1 k2 k3 k4 k5 r0 r1 r2 r3 r4 r5 nw Gk Gr Bk pk hb hbn e5 hbnv e5v c0 c1 c2 c3 c4 c5;have HB:=HB1;clear HB1;have Bk:=Ck;clear Ck;clear Cr
       go_wp2
       go_ret;refine BoolB.f (fun h => ?_) HB.out;obtain ⟨i,m,e1,e2,e3,e4⟩:=(h.2 k p HXp.out) HP2.out;obtain ⟨_,rfl⟩:=HNR.out.inj e1 HJn.out (e2.trans HNn.out.symm);exact HAl.out e4
    ·obtain rfl : l5 = k:=by omega
     go_wp2
     go_ret;exact BoolB.t ⟨HQ1.out,fun j z hz => HQ.out j z (by have:=(List.getElem?_eq_some_iff.1 hz).1;omega) hz⟩ HB.out

theorem hit_iff {α : Type} {nm : α → ByteArray} {xs : List α} {t : ByteArray} (h : RisBy nm xs) : hit nm xs t = true ↔ ∃ (i : Nat) (x : α),xs[i]? = some x ∧ nm x = t:=by
 constructor
 ·intro e;obtain ⟨x,h1,h2⟩:=hit_yes e;exact ⟨_,x,h1,h2⟩
 ·rintro ⟨i,x,h1,h2⟩;exact (hit_at h h1 h2).2
theorem bound_iff {c : Cl} (h : RowsOk c) : BoundI c ↔ BoundS c:=by
 have hk:=h.2.1.2.2;have hv:=h.2.2.1.2.2;have hx:=h.2.2.2.1.2.2
 constructor
 ·rintro ⟨h1,h2⟩;refine ⟨fun j v e => ?_,fun j x e => ?_⟩
  ·obtain ⟨a,b⟩:=h1 j v e;refine ⟨(hit_iff hk).1 a,b.imp id ?_⟩;rintro ⟨i,j',x,v',e1,e2,e3,e4,e5,e6,_⟩;exact ⟨i,x,e1,e2,e5⟩
  ·obtain ⟨a,b⟩:=h2 j x e;refine ⟨(hit_iff hk).1 a,b.imp id ?_⟩;rintro ⟨i,j',x',v',e1,e2,e3,e4,e5,e6,e7,e8,e9⟩;obtain ⟨_,rfl⟩:=hx.inj e1 e e2;exact ⟨j',v',e3,e4,e6,e7,e8,e9⟩
 ·rintro ⟨h1,h2⟩;refine ⟨fun j v e => ?_,fun j x e => ?_⟩
  ·obtain ⟨a,b⟩:=h1 j v e;refine ⟨(hit_iff hk).2 a,b.imp id ?_⟩;rintro ⟨i,x,e1,e2,e3⟩;have hne : ¬ x.v = ⟨#[]⟩:=fun q => h.ne j v e (e3.symm.trans q);obtain ⟨_,b2⟩:=h2 i x e1
   rcases b2 with b2 | ⟨j',v',f1,f2,f3,f4,f5,f6⟩
   ·exact absurd b2 hne
   obtain ⟨_,rfl⟩:=hv.inj f1 e (f2.trans e3);exact ⟨i,j,x,v',e1,e2,e,rfl,e3,rfl,f4,f5,f6⟩
  ·obtain ⟨a,b⟩:=h2 j x e;refine ⟨(hit_iff hk).2 a,b.imp id ?_⟩;rintro ⟨j',v,e1,e2,e3,e4,e5,e6⟩;exact ⟨j,j',x,v,e,rfl,e1,e2,rfl,e3,e4,e5,e6⟩
theorem placed_iff {c : Cl} (h : RowsOk c) (hb : BoundS c) : PlacedI c ↔ PlacedS c:=by
 have hn:=h.1.2.2;have hv:=h.2.2.1.2.2;have hx:=h.2.2.2.1.2.2
 have one : (∀ (j : Nat) z,c.vs[j]? = some z → PQ3 c z) ↔ ∀ (k : Nat) p,c.ps[k]? = some p → PSc c k p:=by
  constructor
  ·intro h3 k p hp j q hj hq
   by_cases e1 : q.d = ⟨#[]⟩
   ·exact .inl e1
   by_cases e2 : p.d = ⟨#[]⟩
   ·exact .inr (.inl e2)
   by_cases e3 : q.d = p.d
   ·exact .inr (.inr (.inl e3))
   refine .inr (.inr (.inr fun i t ht v hbd hs hin => e3 ?_));obtain ⟨i1,j1,x,f1,f2,f3,f4⟩:=hbd;have hxv : ¬ x.v = ⟨#[]⟩:=fun z => h.ne j1 v f3 (f4.trans z)
   have hvm : v.m = t:=by
    rcases (hb.2 i1 x f1).2 with z | ⟨j2,v2,g1,g2,g3,_⟩
    ·exact absurd z hxv
    ·obtain ⟨_,rfl⟩:=hv.inj g1 f3 (g2.trans f4.symm);rw [g3,f2]
   have ht0 : ¬ v.m = ⟨#[]⟩:=fun z => by
    have h1:=(h.2.2.2.1.2.1 i1 x f1).1.1;rw [f2,← hvm,z] at h1;exact absurd h1 (by decide)
   have:=h3 j1 v f3 hs ht0;rw [hvm] at this;exact this j k q p hq hp e1 e2 ⟨i,ht⟩ hin
  ·intro h3 j v hj hs hm i1 i2 p q hp hq d1 d2 in1 in2;obtain ⟨i4,x,f1,f2,f3⟩:=(hb.1 j v hj).2.resolve_left hm;have hbd : IsBd c v.m v:=⟨i4,j,x,f1,f2,hj,f3.symm⟩
   rcases Nat.lt_trichotomy i1 i2 with k | k | k
   ·obtain ⟨r,hr⟩:=in1
    rcases h3 i2 q hq i1 p k hp with z | z | z | z
    ·exact absurd z d1
    ·exact absurd z d2
    ·exact z
    ·exact absurd in2 (z r v.m hr v hbd hs)
   ·subst k;rw [hp] at hq;rw [Option.some.inj hq]
   ·obtain ⟨r,hr⟩:=in2
    rcases h3 i1 p hp i2 q k hq with z | z | z | z
    ·exact absurd z d2
    ·exact absurd z d1
    ·exact z.symm
    ·exact absurd in1 (z r v.m hr v hbd hs)
 constructor
 ·rintro ⟨h1,h2,h3⟩;refine ⟨fun k p hp => ⟨?_,?_,one.1 h3 k p hp⟩,h2⟩
  ·rcases (h1 k p hp).2 with z | ⟨i,n,e1,e2,e3,e4⟩
   ·exact .inl z
   ·exact .inr ⟨i,n,e1,e2,e3.imp id Eq.symm⟩
  ·intro j t ht;refine ⟨(hit_iff hx).1 ((h1 k p hp).1 j t ht),?_⟩
   rcases (h1 k p hp).2 with z | ⟨i,n,e1,e2,e3,e4⟩
   ·exact .inl z
   ·obtain ⟨v,f1,f2⟩:=e4 j t ht;exact .inr ⟨v,i,n,f1,e1,e2,f2⟩
 ·rintro ⟨h1,h2⟩;refine ⟨fun k p hp => ⟨fun j t ht => (hit_iff hx).2 ((h1 k p hp).2.1 j t ht).1,?_⟩,h2,one.2 (fun k p hp => (h1 k p hp).2.2)⟩
  rcases (h1 k p hp).1 with z | ⟨i,n,e1,e2,e3⟩
  ·exact .inl z
  by_cases z : p.d = ⟨#[]⟩
  ·exact .inl z
  refine .inr ⟨i,n,e1,e2,e3.imp id Eq.symm,fun j t ht => ?_⟩;obtain ⟨v,i',n',f1,f2,f3,f4⟩:=((h1 k p hp).2.1 j t ht).2.resolve_left z;obtain ⟨_,rfl⟩:=hn.inj f2 e1 (f3.trans e2.symm);exact ⟨v,f1,f4⟩
theorem running {c : Cl} (h : RowsOk c) (hp : PlacedS c) (j : Nat) (p : Pd) (hj : c.ps[j]? = some p) (h2 : p.p = 2) : (∃ (i : Nat) (n : Nd),c.ns[i]? = some n ∧ n.n = p.d) ∧ ∀ (j : Nat) t,p.zs[j]? = some t → ∃ v,IsBd c t v:=by
 have hd : ¬ p.d = ⟨#[]⟩:=fun e => by
  have h1:=(h.2.2.2.2.2.1 j p hj).2.2.2.2
  rcases h1 with ⟨h3,_⟩ | ⟨_,h3⟩
  ·rw [h2] at h3;cases h3
  ·have h4:=h3.1;rw [e] at h4;exact absurd h4 (by decide)
 obtain ⟨a,b,_⟩:=hp.1 j p hj;obtain ⟨i,n,e1,e2,_⟩:=a.resolve_left hd;refine ⟨⟨i,n,e1,e2⟩,fun k t ht => ?_⟩;obtain ⟨v,_,_,e3,_⟩:=(b k t ht).2.resolve_left hd;exact ⟨v,e3⟩

theorem sright_any (d : Ad) (c : Cl) (w : World) (hr : ClRow w d c.raw) :
  Calls Tryz.prog 79 #[.agg #[.slice d.a1 d.l1 d.c1,.slice d.a2 d.l2 d.c2,.slice d.a3 d.l3 d.c3,.slice d.a4 d.l4 d.c4,.slice d.a5 d.l5 d.c5,.int .i64 c.now]] w (BoolB (RightI c) w):=by
 have HR:=hidK hr;have HB:=hidK (Below.refl w.heap.size w);clear hr
 go_enter Tryz.func79,Tryz.ntmps79
 go_wp2_with fail;refine (ktime_any c.now _).mono ?_;rintro e w1 ⟨r,rfl,hi,hw⟩
 have hb : Below (w.alloc (.cells #[.slice d.a1 d.l1 d.c1,.slice d.a2 d.l2 d.c2,.slice d.a3 d.l3 d.c3,.slice d.a4 d.l4 d.c4,.slice d.a5 d.l5 d.c5,.int .i64 c.now] 36)).heap.size (w.alloc (.cells #[.slice d.a1 d.l1 d.c1,.slice d.a2 d.l2 d.c2,.slice d.a3 d.l3 d.c3,.slice d.a4 d.l4 d.c4,.slice d.a5 d.l5 d.c5,.int .i64 c.now] 36)) w1:=by first | (rw [hw];exact Below.refl _ _) | (rw [← hw];exact Below.refl _ _)
 clear hw;obtain ⟨HA0,hbx⟩:=slots1 hb;have Bk:=hidK HA0;replace HB:=upB HB hbx;clear hb hbx HA0;have HI1:=hidK hi;clear hi
 cases r
 ·obtain ⟨k0,k1,k2,k3,k4,k5⟩:=cs6 Bk.out
  go_wp2
  go_ret;exact BoolB.f (fun h => by have:=HI1.out.2 h.1;cases this) HB.out
 obtain ⟨k0,k1,k2,k3,k4,k5⟩:=cs6 Bk.out;go_wp2_with fail;refine (seach_any d c _ (HR.out.below HB.out)).mono ?_;rintro e w2 ⟨r,rfl,hi,hb⟩;clear k0 k1 k2 k3 k4 k5;replace Bk:=upK Bk hb;replace HB:=upB HB hb;clear hb;have HI2:=hidK hi;clear hi
 cases r
 ·obtain ⟨k0,k1,k2,k3,k4,k5⟩:=cs6 Bk.out
  go_wp2
  go_ret;exact BoolB.f (fun h => by have:=HI2.out.2 h.2.1;cases this) HB.out
 have HOK:=hidK (HI2.out.1 (by first | trivial | rfl));obtain ⟨k0,k1,k2,k3,k4,k5⟩:=cs6 Bk.out;go_wp2_with fail;refine (sbound_any d c _ (HR.out.below HB.out) HOK.out.2.1.2.2 HOK.out.2.2.2.1.2.2 HOK.out.2.2.1.2.2).mono ?_;rintro e w3 ⟨r,rfl,hi,hb⟩;clear k0 k1 k2 k3 k4 k5;replace Bk:=upK Bk hb;replace HB:=upB HB hb;clear hb;have HI3:=hidK hi;clear hi
 cases r
 ·obtain ⟨k0,k1,k2,k3,k4,k5⟩:=cs6 Bk.out
  go_wp2
  go_ret;exact BoolB.f (fun h => by have:=HI3.out.2 ((bound_iff HOK.out).1 h.2.2.1);cases this) HB.out
 have HBd:=hidK (HI3.out.1 (by first | trivial | rfl));obtain ⟨k0,k1,k2,k3,k4,k5⟩:=cs6 Bk.out;go_wp2_with fail;refine (splaced_any d c _ (HR.out.below HB.out) HOK.out.1.2.2 HOK.out.2.2.2.1.2.2 HOK.out.2.2.1.2.2 HOK.out.ne (by have:=HOK.out.2.2.2.2.1;omega) HOK.out.cpu).mono ?_;rintro e w4 ⟨r,rfl,hi,hb⟩;clear k0 k1 k2 k3 k4 k5;replace Bk:=upK Bk hb;replace HB:=upB HB hb;clear hb;have HI4:=hidK hi;clear hi
 cases r
 ·obtain ⟨k0,k1,k2,k3,k4,k5⟩:=cs6 Bk.out
  go_wp2
  go_ret;exact BoolB.f (fun h => by have:=HI4.out.2 ((placed_iff HOK.out HBd.out).1 h.2.2.2.1);cases this) HB.out
 have HPl:=hidK (HI4.out.1 (by first | trivial | rfl));obtain ⟨k0,k1,k2,k3,k4,k5⟩:=cs6 Bk.out;go_wp2_with fail;refine (sattached_any d c _ (HR.out.below HB.out) HOK.out.1.2.2 (by have:=HOK.out.2.2.1.1;omega)).mono ?_;rintro e w5 ⟨r,rfl,hi,hb⟩;clear k0 k1 k2 k3 k4 k5;replace Bk:=upK Bk hb;replace HB:=upB HB hb;clear hb;have HI5:=hidK hi;clear hi
 cases r
 ·obtain ⟨k0,k1,k2,k3,k4,k5⟩:=cs6 Bk.out
  go_wp2
  go_ret;exact BoolB.f (fun h => by have:=HI5.out.2 h.2.2.2.2.1;cases this) HB.out
 obtain ⟨k0,k1,k2,k3,k4,k5⟩:=cs6 Bk.out;go_wp2_with fail;refine (smounted_any d c _ (HR.out.below HB.out) HOK.out.1.2.2 HOK.out.2.2.2.1.2.2 HOK.out.2.2.1.2.2 HOK.out.ne (running HOK.out HPl.out)).mono ?_;rintro e w6 ⟨r,rfl,hi,hb⟩;clear k0 k1 k2 k3 k4 k5;replace Bk:=upK Bk hb;replace HB:=upB HB hb;clear hb;have HI6:=hidK hi;clear hi
 cases r
 ·obtain ⟨k0,k1,k2,k3,k4,k5⟩:=cs6 Bk.out
  go_wp2
  go_ret;exact BoolB.f (fun h => by have:=HI6.out.2 h.2.2.2.2.2;cases this) HB.out
 go_wp2
 go_ret;exact BoolB.t ⟨HI1.out.1 (by first | trivial | rfl),HOK.out,(bound_iff HOK.out).2 HBd.out,(placed_iff HOK.out HBd.out).2 HPl.out,HI5.out.1 (by first | trivial | rfl),HI6.out.1 (by first | trivial | rfl)⟩ HB.out

end Rc
end Go.Proofs.YtdfgbboadbnodaaGreatDoor

namespace Go.Proofs.YtdfgbboadbnodaaGreatDoor
open Go.RowKit Go.Extern.Stop Go.Stop Go.Extern
namespace Rc

structure Ers (w : World) (E : Nat → Addr) : Prop where
 v0 : w.cell? ⟨1,0,none⟩ = some (.iface 195 (.pointer (some (E 0))))
 v1 : w.cell? ⟨9,0,none⟩ = some (.iface 195 (.pointer (some (E 1))))
 v2 : w.cell? ⟨3,0,none⟩ = some (.iface 195 (.pointer (some (E 2))))
 v3 : w.cell? ⟨4,0,none⟩ = some (.iface 195 (.pointer (some (E 3))))
 v4 : w.cell? ⟨6,0,none⟩ = some (.iface 195 (.pointer (some (E 4))))
 v5 : w.cell? ⟨7,0,none⟩ = some (.iface 195 (.pointer (some (E 5))))
 v6 : w.cell? ⟨5,0,none⟩ = some (.iface 195 (.pointer (some (E 6))))
 v7 : w.cell? ⟨8,0,none⟩ = some (.iface 195 (.pointer (some (E 7))))
 v8 : w.cell? ⟨0,0,none⟩ = some (.iface 195 (.pointer (some (E 8))))
 v9 : w.cell? ⟨2,0,none⟩ = some (.iface 195 (.pointer (some (E 9))))
 blk : ∀ i,i < 10 → ∃ cs T,w.heap[(E i).block]? = some (.cells cs T (0,0))
 inj : ∀ i j,i < 10 → j < 10 → E i = E j → i = j
theorem cell_lt {w : World} {b o : Nat} {v : Value} (h : w.cell? ⟨b,o,none⟩ = some v) : b < w.heap.size:=World.block_lt_of_cell? w _ h
theorem Ers.below {w w' : World} {E : Nat → Addr} (h : Ers w E) (hb : Below w.heap.size w w') : Ers w' E :=
 ⟨(cell_below hb (cell_lt h.v0)).trans h.v0,(cell_below hb (cell_lt h.v1)).trans h.v1,(cell_below hb (cell_lt h.v2)).trans h.v2,(cell_below hb (cell_lt h.v3)).trans h.v3,(cell_below hb (cell_lt h.v4)).trans h.v4,(cell_below hb (cell_lt h.v5)).trans h.v5,(cell_below hb (cell_lt h.v6)).trans h.v6,(cell_below hb (cell_lt h.v7)).trans h.v7,(cell_below hb (cell_lt h.v8)).trans h.v8,(cell_below hb (cell_lt h.v9)).trans h.v9,fun i hi => by
  obtain ⟨cs,T,h1⟩:=h.blk i hi
  exact ⟨cs,T,(hb.block _ (lt_of_some h1)).trans h1⟩,h.inj⟩
theorem Ers.ens {w : World} {E : Nat → Addr} (h : Ers w E) : ens w:=⟨_,_,h.v2⟩

theorem isTypeOf (v : Value) (w : World) : (Extern.ReflectliteType.typeOf #[.iface 195 v]).run Tryz.prog w = .ok (.iface 165 (.agg #[.pointer (some ⟨10,195,none⟩)])) w:=by kernel_rfl
def cmpF : Array Value → Sem Value:=Extern.ReflectliteType.method fun t => do Rtype.noPackHeld "Comparable" t;pure (.bool (← typeInfo t).comparable)
theorem isComparable (w : World) : (cmpF #[.agg #[.pointer (some ⟨10,195,none⟩)]]).run Tryz.prog w = .ok (.bool true) w:=by kernel_rfl
theorem isMethodComparable (v : Value) (w : World) : (Go.method 343 165 v "Comparable").run Tryz.prog w = .ok (204,v) w:=by kernel_rfl
theorem isComp : (Tryz.prog.info? 195).map (·.comparable) = some true:=by kernel_rfl
theorem isSize : (Tryz.prog.info? 231).map (·.size) = some 1:=by kernel_rfl
theorem noIsE (v : Value) (xT : TypeId) (w : World) : (Instr.typeAssert (.iface 195 v) xT 167 true).run Tryz.prog w = .ok (.tuple #[.nilIface,.bool false]) w:=run_typeAssert_lacksB Tryz.underlying167 (by kernel_rfl) (by kernel_rfl) v xT w
theorem noUnwrapE (v : Value) (xT : TypeId) (w : World) : (Instr.typeAssert (.iface 195 v) xT 170 true).run Tryz.prog w = .ok (.tuple #[.nilIface,.bool false]) w:=run_typeAssert_lacksB Tryz.underlying170 (by kernel_rfl) (by kernel_rfl) v xT w
theorem noUnwrapsE (v : Value) (xT : TypeId) (w : World) : (Instr.typeAssert (.iface 195 v) xT 172 true).run Tryz.prog w = .ok (.tuple #[.nilIface,.bool false]) w:=run_typeAssert_lacksB Tryz.underlying172 (by kernel_rfl) (by kernel_rfl) v xT w

theorem is_same (a : Addr) (w : World)  :
  Calls Tryz.prog 85 #[.iface 195 (.pointer (some (a))),.iface 195 (.pointer (some (a)))] w fun e w' => e = .returned (.bool true) ∧ w' = w:=by
 obtain ⟨i,hi,hcmp⟩:=Option.map_eq_some_iff.1 isComp;obtain ⟨j,hj,hjs⟩:=Option.map_eq_some_iff.1 isSize;have h8:=@run_callFunc_extern Tryz.prog 110 _ Extern.ReflectliteType.typeOf Tryz.func110 (by kernel_rfl) (by kernel_rfl) (by kernel_rfl) (by kernel_rfl);have h32:=@run_callFunc_extern Tryz.prog 204 _ cmpF Tryz.func204 (by kernel_rfl) (by kernel_rfl) (by kernel_rfl) (by kernel_rfl);have tT:=isTypeOf;have cT:=isComparable;have mR:=isMethodComparable;have heq:=run_eql_iface_ptr_same (P:=Tryz.prog) w a Tryz.underlying70 Tryz.underlying195 hi hcmp hj
 go_enter Tryz.func85,Tryz.ntmps85
 go_wp2
 refine wp_loop_rounds 1 ?_;rw [rounds_succ]
 go_wp2
 go_ret;exact ⟨rfl,rfl⟩

theorem is_other (a b : Addr) (ca cb : Array Value) (ta tb : TypeId) (w : World) (hne : a ≠ b) (ha : w.heap[a.block]? = some (.cells ca ta (0,0))) (hb : w.heap[b.block]? = some (.cells cb tb (0,0))) :
  Calls Tryz.prog 85 #[.iface 195 (.pointer (some (a))),.iface 195 (.pointer (some (b)))] w fun e w' => e = .returned (.bool false) ∧ w' = w:=by
 obtain ⟨i,hi,hcmp⟩:=Option.map_eq_some_iff.1 isComp;obtain ⟨j,hj,hjs⟩:=Option.map_eq_some_iff.1 isSize;have h8:=@run_callFunc_extern Tryz.prog 110 _ Extern.ReflectliteType.typeOf Tryz.func110 (by kernel_rfl) (by kernel_rfl) (by kernel_rfl) (by kernel_rfl);have h32:=@run_callFunc_extern Tryz.prog 204 _ cmpF Tryz.func204 (by kernel_rfl) (by kernel_rfl) (by kernel_rfl) (by kernel_rfl);have tT:=isTypeOf;have cT:=isComparable;have mR:=isMethodComparable;have nE:=noIsE;have uE:=noUnwrapE;have vE:=noUnwrapsE;have heq:=run_eql_iface_ptr_other (P:=Tryz.prog) w Tryz.underlying70 Tryz.underlying195 hi hcmp hj (by rw [hjs];decide) hne ha hb
 go_enter Tryz.func85,Tryz.ntmps85
 go_wp2
 refine wp_loop_rounds 1 ?_;rw [rounds_succ]
 go_wp2
 go_ret;exact ⟨rfl,rfl⟩

theorem is_words {w : World} {E : Nat → Addr} (h : Ers w E) (i j : Nat) (hi : i < 10) (hj : j < 10) (hne : ¬ i = j) :
  Calls Tryz.prog 85 #[.iface 195 (.pointer (some (E i))),.iface 195 (.pointer (some (E j)))] w fun e w' => e = .returned (.bool false) ∧ w' = w:=by
 obtain ⟨ca,ta,h1⟩:=h.blk i hi;obtain ⟨cb,tb,h2⟩:=h.blk j hj;exact is_other (E i) (E j) ca cb ta tb w (fun e => hne (h.inj i j hi hj e)) h1 h2

def codeOf : Nat → Int
 | 0 => 2
 | 1 => 1
 | 2 => 6
 | 3 => 7
 | 4 => 9
 | 5 => 11
 | 6 => 7
 | 7 => 11
 | 8 => 10
 | 9 => 3
 | _ => 0

theorem why0 (E : Nat → Addr) (w : World) (h : Ers w E) : Calls Tryz.prog 60 #[.iface 195 (.pointer (some (E 0)))] w fun e w' => e = .returned (.int .i64 2) ∧ w' = w:=by
 have HE:=hidK h;have v0:=h.v0;have v1:=h.v1;have v2:=h.v2;have v3:=h.v3;have v4:=h.v4;have v5:=h.v5;have v6:=h.v6;have v7:=h.v7;have v8:=h.v8;have v9:=h.v9;clear h
 go_enter Tryz.func60,Tryz.ntmps60
 go_wp2_with fail;refine (is_same (E 0) _).mono ?_;rintro e w' ⟨rfl,rfl⟩
 go_wp2
 go_ret;exact ⟨rfl,rfl⟩

theorem why1 (E : Nat → Addr) (w : World) (h : Ers w E) : Calls Tryz.prog 60 #[.iface 195 (.pointer (some (E 1)))] w fun e w' => e = .returned (.int .i64 1) ∧ w' = w:=by
 have HE:=hidK h;have v0:=h.v0;have v1:=h.v1;have v2:=h.v2;have v3:=h.v3;have v4:=h.v4;have v5:=h.v5;have v6:=h.v6;have v7:=h.v7;have v8:=h.v8;have v9:=h.v9;clear h
 go_enter Tryz.func60,Tryz.ntmps60
 go_wp2_with fail;refine (is_words HE.out 1 0 (by decide) (by decide) (by decide)).mono ?_;rintro e w' ⟨rfl,rfl⟩;go_wp2_with fail;refine (is_words HE.out 1 9 (by decide) (by decide) (by decide)).mono ?_;rintro e w' ⟨rfl,rfl⟩;go_wp2_with fail;refine (is_words HE.out 1 2 (by decide) (by decide) (by decide)).mono ?_;rintro e w' ⟨rfl,rfl⟩;go_wp2_with fail;refine (is_words HE.out 1 3 (by decide) (by decide) (by decide)).mono ?_;rintro e w' ⟨rfl,rfl⟩;go_wp2_with fail;refine (is_words HE.out 1 6 (by decide) (by decide) (by decide)).mono ?_;rintro e w' ⟨rfl,rfl⟩;go_wp2_with fail;refine (is_words HE.out 1 4 (by decide) (by decide) (by decide)).mono ?_;rintro e w' ⟨rfl,rfl⟩;go_wp2_with fail;refine (is_words HE.out 1 5 (by decide) (by decide) (by decide)).mono ?_;rintro e w' ⟨rfl,rfl⟩;go_wp2_with fail;refine (is_words HE.out 1 7 (by decide) (by decide) (by decide)).mono ?_;rintro e w' ⟨rfl,rfl⟩;go_wp2_with fail;refine (is_words HE.out 1 8 (by decide) (by decide) (by decide)).mono ?_;rintro e w' ⟨rfl,rfl⟩
 go_wp2
 go_ret;exact ⟨rfl,rfl⟩

theorem why2 (E : Nat → Addr) (w : World) (h : Ers w E) : Calls Tryz.prog 60 #[.iface 195 (.pointer (some (E 2)))] w fun e w' => e = .returned (.int .i64 6) ∧ w' = w:=by
 have HE:=hidK h;have v0:=h.v0;have v1:=h.v1;have v2:=h.v2;have v3:=h.v3;have v4:=h.v4;have v5:=h.v5;have v6:=h.v6;have v7:=h.v7;have v8:=h.v8;have v9:=h.v9;clear h
 go_enter Tryz.func60,Tryz.ntmps60
 go_wp2_with fail;refine (is_words HE.out 2 0 (by decide) (by decide) (by decide)).mono ?_;rintro e w' ⟨rfl,rfl⟩;go_wp2_with fail;refine (is_words HE.out 2 9 (by decide) (by decide) (by decide)).mono ?_;rintro e w' ⟨rfl,rfl⟩;go_wp2_with fail;refine (is_same (E 2) _).mono ?_;rintro e w' ⟨rfl,rfl⟩
 go_wp2
 go_ret;exact ⟨rfl,rfl⟩

theorem why3 (E : Nat → Addr) (w : World) (h : Ers w E) : Calls Tryz.prog 60 #[.iface 195 (.pointer (some (E 3)))] w fun e w' => e = .returned (.int .i64 7) ∧ w' = w:=by
 have HE:=hidK h;have v0:=h.v0;have v1:=h.v1;have v2:=h.v2;have v3:=h.v3;have v4:=h.v4;have v5:=h.v5;have v6:=h.v6;have v7:=h.v7;have v8:=h.v8;have v9:=h.v9;clear h
 go_enter Tryz.func60,Tryz.ntmps60
 go_wp2_with fail;refine (is_words HE.out 3 0 (by decide) (by decide) (by decide)).mono ?_;rintro e w' ⟨rfl,rfl⟩;go_wp2_with fail;refine (is_words HE.out 3 9 (by decide) (by decide) (by decide)).mono ?_;rintro e w' ⟨rfl,rfl⟩;go_wp2_with fail;refine (is_words HE.out 3 2 (by decide) (by decide) (by decide)).mono ?_;rintro e w' ⟨rfl,rfl⟩;go_wp2_with fail;refine (is_same (E 3) _).mono ?_;rintro e w' ⟨rfl,rfl⟩
 go_wp2
 go_ret;exact ⟨rfl,rfl⟩

theorem why4 (E : Nat → Addr) (w : World) (h : Ers w E) : Calls Tryz.prog 60 #[.iface 195 (.pointer (some (E 4)))] w fun e w' => e = .returned (.int .i64 9) ∧ w' = w:=by
 have HE:=hidK h;have v0:=h.v0;have v1:=h.v1;have v2:=h.v2;have v3:=h.v3;have v4:=h.v4;have v5:=h.v5;have v6:=h.v6;have v7:=h.v7;have v8:=h.v8;have v9:=h.v9;clear h
 go_enter Tryz.func60,Tryz.ntmps60
 go_wp2_with fail;refine (is_words HE.out 4 0 (by decide) (by decide) (by decide)).mono ?_;rintro e w' ⟨rfl,rfl⟩;go_wp2_with fail;refine (is_words HE.out 4 9 (by decide) (by decide) (by decide)).mono ?_;rintro e w' ⟨rfl,rfl⟩;go_wp2_with fail;refine (is_words HE.out 4 2 (by decide) (by decide) (by decide)).mono ?_;rintro e w' ⟨rfl,rfl⟩;go_wp2_with fail;refine (is_words HE.out 4 3 (by decide) (by decide) (by decide)).mono ?_;rintro e w' ⟨rfl,rfl⟩;go_wp2_with fail;refine (is_words HE.out 4 6 (by decide) (by decide) (by decide)).mono ?_;rintro e w' ⟨rfl,rfl⟩;go_wp2_with fail;refine (is_same (E 4) _).mono ?_;rintro e w' ⟨rfl,rfl⟩
 go_wp2
 go_ret;exact ⟨rfl,rfl⟩

theorem why5 (E : Nat → Addr) (w : World) (h : Ers w E) : Calls Tryz.prog 60 #[.iface 195 (.pointer (some (E 5)))] w fun e w' => e = .returned (.int .i64 11) ∧ w' = w:=by
 have HE:=hidK h;have v0:=h.v0;have v1:=h.v1;have v2:=h.v2;have v3:=h.v3;have v4:=h.v4;have v5:=h.v5;have v6:=h.v6;have v7:=h.v7;have v8:=h.v8;have v9:=h.v9;clear h
 go_enter Tryz.func60,Tryz.ntmps60
 go_wp2_with fail;refine (is_words HE.out 5 0 (by decide) (by decide) (by decide)).mono ?_;rintro e w' ⟨rfl,rfl⟩;go_wp2_with fail;refine (is_words HE.out 5 9 (by decide) (by decide) (by decide)).mono ?_;rintro e w' ⟨rfl,rfl⟩;go_wp2_with fail;refine (is_words HE.out 5 2 (by decide) (by decide) (by decide)).mono ?_;rintro e w' ⟨rfl,rfl⟩;go_wp2_with fail;refine (is_words HE.out 5 3 (by decide) (by decide) (by decide)).mono ?_;rintro e w' ⟨rfl,rfl⟩;go_wp2_with fail;refine (is_words HE.out 5 6 (by decide) (by decide) (by decide)).mono ?_;rintro e w' ⟨rfl,rfl⟩;go_wp2_with fail;refine (is_words HE.out 5 4 (by decide) (by decide) (by decide)).mono ?_;rintro e w' ⟨rfl,rfl⟩;go_wp2_with fail;refine (is_same (E 5) _).mono ?_;rintro e w' ⟨rfl,rfl⟩
 go_wp2
 go_ret;exact ⟨rfl,rfl⟩

theorem why6 (E : Nat → Addr) (w : World) (h : Ers w E) : Calls Tryz.prog 60 #[.iface 195 (.pointer (some (E 6)))] w fun e w' => e = .returned (.int .i64 7) ∧ w' = w:=by
 have HE:=hidK h;have v0:=h.v0;have v1:=h.v1;have v2:=h.v2;have v3:=h.v3;have v4:=h.v4;have v5:=h.v5;have v6:=h.v6;have v7:=h.v7;have v8:=h.v8;have v9:=h.v9;clear h
 go_enter Tryz.func60,Tryz.ntmps60
 go_wp2_with fail;refine (is_words HE.out 6 0 (by decide) (by decide) (by decide)).mono ?_;rintro e w' ⟨rfl,rfl⟩;go_wp2_with fail;refine (is_words HE.out 6 9 (by decide) (by decide) (by decide)).mono ?_;rintro e w' ⟨rfl,rfl⟩;go_wp2_with fail;refine (is_words HE.out 6 2 (by decide) (by decide) (by decide)).mono ?_;rintro e w' ⟨rfl,rfl⟩;go_wp2_with fail;refine (is_words HE.out 6 3 (by decide) (by decide) (by decide)).mono ?_;rintro e w' ⟨rfl,rfl⟩;go_wp2_with fail;refine (is_same (E 6) _).mono ?_;rintro e w' ⟨rfl,rfl⟩
 go_wp2
 go_ret;exact ⟨rfl,rfl⟩

theorem why7 (E : Nat → Addr) (w : World) (h : Ers w E) : Calls Tryz.prog 60 #[.iface 195 (.pointer (some (E 7)))] w fun e w' => e = .returned (.int .i64 11) ∧ w' = w:=by
 have HE:=hidK h;have v0:=h.v0;have v1:=h.v1;have v2:=h.v2;have v3:=h.v3;have v4:=h.v4;have v5:=h.v5;have v6:=h.v6;have v7:=h.v7;have v8:=h.v8;have v9:=h.v9;clear h
 go_enter Tryz.func60,Tryz.ntmps60
 go_wp2_with fail;refine (is_words HE.out 7 0 (by decide) (by decide) (by decide)).mono ?_;rintro e w' ⟨rfl,rfl⟩;go_wp2_with fail;refine (is_words HE.out 7 9 (by decide) (by decide) (by decide)).mono ?_;rintro e w' ⟨rfl,rfl⟩;go_wp2_with fail;refine (is_words HE.out 7 2 (by decide) (by decide) (by decide)).mono ?_;rintro e w' ⟨rfl,rfl⟩;go_wp2_with fail;refine (is_words HE.out 7 3 (by decide) (by decide) (by decide)).mono ?_;rintro e w' ⟨rfl,rfl⟩;go_wp2_with fail;refine (is_words HE.out 7 6 (by decide) (by decide) (by decide)).mono ?_;rintro e w' ⟨rfl,rfl⟩;go_wp2_with fail;refine (is_words HE.out 7 4 (by decide) (by decide) (by decide)).mono ?_;rintro e w' ⟨rfl,rfl⟩;go_wp2_with fail;refine (is_words HE.out 7 5 (by decide) (by decide) (by decide)).mono ?_;rintro e w' ⟨rfl,rfl⟩;go_wp2_with fail;refine (is_same (E 7) _).mono ?_;rintro e w' ⟨rfl,rfl⟩
 go_wp2
 go_ret;exact ⟨rfl,rfl⟩

theorem why8 (E : Nat → Addr) (w : World) (h : Ers w E) : Calls Tryz.prog 60 #[.iface 195 (.pointer (some (E 8)))] w fun e w' => e = .returned (.int .i64 10) ∧ w' = w:=by
 have HE:=hidK h;have v0:=h.v0;have v1:=h.v1;have v2:=h.v2;have v3:=h.v3;have v4:=h.v4;have v5:=h.v5;have v6:=h.v6;have v7:=h.v7;have v8:=h.v8;have v9:=h.v9;clear h
 go_enter Tryz.func60,Tryz.ntmps60
 go_wp2_with fail;refine (is_words HE.out 8 0 (by decide) (by decide) (by decide)).mono ?_;rintro e w' ⟨rfl,rfl⟩;go_wp2_with fail;refine (is_words HE.out 8 9 (by decide) (by decide) (by decide)).mono ?_;rintro e w' ⟨rfl,rfl⟩;go_wp2_with fail;refine (is_words HE.out 8 2 (by decide) (by decide) (by decide)).mono ?_;rintro e w' ⟨rfl,rfl⟩;go_wp2_with fail;refine (is_words HE.out 8 3 (by decide) (by decide) (by decide)).mono ?_;rintro e w' ⟨rfl,rfl⟩;go_wp2_with fail;refine (is_words HE.out 8 6 (by decide) (by decide) (by decide)).mono ?_;rintro e w' ⟨rfl,rfl⟩;go_wp2_with fail;refine (is_words HE.out 8 4 (by decide) (by decide) (by decide)).mono ?_;rintro e w' ⟨rfl,rfl⟩;go_wp2_with fail;refine (is_words HE.out 8 5 (by decide) (by decide) (by decide)).mono ?_;rintro e w' ⟨rfl,rfl⟩;go_wp2_with fail;refine (is_words HE.out 8 7 (by decide) (by decide) (by decide)).mono ?_;rintro e w' ⟨rfl,rfl⟩;go_wp2_with fail;refine (is_same (E 8) _).mono ?_;rintro e w' ⟨rfl,rfl⟩
 go_wp2
 go_ret;exact ⟨rfl,rfl⟩

theorem whyCode_any (E : Nat → Addr) (i : Nat) (w : World) (h : Ers w E) (hi : i < 9) : Calls Tryz.prog 60 #[.iface 195 (.pointer (some (E i)))] w fun e w' => e = .returned (.int .i64 (codeOf i)) ∧ w' = w:=by
 match i,hi with
 | 0,_ => exact why0 E w h
 | 1,_ => exact why1 E w h
 | 2,_ => exact why2 E w h
 | 3,_ => exact why3 E w h
 | 4,_ => exact why4 E w h
 | 5,_ => exact why5 E w h
 | 6,_ => exact why6 E w h
 | 7,_ => exact why7 E w h
 | 8,_ => exact why8 E w h

theorem refused_any (E : Nat → Addr) (i : Nat) (cc : Int) (hcc : cc = codeOf i) (w : World) (h : Ers w E) (hi : i < 9) : Calls Tryz.prog 31 #[.iface 195 (.pointer (some (E i)))] w fun e w' => e = .returned (.agg #[.slice none 0 0,.slice none 0 0,.slice none 0 0,.slice none 0 0,.slice none 0 0,.int .i64 0,.string ⟨#[]⟩,.int .i64 cc]) ∧ Below w.heap.size w w':=by
 have HE:=hidK (h.below (below1 w (.cells #[.slice none 0 0,.slice none 0 0,.slice none 0 0,.slice none 0 0,.slice none 0 0,.int .i64 0,.string ⟨#[]⟩,.int .i64 0] 38)));clear h
 go_enter Tryz.func31,Tryz.ntmps31
 go_wp2_with fail;refine (whyCode_any E i _ HE.out hi).mono ?_;rintro e w' ⟨rfl,rfl⟩;rw [← hcc];clear hcc
 go_wp2
 exact bodyPost_ret (v:=.agg #[.slice none 0 0,.slice none 0 0,.slice none 0 0,.slice none 0 0,.slice none 0 0,.int .i64 0,.string ⟨#[]⟩,.int .i64 cc]) (by simp [results,Tryz.results31,go_sem]) rfl ⟨rfl,below1 _ _⟩

end Rc
end Go.Proofs.YtdfgbboadbnodaaGreatDoor

namespace Go.Proofs.YtdfgbboadbnodaaGreatDoor
open Go.RowKit

theorem long_any (s : ByteArray) (w : World) :
  Calls Tryz.prog 107 #[.string s] w fun e w' => e = .returned (.bool (decide (8000 < s.size))) ∧ w = w':=by
 go_enter Tryz.func107,Tryz.ntmps107
 go_wp2
 go_ret;exact ⟨by simp;omega,rfl⟩
theorem long_yes (s : ByteArray) (w : World) (h : 8000 < s.size) :
  Calls Tryz.prog 107 #[.string s] w fun e w' => e = .returned (.bool true) ∧ w = w':=by
 have:=long_any s w;rw [decide_eq_true h] at this;exact this
theorem long_no (s : ByteArray) (w : World) (h : ¬ 8000 < s.size) :
  Calls Tryz.prog 107 #[.string s] w fun e w' => e = .returned (.bool false) ∧ w = w':=by
 have:=long_any s w;rw [decide_eq_false h] at this;exact this

end Go.Proofs.YtdfgbboadbnodaaGreatDoor

namespace Go.Proofs.YtdfgbboadbnodaaGreatDoor
open Go.RowKit
namespace Rc
open Mk

theorem Below.drewn {B : Nat} {w w' : World} (h : Below B w w') : Below B w w'.drew:=⟨h.os,h.tape,h.output,h.size,h.block⟩
def HasX (c : Cl) (t : ByteArray) : Prop:=∃ (i : Nat) (x : Xd),c.xs[i]? = some x ∧ x.n = t
theorem HasX.no {c : Cl} {t : ByteArray} (hr : RightI c) (h : hit Xd.n c.xs t = false) : ¬ HasX c t:=fun ⟨i,x,h1,h2⟩ => by
 have:=(hit_at hr.2.1.2.2.2.1.2.2 h1 h2).2;rw [h] at this
 cases this
def BegIs (c : Cl) (t : ByteArray) (p : Int) : Prop:=(8000 < t.size ∧ p = 2) ∨ (¬ 8000 < t.size ∧ ¬ RightI c ∧ p = 1) ∨ (¬ 8000 < t.size ∧ RightI c ∧ p = 0)

theorem sbeg_any (d : Ad) (c : Cl) (t : ByteArray) (w : World) (hr : ClRow w d c.raw) :
  Calls Tryz.prog 50 #[.agg #[.slice d.a1 d.l1 d.c1,.slice d.a2 d.l2 d.c2,.slice d.a3 d.l3 d.c3,.slice d.a4 d.l4 d.c4,.slice d.a5 d.l5 d.c5,.int .i64 c.now],.string t] w fun e w' => ∃ p : Int,e = .returned (.int .i64 p) ∧ BegIs c t p ∧ Below w.heap.size w w':=by
 have HR:=hidK hr;have HB:=hidK (Below.refl w.heap.size w);clear hr
 by_cases hl : 8000 < t.size
 ·go_enter Tryz.func50,Tryz.ntmps50
  go_wp2
  go_ret;exact ⟨2,rfl,.inl ⟨hl,rfl⟩,below1 _ _⟩
 go_enter Tryz.func50,Tryz.ntmps50
 go_wp2_with fail;refine (sright_any d c _ (HR.out.below (HB.out.trans ((below1 _ _).mono HB.out.size)))).mono ?_;rintro e w1 ⟨r,rfl,hi,hb⟩;obtain ⟨HA0,hbx⟩:=slots1 hb;replace HB:=upB HB hbx;clear hb hbx HA0;have HI:=hidK hi;clear hi
 cases r
 ·go_wp2
  go_ret;exact ⟨1,rfl,.inr (.inl ⟨hl,fun h => (by have:=HI.out.2 h;cases this),rfl⟩),HB.out⟩
 ·go_wp2
  go_ret;exact ⟨0,rfl,.inr (.inr ⟨hl,HI.out.1 (by first | trivial | rfl),rfl⟩),HB.out⟩

theorem infond : (Tryz.prog.info? 56).map (fun i => (i.zero,i.size,i.bytes)) = some (some (.agg #[.string ⟨#[]⟩,.string ⟨#[]⟩,.int .i64 0,.int .i64 0,.int .i64 0,.bool false,.slice none 0 0]),7,88):=by kernel_rfl
def ndZ : Nd:=⟨⟨#[]⟩,⟨#[]⟩,0,0,0,false,[]⟩

theorem madend {w : World} {g len : Nat} (h : w.heap[g]? = some (.cells (madeCells #[.string ⟨#[]⟩,.string ⟨#[]⟩,.int .i64 0,.int .i64 0,.int .i64 0,.bool false,.slice none 0 0] (len * 7)) 56 (0,0))) (hl : len ≤ 1048576) (S : Nat → Prop) (hS : S g) :
  ROwn w (some ⟨g,0,none⟩) len len 7 56 ((List.replicate len ndZ).map ndF) S:=by
 refine ⟨by simp,Nat.le_refl _,by omega,.inr ⟨g,_,fun _ _ => 0,rfl,h,hS,?_,?_,?_⟩⟩
 ·intro j r hr;rw [List.getElem?_map] at hr;obtain ⟨x,hx,rfl⟩:=Option.map_eq_some_iff.1 hr
  rfl
 ·intro j r hr i f hi;rw [List.getElem?_map] at hr;obtain ⟨x,hx,rfl⟩:=Option.map_eq_some_iff.1 hr
  have hj : j < len:=by have:=(List.getElem?_eq_some_iff.1 hx).1;simpa using this
  obtain rfl : x = ndZ:=by
   obtain ⟨h1,h2⟩:=List.getElem?_eq_some_iff.1 hx
   simpa using h2.symm
  have him : i < 7:=(List.getElem?_eq_some_iff.1 hi).1
  have hlt : j * 7 + i < len * 7:=by omega
  have hcell : (madeCells #[.string ⟨#[]⟩,.string ⟨#[]⟩,.int .i64 0,.int .i64 0,.int .i64 0,.bool false,.slice none 0 0] (len * 7))[j * 7 + i]? = some (#[.string ⟨#[]⟩,.string ⟨#[]⟩,.int .i64 0,.int .i64 0,.int .i64 0,.bool false,.slice none 0 0][i]!):=by
   unfold madeCells;rw [Array.getElem?_map,Array.getElem?_range];rw [if_pos hlt]
   have : (j * 7 + i) % 7 = i:=by omega
   simp [this]
  refine ⟨_,hcell,?_⟩
  rcases i with _ | _ | _ | _ | _ | _ | _ | i
  ·cases hi;exact ⟨rfl,by decide⟩
  ·cases hi;exact ⟨rfl,by decide⟩
  ·cases hi;exact rfl
  ·cases hi;exact rfl
  ·cases hi;exact rfl
  ·cases hi;exact rfl
  ·cases hi;exact ⟨none,0,0,rfl,rfl,Nat.le_refl _,by decide,fun j x hx => by simp [ndZ] at hx,.inl rfl⟩
  ·omega
 ·intro j r i zs j' r' i' zs' hr hi hz
  exfalso
  rw [List.getElem?_map] at hr;obtain ⟨x,hx,rfl⟩:=Option.map_eq_some_iff.1 hr
  obtain rfl : x = ndZ:=by
   obtain ⟨h1,h2⟩:=List.getElem?_eq_some_iff.1 hx
   simpa using h2.symm
  have him : i < 7:=(List.getElem?_eq_some_iff.1 hi).1
  rcases i with _ | _ | _ | _ | _ | _ | _ | i
  ·cases hi
  ·cases hi
  ·cases hi
  ·cases hi
  ·cases hi
  ·cases hi
  ·cases hi;exact hz rfl
  ·omega

theorem tond_any (a : Option Addr) (len cap : Nat) (xs : List Nd) (w : World) (hr : RRow w a len cap 7 (xs.map ndF)) (hl : len ≤ 1048576) (hf : ∀ (j : Nat) x,xs[j]? = some x → x.zs.length ≤ 1048576) :
  Calls Tryz.prog 25 #[.slice a len cap] w fun e w' => e = .returned (.slice (some ⟨w.heap.size,0,none⟩) len len) ∧ ROwn w' (some ⟨w.heap.size,0,none⟩) len len 7 56 (xs.map ndF) (fun k => w.heap.size ≤ k) ∧ Below w.heap.size w w':=by
 have HR:=hidK hr
 have hvl : xs.length = len:=by simpa using hr.1
 have HF:=hidK hf;clear hr hf;obtain ⟨i0,hi,hz0,hz1,hz2⟩:=info_parts infond
 go_enter Tryz.func25,Tryz.ntmps25
 go_wp2_with (at_make;refine wpList_make_full _ rfl _ _ 30 rfl w.heap.size 56 i0 (.agg #[.string ⟨#[]⟩,.string ⟨#[]⟩,.int .i64 0,.int .i64 0,.int .i64 0,.bool false,.slice none 0 0]) 7 Tryz.underlying30 hi hz0 hz1 _ _ _ _ len rfl rfl (by omega) (by omega) (by rw [hz2];omega) (by unfold maxLen;omega) (Nat.le_refl _) ?_)
 intro w1 hown hgrow;have hnx1:=(Below.refl _ _).grown hgrow (Nat.le_refl _) (fun k hk => by cases hk);have HB : Hid (Below w.heap.size w w1):=hnx1
 have hc1 : w1.heap[w.heap.size]? = some (.cells (madeCells #[.string ⟨#[]⟩,.string ⟨#[]⟩,.int .i64 0,.int .i64 0,.int .i64 0,.bool false,.slice none 0 0] (len * 7)) 56 (0,0)):=by
  obtain ⟨h1,h2⟩:=hown
  rcases h2 with ⟨h3,_⟩ | ⟨g',cap',cur,hv,hB,hh,_,_,hsz,htk⟩
  ·cases h3
  ·simp only [Value.slice.injEq,Option.some.injEq,Addr.mk.injEq] at hv;obtain ⟨⟨rfl,_,_⟩,_,rfl⟩:=hv;rw [List.take_of_length_le (by simp [hsz])] at htk
   have : cur = madeCells #[.string ⟨#[]⟩,.string ⟨#[]⟩,.int .i64 0,.int .i64 0,.int .i64 0,.bool false,.slice none 0 0] (len * 7):=by apply Array.ext';simpa using htk
   rw [this] at hh
   simpa using hh
 have HP : Hid (ROwn w1 (some ⟨w.heap.size,0,none⟩) len len 7 56 ((xs.take 0 ++ (List.replicate len ndZ).drop 0).map ndF) (fun k => w.heap.size ≤ k)):=by
  have:=madend hc1 hl (fun k => w.heap.size ≤ k) (Nat.le_refl _)
  simpa [Hid] using this
 have hZl : xs.length = (List.replicate len ndZ).length:=by simpa using hvl
 clear hown hgrow hi hz0 hz1 hz2 hnx1 hc1
 go_wp2
 go_loopw [4] (fun i wr => ∃ k : Nat,k ≤ len ∧ i = .int .i64 k ∧ Hid (ROwn wr (some ⟨w.heap.size,0,none⟩) len len 7 56 ((xs.take k ++ (List.replicate len ndZ).drop k).map ndF) (fun k => w.heap.size ≤ k)) ∧ Hid (Below w.heap.size w wr)) (fun i _ => len - (intOf i).toNat)
 case atStart => exact ⟨0,by omega,rfl,HP,HB⟩
 case round =>
  obtain ⟨k,hk,rfl,HP,HB⟩:=hrel
  by_cases hlt : k < len
  ·obtain ⟨b,o,v,rfl,hb,hv,hat⟩:=nd_at (HR.out.below HB.out) hlt;obtain ⟨va,vl,vc,hvr,z0,z1,c0,c1,c2,c3,c4,c5,c6⟩:=nd_cells hat;have HV:=hidK hv;have Hz0:=hidK z0;have Hz1:=hidK z1;have HT:=hidK hvr
   have hvl2 : vl ≤ 1048576:=by have:=HF.out k v hv;rw [hvr.1] at this;exact this
   have hvz:=hvr.1;have HVZ:=hidK hvz;clear hvr hvz;clear hat hv z0 z1
   have hzk : ((xs.take k ++ (List.replicate len ndZ).drop k).map ndF)[k]? = some (ndF ndZ):=by
    rw [List.getElem?_map,take_drop_at hZl (by omega),List.getElem?_replicate,if_pos hlt]
    rfl
   obtain ⟨g,hg,hs⟩:=HP.out.st (KeptS.refl _ _) hzk
   cases hg
   have HS:=hidK hs;clear hs hzk HP;go_wp2_with fail;refine (toNode_any v.n v.z v.c v.s v.u v.d va vl vc v.zs _ HT.out hvl2).mono ?_;rintro e w2 ⟨rfl,hG,hb2⟩;have HB2:=upB HB hb2;have h1 : StJ w.heap.size 7 56 (fun k => w.heap.size ≤ k) (fun k => wr.heap.size ≤ k) wr w2 ((xs.take k ++ (List.replicate len ndZ).drop k).map ndF) k [.s ndZ.n,.s ndZ.z,.i ndZ.c,.i ndZ.s,.i ndZ.u,.b ndZ.d,.l ndZ.zs]:=HS.out.fresh hb2
   have hL : LOwn w2 (wr.heap.size + 1 + 1 + 1) (fun k => w.heap.size ≤ k) w.heap.size v.zs (.slice (some ⟨wr.heap.size + 1 + 1 + 1,0,none⟩) vl vl):=by
    have hgl:=lt_of_some (HS.out.own.choose_spec.choose_spec.1.blk);refine ⟨_,_,_,rfl,HVZ.out,Nat.le_refl _,by omega,HT.out.2.2.2.1,.inr ⟨rfl,by show w.heap.size ≤ _;omega,by omega,_,hG,fun j x hx => ?_⟩⟩
    simp [hx]
   have HL:=hidK hL;clear hG hL;obtain ⟨q0,e0⟩:=h1.cell (i:=0) rfl;have f0:=h1.fro (k * 7);obtain ⟨q1,e1⟩:=h1.cell (i:=1) rfl;have f1:=h1.fro (k * 7 + 1);obtain ⟨q2,e2⟩:=h1.cell (i:=2) rfl;have f2:=h1.fro (k * 7 + 2);obtain ⟨q3,e3⟩:=h1.cell (i:=3) rfl;have f3:=h1.fro (k * 7 + 3);obtain ⟨q4,e4⟩:=h1.cell (i:=4) rfl;have f4:=h1.fro (k * 7 + 4);obtain ⟨q5,e5⟩:=h1.cell (i:=5) rfl;have f5:=h1.fro (k * 7 + 5);obtain ⟨q6,e6⟩:=h1.cell (i:=6) rfl;have f6:=h1.fro (k * 7 + 6);rw [Nat.add_zero] at e0;have HZ:=hidK ((((((((h1).setS (i:=0) rfl v.n Hz0.out).setS (i:=1) rfl v.z Hz1.out).setI (i:=2) rfl v.c).setI (i:=3) rfl v.s).setI (i:=4) rfl v.u).setB (i:=5) rfl v.d).setL (i:=6) rfl v.zs (fun _ => by show wr.heap.size ≤ _;omega) (Fv.Own.set_cell (u:=.l v.zs) (Fv.Own.set_cell (u:=.l v.zs) (Fv.Own.set_cell (u:=.l v.zs) (Fv.Own.set_cell (u:=.l v.zs) (Fv.Own.set_cell (u:=.l v.zs) (Fv.Own.set_cell (u:=.l v.zs) (HL.out))))))));clear h1 hb2 c0 c1 c2 c3 c4 c5 c6 hb;go_wp2_with fail;refine ⟨⟨k + 1,by omega,by go_num,?_,set_below (Nat.le_refl _) (set_below (Nat.le_refl _) (set_below (Nat.le_refl _) (set_below (Nat.le_refl _) (set_below (Nat.le_refl _) (set_below (Nat.le_refl _) (set_below (Nat.le_refl _) (HB2.out)))))))⟩,by simp [intOf];omega⟩;obtain ⟨⟨cur,H,h2,-⟩,-,-⟩:=HZ.out
   have h3 : (((xs.take k ++ (List.replicate len ndZ).drop k).map ndF).set k (ndF v)) = (xs.take (k + 1) ++ (List.replicate len ndZ).drop (k + 1)).map ndF:=by
    rw [← List.map_set,take_drop_set hZl HV.out]
   have h4 : ROwnAt _ w.heap.size 7 56 (((xs.take k ++ (List.replicate len ndZ).drop k).map ndF).set k (ndF v)) (fun k => w.heap.size ≤ k) cur H:=h2;rw [h3] at h4;exact ⟨by rw [List.length_map,take_drop_len hZl (by omega)];simp,Nat.le_refl _,by omega,.inr ⟨_,cur,H,rfl,h4⟩⟩
  ·obtain rfl : len = k:=by omega
   go_wp2
   go_ret;refine ⟨rfl,?_,HB.out⟩;have h5:=HP.out;rw [List.take_of_length_le (by omega),List.drop_of_length_le (by simp),List.append_nil] at h5;exact h5

theorem infokd : (Tryz.prog.info? 106).map (fun i => (i.zero,i.size,i.bytes)) = some (some (.agg #[.string ⟨#[]⟩,.bool false,.bool false,.string ⟨#[]⟩]),4,40):=by kernel_rfl
def kdZ : Kd:=⟨⟨#[]⟩,false,false,⟨#[]⟩⟩

theorem madekd {w : World} {g len : Nat} (h : w.heap[g]? = some (.cells (madeCells #[.string ⟨#[]⟩,.bool false,.bool false,.string ⟨#[]⟩] (len * 4)) 106 (0,0))) (hl : len ≤ 1048576) (S : Nat → Prop) (hS : S g) :
  ROwn w (some ⟨g,0,none⟩) len len 4 106 ((List.replicate len kdZ).map kdF) S:=by
 refine ⟨by simp,Nat.le_refl _,by omega,.inr ⟨g,_,fun _ _ => 0,rfl,h,hS,?_,?_,?_⟩⟩
 ·intro j r hr;rw [List.getElem?_map] at hr;obtain ⟨x,hx,rfl⟩:=Option.map_eq_some_iff.1 hr
  rfl
 ·intro j r hr i f hi;rw [List.getElem?_map] at hr;obtain ⟨x,hx,rfl⟩:=Option.map_eq_some_iff.1 hr
  have hj : j < len:=by have:=(List.getElem?_eq_some_iff.1 hx).1;simpa using this
  obtain rfl : x = kdZ:=by
   obtain ⟨h1,h2⟩:=List.getElem?_eq_some_iff.1 hx
   simpa using h2.symm
  have him : i < 4:=(List.getElem?_eq_some_iff.1 hi).1
  have hlt : j * 4 + i < len * 4:=by omega
  have hcell : (madeCells #[.string ⟨#[]⟩,.bool false,.bool false,.string ⟨#[]⟩] (len * 4))[j * 4 + i]? = some (#[.string ⟨#[]⟩,.bool false,.bool false,.string ⟨#[]⟩][i]!):=by
   unfold madeCells;rw [Array.getElem?_map,Array.getElem?_range];rw [if_pos hlt]
   have : (j * 4 + i) % 4 = i:=by omega
   simp [this]
  refine ⟨_,hcell,?_⟩
  rcases i with _ | _ | _ | _ | i
  ·cases hi;exact ⟨rfl,by decide⟩
  ·cases hi;exact rfl
  ·cases hi;exact rfl
  ·cases hi;exact ⟨rfl,by decide⟩
  ·omega
 ·intro j r i zs j' r' i' zs' hr hi hz
  exfalso
  rw [List.getElem?_map] at hr;obtain ⟨x,hx,rfl⟩:=Option.map_eq_some_iff.1 hr
  obtain rfl : x = kdZ:=by
   obtain ⟨h1,h2⟩:=List.getElem?_eq_some_iff.1 hx
   simpa using h2.symm
  have him : i < 4:=(List.getElem?_eq_some_iff.1 hi).1
  rcases i with _ | _ | _ | _ | i
  ·cases hi
  ·cases hi
  ·cases hi
  ·cases hi
  ·omega

theorem tokd_any (a : Option Addr) (len cap : Nat) (xs : List Kd) (w : World) (hr : RRow w a len cap 4 (xs.map kdF)) (hl : len ≤ 1048576) :
  Calls Tryz.prog 26 #[.slice a len cap] w fun e w' => e = .returned (.slice (some ⟨w.heap.size,0,none⟩) len len) ∧ ROwn w' (some ⟨w.heap.size,0,none⟩) len len 4 106 (xs.map kdF) (fun k => w.heap.size ≤ k) ∧ Below w.heap.size w w':=by
 have HR:=hidK hr
 have hvl : xs.length = len:=by simpa using hr.1
 skip
 clear hr;obtain ⟨i0,hi,hz0,hz1,hz2⟩:=info_parts infokd
 go_enter Tryz.func26,Tryz.ntmps26
 go_wp2_with (at_make;refine wpList_make_full _ rfl _ _ 31 rfl w.heap.size 106 i0 (.agg #[.string ⟨#[]⟩,.bool false,.bool false,.string ⟨#[]⟩]) 4 Tryz.underlying31 hi hz0 hz1 _ _ _ _ len rfl rfl (by omega) (by omega) (by rw [hz2];omega) (by unfold maxLen;omega) (Nat.le_refl _) ?_)
 intro w1 hown hgrow;have hnx1:=(Below.refl _ _).grown hgrow (Nat.le_refl _) (fun k hk => by cases hk);have HB : Hid (Below w.heap.size w w1):=hnx1
 have hc1 : w1.heap[w.heap.size]? = some (.cells (madeCells #[.string ⟨#[]⟩,.bool false,.bool false,.string ⟨#[]⟩] (len * 4)) 106 (0,0)):=by
  obtain ⟨h1,h2⟩:=hown
  rcases h2 with ⟨h3,_⟩ | ⟨g',cap',cur,hv,hB,hh,_,_,hsz,htk⟩
  ·cases h3
  ·simp only [Value.slice.injEq,Option.some.injEq,Addr.mk.injEq] at hv;obtain ⟨⟨rfl,_,_⟩,_,rfl⟩:=hv;rw [List.take_of_length_le (by simp [hsz])] at htk
   have : cur = madeCells #[.string ⟨#[]⟩,.bool false,.bool false,.string ⟨#[]⟩] (len * 4):=by apply Array.ext';simpa using htk
   rw [this] at hh
   simpa using hh
 have HP : Hid (ROwn w1 (some ⟨w.heap.size,0,none⟩) len len 4 106 ((xs.take 0 ++ (List.replicate len kdZ).drop 0).map kdF) (fun k => w.heap.size ≤ k)):=by
  have:=madekd hc1 hl (fun k => w.heap.size ≤ k) (Nat.le_refl _)
  simpa [Hid] using this
 have hZl : xs.length = (List.replicate len kdZ).length:=by simpa using hvl
 clear hown hgrow hi hz0 hz1 hz2 hnx1 hc1
 go_wp2
 go_loopw [4] (fun i wr => ∃ k : Nat,k ≤ len ∧ i = .int .i64 k ∧ Hid (ROwn wr (some ⟨w.heap.size,0,none⟩) len len 4 106 ((xs.take k ++ (List.replicate len kdZ).drop k).map kdF) (fun k => w.heap.size ≤ k)) ∧ Hid (Below w.heap.size w wr)) (fun i _ => len - (intOf i).toNat)
 case atStart => exact ⟨0,by omega,rfl,HP,HB⟩
 case round =>
  obtain ⟨k,hk,rfl,HP,HB⟩:=hrel
  by_cases hlt : k < len
  ·obtain ⟨b,o,v,rfl,hb,hv,hat⟩:=kd_at (HR.out.below HB.out) hlt;obtain ⟨z0,z3,c0,c1,c2,c3⟩:=kd_cells hat;have HV:=hidK hv;have Hz0:=hidK z0;have Hz3:=hidK z3;clear hat hv z0 z3
   have hzk : ((xs.take k ++ (List.replicate len kdZ).drop k).map kdF)[k]? = some (kdF kdZ):=by
    rw [List.getElem?_map,take_drop_at hZl (by omega),List.getElem?_replicate,if_pos hlt]
    rfl
   obtain ⟨g,hg,hs⟩:=HP.out.st (KeptS.refl _ _) hzk
   cases hg
   have HS:=hidK hs;clear hs hzk HP;go_wp2_with fail;refine (toClass_any v.n v.x v.y v.z _).mono ?_;rintro e w2 ⟨rfl,hb2⟩;have HB2:=upB HB hb2;have h1 : StJ w.heap.size 4 106 (fun k => w.heap.size ≤ k) (fun k => wr.heap.size ≤ k) wr w2 ((xs.take k ++ (List.replicate len kdZ).drop k).map kdF) k [.s kdZ.n,.b kdZ.x,.b kdZ.y,.s kdZ.z]:=HS.out.fresh hb2;obtain ⟨q0,e0⟩:=h1.cell (i:=0) rfl;have f0:=h1.fro (k * 4);obtain ⟨q1,e1⟩:=h1.cell (i:=1) rfl;have f1:=h1.fro (k * 4 + 1);obtain ⟨q2,e2⟩:=h1.cell (i:=2) rfl;have f2:=h1.fro (k * 4 + 2);obtain ⟨q3,e3⟩:=h1.cell (i:=3) rfl;have f3:=h1.fro (k * 4 + 3);rw [Nat.add_zero] at e0;have HZ:=hidK (((((h1).setS (i:=0) rfl v.n Hz0.out).setB (i:=1) rfl v.x).setB (i:=2) rfl v.y).setS (i:=3) rfl v.z Hz3.out);clear h1 hb2 c0 c1 c2 c3 hb;go_wp2_with fail;refine ⟨⟨k + 1,by omega,by go_num,?_,set_below (Nat.le_refl _) (set_below (Nat.le_refl _) (set_below (Nat.le_refl _) (set_below (Nat.le_refl _) (HB2.out))))⟩,by simp [intOf];omega⟩;obtain ⟨⟨cur,H,h2,-⟩,-,-⟩:=HZ.out
   have h3 : (((xs.take k ++ (List.replicate len kdZ).drop k).map kdF).set k (kdF v)) = (xs.take (k + 1) ++ (List.replicate len kdZ).drop (k + 1)).map kdF:=by
    rw [← List.map_set,take_drop_set hZl HV.out]
   have h4 : ROwnAt _ w.heap.size 4 106 (((xs.take k ++ (List.replicate len kdZ).drop k).map kdF).set k (kdF v)) (fun k => w.heap.size ≤ k) cur H:=h2;rw [h3] at h4;exact ⟨by rw [List.length_map,take_drop_len hZl (by omega)];simp,Nat.le_refl _,by omega,.inr ⟨_,cur,H,rfl,h4⟩⟩
  ·obtain rfl : len = k:=by omega
   go_wp2
   go_ret;refine ⟨rfl,?_,HB.out⟩;have h5:=HP.out;rw [List.take_of_length_le (by omega),List.drop_of_length_le (by simp),List.append_nil] at h5;exact h5

theorem infovd : (Tryz.prog.info? 101).map (fun i => (i.zero,i.size,i.bytes)) = some (some (.agg #[.string ⟨#[]⟩,.int .i64 0,.string ⟨#[]⟩,.string ⟨#[]⟩,.bool false,.string ⟨#[]⟩,.bool false,.slice none 0 0]),8,112):=by kernel_rfl
def vdZ : Vd:=⟨⟨#[]⟩,0,⟨#[]⟩,⟨#[]⟩,false,⟨#[]⟩,false,[]⟩

theorem madevd {w : World} {g len : Nat} (h : w.heap[g]? = some (.cells (madeCells #[.string ⟨#[]⟩,.int .i64 0,.string ⟨#[]⟩,.string ⟨#[]⟩,.bool false,.string ⟨#[]⟩,.bool false,.slice none 0 0] (len * 8)) 101 (0,0))) (hl : len ≤ 1048576) (S : Nat → Prop) (hS : S g) :
  ROwn w (some ⟨g,0,none⟩) len len 8 101 ((List.replicate len vdZ).map vdF) S:=by
 refine ⟨by simp,Nat.le_refl _,by omega,.inr ⟨g,_,fun _ _ => 0,rfl,h,hS,?_,?_,?_⟩⟩
 ·intro j r hr;rw [List.getElem?_map] at hr;obtain ⟨x,hx,rfl⟩:=Option.map_eq_some_iff.1 hr
  rfl
 ·intro j r hr i f hi;rw [List.getElem?_map] at hr;obtain ⟨x,hx,rfl⟩:=Option.map_eq_some_iff.1 hr
  have hj : j < len:=by have:=(List.getElem?_eq_some_iff.1 hx).1;simpa using this
  obtain rfl : x = vdZ:=by
   obtain ⟨h1,h2⟩:=List.getElem?_eq_some_iff.1 hx
   simpa using h2.symm
  have him : i < 8:=(List.getElem?_eq_some_iff.1 hi).1
  have hlt : j * 8 + i < len * 8:=by omega
  have hcell : (madeCells #[.string ⟨#[]⟩,.int .i64 0,.string ⟨#[]⟩,.string ⟨#[]⟩,.bool false,.string ⟨#[]⟩,.bool false,.slice none 0 0] (len * 8))[j * 8 + i]? = some (#[.string ⟨#[]⟩,.int .i64 0,.string ⟨#[]⟩,.string ⟨#[]⟩,.bool false,.string ⟨#[]⟩,.bool false,.slice none 0 0][i]!):=by
   unfold madeCells;rw [Array.getElem?_map,Array.getElem?_range];rw [if_pos hlt]
   have : (j * 8 + i) % 8 = i:=by omega
   simp [this]
  refine ⟨_,hcell,?_⟩
  rcases i with _ | _ | _ | _ | _ | _ | _ | _ | i
  ·cases hi;exact ⟨rfl,by decide⟩
  ·cases hi;exact rfl
  ·cases hi;exact ⟨rfl,by decide⟩
  ·cases hi;exact ⟨rfl,by decide⟩
  ·cases hi;exact rfl
  ·cases hi;exact ⟨rfl,by decide⟩
  ·cases hi;exact rfl
  ·cases hi;exact ⟨none,0,0,rfl,rfl,Nat.le_refl _,by decide,fun j x hx => by simp [vdZ] at hx,.inl rfl⟩
  ·omega
 ·intro j r i zs j' r' i' zs' hr hi hz
  exfalso
  rw [List.getElem?_map] at hr;obtain ⟨x,hx,rfl⟩:=Option.map_eq_some_iff.1 hr
  obtain rfl : x = vdZ:=by
   obtain ⟨h1,h2⟩:=List.getElem?_eq_some_iff.1 hx
   simpa using h2.symm
  have him : i < 8:=(List.getElem?_eq_some_iff.1 hi).1
  rcases i with _ | _ | _ | _ | _ | _ | _ | _ | i
  ·cases hi
  ·cases hi
  ·cases hi
  ·cases hi
  ·cases hi
  ·cases hi
  ·cases hi
  ·cases hi;exact hz rfl
  ·omega

theorem tovd_any (a : Option Addr) (len cap : Nat) (xs : List Vd) (w : World) (hr : RRow w a len cap 8 (xs.map vdF)) (hl : len ≤ 1048576) (hf : ∀ (j : Nat) x,xs[j]? = some x → x.zs.length ≤ 1048576) :
  Calls Tryz.prog 27 #[.slice a len cap] w fun e w' => e = .returned (.slice (some ⟨w.heap.size,0,none⟩) len len) ∧ ROwn w' (some ⟨w.heap.size,0,none⟩) len len 8 101 (xs.map vdF) (fun k => w.heap.size ≤ k) ∧ Below w.heap.size w w':=by
 have HR:=hidK hr
 have hvl : xs.length = len:=by simpa using hr.1
 have HF:=hidK hf;clear hr hf;obtain ⟨i0,hi,hz0,hz1,hz2⟩:=info_parts infovd
 go_enter Tryz.func27,Tryz.ntmps27
 go_wp2_with (at_make;refine wpList_make_full _ rfl _ _ 32 rfl w.heap.size 101 i0 (.agg #[.string ⟨#[]⟩,.int .i64 0,.string ⟨#[]⟩,.string ⟨#[]⟩,.bool false,.string ⟨#[]⟩,.bool false,.slice none 0 0]) 8 Tryz.underlying32 hi hz0 hz1 _ _ _ _ len rfl rfl (by omega) (by omega) (by rw [hz2];omega) (by unfold maxLen;omega) (Nat.le_refl _) ?_)
 intro w1 hown hgrow;have hnx1:=(Below.refl _ _).grown hgrow (Nat.le_refl _) (fun k hk => by cases hk);have HB : Hid (Below w.heap.size w w1):=hnx1
 have hc1 : w1.heap[w.heap.size]? = some (.cells (madeCells #[.string ⟨#[]⟩,.int .i64 0,.string ⟨#[]⟩,.string ⟨#[]⟩,.bool false,.string ⟨#[]⟩,.bool false,.slice none 0 0] (len * 8)) 101 (0,0)):=by
  obtain ⟨h1,h2⟩:=hown
  rcases h2 with ⟨h3,_⟩ | ⟨g',cap',cur,hv,hB,hh,_,_,hsz,htk⟩
  ·cases h3
  ·simp only [Value.slice.injEq,Option.some.injEq,Addr.mk.injEq] at hv;obtain ⟨⟨rfl,_,_⟩,_,rfl⟩:=hv;rw [List.take_of_length_le (by simp [hsz])] at htk
   have : cur = madeCells #[.string ⟨#[]⟩,.int .i64 0,.string ⟨#[]⟩,.string ⟨#[]⟩,.bool false,.string ⟨#[]⟩,.bool false,.slice none 0 0] (len * 8):=by apply Array.ext';simpa using htk
   rw [this] at hh
   simpa using hh
 have HP : Hid (ROwn w1 (some ⟨w.heap.size,0,none⟩) len len 8 101 ((xs.take 0 ++ (List.replicate len vdZ).drop 0).map vdF) (fun k => w.heap.size ≤ k)):=by
  have:=madevd hc1 hl (fun k => w.heap.size ≤ k) (Nat.le_refl _)
  simpa [Hid] using this
 have hZl : xs.length = (List.replicate len vdZ).length:=by simpa using hvl
 clear hown hgrow hi hz0 hz1 hz2 hnx1 hc1
 go_wp2
 go_loopw [4] (fun i wr => ∃ k : Nat,k ≤ len ∧ i = .int .i64 k ∧ Hid (ROwn wr (some ⟨w.heap.size,0,none⟩) len len 8 101 ((xs.take k ++ (List.replicate len vdZ).drop k).map vdF) (fun k => w.heap.size ≤ k)) ∧ Hid (Below w.heap.size w wr)) (fun i _ => len - (intOf i).toNat)
 case atStart => exact ⟨0,by omega,rfl,HP,HB⟩
 case round =>
  obtain ⟨k,hk,rfl,HP,HB⟩:=hrel
  by_cases hlt : k < len
  ·obtain ⟨b,o,v,rfl,hb,hv,hat⟩:=vd_at (HR.out.below HB.out) hlt;obtain ⟨va,vl,vc,hvr,z0,z2,z3,z5,c0,c1,c2,c3,c4,c5,c6,c7⟩:=vd_cells hat;have HV:=hidK hv;have Hz0:=hidK z0;have Hz2:=hidK z2;have Hz3:=hidK z3;have Hz5:=hidK z5;have HT:=hidK hvr
   have hvl2 : vl ≤ 1048576:=by have:=HF.out k v hv;rw [hvr.1] at this;exact this
   have hvz:=hvr.1;have HVZ:=hidK hvz;clear hvr hvz;clear hat hv z0 z2 z3 z5
   have hzk : ((xs.take k ++ (List.replicate len vdZ).drop k).map vdF)[k]? = some (vdF vdZ):=by
    rw [List.getElem?_map,take_drop_at hZl (by omega),List.getElem?_replicate,if_pos hlt]
    rfl
   obtain ⟨g,hg,hs⟩:=HP.out.st (KeptS.refl _ _) hzk
   cases hg
   have HS:=hidK hs;clear hs hzk HP;go_wp2_with fail;refine (toVolume_any v.n v.c v.z v.k v.x v.m v.y va vl vc v.zs _ HT.out hvl2).mono ?_;rintro e w2 ⟨rfl,hG,hb2⟩;have HB2:=upB HB hb2;have h1 : StJ w.heap.size 8 101 (fun k => w.heap.size ≤ k) (fun k => wr.heap.size ≤ k) wr w2 ((xs.take k ++ (List.replicate len vdZ).drop k).map vdF) k [.s vdZ.n,.i vdZ.c,.s vdZ.z,.s vdZ.k,.b vdZ.x,.s vdZ.m,.b vdZ.y,.l vdZ.zs]:=HS.out.fresh hb2
   have hL : LOwn w2 (wr.heap.size + 1 + 1 + 1) (fun k => w.heap.size ≤ k) w.heap.size v.zs (.slice (some ⟨wr.heap.size + 1 + 1 + 1,0,none⟩) vl vl):=by
    have hgl:=lt_of_some (HS.out.own.choose_spec.choose_spec.1.blk);refine ⟨_,_,_,rfl,HVZ.out,Nat.le_refl _,by omega,HT.out.2.2.2.1,.inr ⟨rfl,by show w.heap.size ≤ _;omega,by omega,_,hG,fun j x hx => ?_⟩⟩
    simp [hx]
   have HL:=hidK hL;clear hG hL;obtain ⟨q0,e0⟩:=h1.cell (i:=0) rfl;have f0:=h1.fro (k * 8);obtain ⟨q1,e1⟩:=h1.cell (i:=1) rfl;have f1:=h1.fro (k * 8 + 1);obtain ⟨q2,e2⟩:=h1.cell (i:=2) rfl;have f2:=h1.fro (k * 8 + 2);obtain ⟨q3,e3⟩:=h1.cell (i:=3) rfl;have f3:=h1.fro (k * 8 + 3);obtain ⟨q4,e4⟩:=h1.cell (i:=4) rfl;have f4:=h1.fro (k * 8 + 4);obtain ⟨q5,e5⟩:=h1.cell (i:=5) rfl;have f5:=h1.fro (k * 8 + 5);obtain ⟨q6,e6⟩:=h1.cell (i:=6) rfl;have f6:=h1.fro (k * 8 + 6);obtain ⟨q7,e7⟩:=h1.cell (i:=7) rfl;have f7:=h1.fro (k * 8 + 7);rw [Nat.add_zero] at e0;have HZ:=hidK (((((((((h1).setS (i:=0) rfl v.n Hz0.out).setI (i:=1) rfl v.c).setS (i:=2) rfl v.z Hz2.out).setS (i:=3) rfl v.k Hz3.out).setB (i:=4) rfl v.x).setS (i:=5) rfl v.m Hz5.out).setB (i:=6) rfl v.y).setL (i:=7) rfl v.zs (fun _ => by show wr.heap.size ≤ _;omega) (Fv.Own.set_cell (u:=.l v.zs) (Fv.Own.set_cell (u:=.l v.zs) (Fv.Own.set_cell (u:=.l v.zs) (Fv.Own.set_cell (u:=.l v.zs) (Fv.Own.set_cell (u:=.l v.zs) (Fv.Own.set_cell (u:=.l v.zs) (Fv.Own.set_cell (u:=.l v.zs) (HL.out)))))))));clear h1 hb2 c0 c1 c2 c3 c4 c5 c6 c7 hb;go_wp2_with fail;refine ⟨⟨k + 1,by omega,by go_num,?_,set_below (Nat.le_refl _) (set_below (Nat.le_refl _) (set_below (Nat.le_refl _) (set_below (Nat.le_refl _) (set_below (Nat.le_refl _) (set_below (Nat.le_refl _) (set_below (Nat.le_refl _) (set_below (Nat.le_refl _) (HB2.out))))))))⟩,by simp [intOf];omega⟩;obtain ⟨⟨cur,H,h2,-⟩,-,-⟩:=HZ.out
   have h3 : (((xs.take k ++ (List.replicate len vdZ).drop k).map vdF).set k (vdF v)) = (xs.take (k + 1) ++ (List.replicate len vdZ).drop (k + 1)).map vdF:=by
    rw [← List.map_set,take_drop_set hZl HV.out]
   have h4 : ROwnAt _ w.heap.size 8 101 (((xs.take k ++ (List.replicate len vdZ).drop k).map vdF).set k (vdF v)) (fun k => w.heap.size ≤ k) cur H:=h2;rw [h3] at h4;exact ⟨by rw [List.length_map,take_drop_len hZl (by omega)];simp,Nat.le_refl _,by omega,.inr ⟨_,cur,H,rfl,h4⟩⟩
  ·obtain rfl : len = k:=by omega
   go_wp2
   go_ret;refine ⟨rfl,?_,HB.out⟩;have h5:=HP.out;rw [List.take_of_length_le (by omega),List.drop_of_length_le (by simp),List.append_nil] at h5;exact h5

theorem infoxd : (Tryz.prog.info? 109).map (fun i => (i.zero,i.size,i.bytes)) = some (some (.agg #[.string ⟨#[]⟩,.int .i64 0,.string ⟨#[]⟩,.bool false,.string ⟨#[]⟩]),5,64):=by kernel_rfl
def xdZ : Xd:=⟨⟨#[]⟩,0,⟨#[]⟩,false,⟨#[]⟩⟩

theorem madexd {w : World} {g len : Nat} (h : w.heap[g]? = some (.cells (madeCells #[.string ⟨#[]⟩,.int .i64 0,.string ⟨#[]⟩,.bool false,.string ⟨#[]⟩] (len * 5)) 109 (0,0))) (hl : len ≤ 1048576) (S : Nat → Prop) (hS : S g) :
  ROwn w (some ⟨g,0,none⟩) len len 5 109 ((List.replicate len xdZ).map xdF) S:=by
 refine ⟨by simp,Nat.le_refl _,by omega,.inr ⟨g,_,fun _ _ => 0,rfl,h,hS,?_,?_,?_⟩⟩
 ·intro j r hr;rw [List.getElem?_map] at hr;obtain ⟨x,hx,rfl⟩:=Option.map_eq_some_iff.1 hr
  rfl
 ·intro j r hr i f hi;rw [List.getElem?_map] at hr;obtain ⟨x,hx,rfl⟩:=Option.map_eq_some_iff.1 hr
  have hj : j < len:=by have:=(List.getElem?_eq_some_iff.1 hx).1;simpa using this
  obtain rfl : x = xdZ:=by
   obtain ⟨h1,h2⟩:=List.getElem?_eq_some_iff.1 hx
   simpa using h2.symm
  have him : i < 5:=(List.getElem?_eq_some_iff.1 hi).1
  have hlt : j * 5 + i < len * 5:=by omega
  have hcell : (madeCells #[.string ⟨#[]⟩,.int .i64 0,.string ⟨#[]⟩,.bool false,.string ⟨#[]⟩] (len * 5))[j * 5 + i]? = some (#[.string ⟨#[]⟩,.int .i64 0,.string ⟨#[]⟩,.bool false,.string ⟨#[]⟩][i]!):=by
   unfold madeCells;rw [Array.getElem?_map,Array.getElem?_range];rw [if_pos hlt]
   have : (j * 5 + i) % 5 = i:=by omega
   simp [this]
  refine ⟨_,hcell,?_⟩
  rcases i with _ | _ | _ | _ | _ | i
  ·cases hi;exact ⟨rfl,by decide⟩
  ·cases hi;exact rfl
  ·cases hi;exact ⟨rfl,by decide⟩
  ·cases hi;exact rfl
  ·cases hi;exact ⟨rfl,by decide⟩
  ·omega
 ·intro j r i zs j' r' i' zs' hr hi hz
  exfalso
  rw [List.getElem?_map] at hr;obtain ⟨x,hx,rfl⟩:=Option.map_eq_some_iff.1 hr
  obtain rfl : x = xdZ:=by
   obtain ⟨h1,h2⟩:=List.getElem?_eq_some_iff.1 hx
   simpa using h2.symm
  have him : i < 5:=(List.getElem?_eq_some_iff.1 hi).1
  rcases i with _ | _ | _ | _ | _ | i
  ·cases hi
  ·cases hi
  ·cases hi
  ·cases hi
  ·cases hi
  ·omega

theorem toxd_any (a : Option Addr) (len cap : Nat) (xs : List Xd) (w : World) (hr : RRow w a len cap 5 (xs.map xdF)) (hl : len ≤ 1048576) :
  Calls Tryz.prog 28 #[.slice a len cap] w fun e w' => e = .returned (.slice (some ⟨w.heap.size,0,none⟩) len len) ∧ ROwn w' (some ⟨w.heap.size,0,none⟩) len len 5 109 (xs.map xdF) (fun k => w.heap.size ≤ k) ∧ Below w.heap.size w w':=by
 have HR:=hidK hr
 have hvl : xs.length = len:=by simpa using hr.1
 skip
 clear hr;obtain ⟨i0,hi,hz0,hz1,hz2⟩:=info_parts infoxd
 go_enter Tryz.func28,Tryz.ntmps28
 go_wp2_with (at_make;refine wpList_make_full _ rfl _ _ 33 rfl w.heap.size 109 i0 (.agg #[.string ⟨#[]⟩,.int .i64 0,.string ⟨#[]⟩,.bool false,.string ⟨#[]⟩]) 5 Tryz.underlying33 hi hz0 hz1 _ _ _ _ len rfl rfl (by omega) (by omega) (by rw [hz2];omega) (by unfold maxLen;omega) (Nat.le_refl _) ?_)
 intro w1 hown hgrow;have hnx1:=(Below.refl _ _).grown hgrow (Nat.le_refl _) (fun k hk => by cases hk);have HB : Hid (Below w.heap.size w w1):=hnx1
 have hc1 : w1.heap[w.heap.size]? = some (.cells (madeCells #[.string ⟨#[]⟩,.int .i64 0,.string ⟨#[]⟩,.bool false,.string ⟨#[]⟩] (len * 5)) 109 (0,0)):=by
  obtain ⟨h1,h2⟩:=hown
  rcases h2 with ⟨h3,_⟩ | ⟨g',cap',cur,hv,hB,hh,_,_,hsz,htk⟩
  ·cases h3
  ·simp only [Value.slice.injEq,Option.some.injEq,Addr.mk.injEq] at hv;obtain ⟨⟨rfl,_,_⟩,_,rfl⟩:=hv;rw [List.take_of_length_le (by simp [hsz])] at htk
   have : cur = madeCells #[.string ⟨#[]⟩,.int .i64 0,.string ⟨#[]⟩,.bool false,.string ⟨#[]⟩] (len * 5):=by apply Array.ext';simpa using htk
   rw [this] at hh
   simpa using hh
 have HP : Hid (ROwn w1 (some ⟨w.heap.size,0,none⟩) len len 5 109 ((xs.take 0 ++ (List.replicate len xdZ).drop 0).map xdF) (fun k => w.heap.size ≤ k)):=by
  have:=madexd hc1 hl (fun k => w.heap.size ≤ k) (Nat.le_refl _)
  simpa [Hid] using this
 have hZl : xs.length = (List.replicate len xdZ).length:=by simpa using hvl
 clear hown hgrow hi hz0 hz1 hz2 hnx1 hc1
 go_wp2
 go_loopw [4] (fun i wr => ∃ k : Nat,k ≤ len ∧ i = .int .i64 k ∧ Hid (ROwn wr (some ⟨w.heap.size,0,none⟩) len len 5 109 ((xs.take k ++ (List.replicate len xdZ).drop k).map xdF) (fun k => w.heap.size ≤ k)) ∧ Hid (Below w.heap.size w wr)) (fun i _ => len - (intOf i).toNat)
 case atStart => exact ⟨0,by omega,rfl,HP,HB⟩
 case round =>
  obtain ⟨k,hk,rfl,HP,HB⟩:=hrel
  by_cases hlt : k < len
  ·obtain ⟨b,o,v,rfl,hb,hv,hat⟩:=xd_at (HR.out.below HB.out) hlt;obtain ⟨z0,z2,z4,c0,c1,c2,c3,c4⟩:=xd_cells hat;have HV:=hidK hv;have Hz0:=hidK z0;have Hz2:=hidK z2;have Hz4:=hidK z4;clear hat hv z0 z2 z4
   have hzk : ((xs.take k ++ (List.replicate len xdZ).drop k).map xdF)[k]? = some (xdF xdZ):=by
    rw [List.getElem?_map,take_drop_at hZl (by omega),List.getElem?_replicate,if_pos hlt]
    rfl
   obtain ⟨g,hg,hs⟩:=HP.out.st (KeptS.refl _ _) hzk
   cases hg
   have HS:=hidK hs;clear hs hzk HP;go_wp2_with fail;refine (toClaim_any v.n v.z v.k v.x v.v _).mono ?_;rintro e w2 ⟨rfl,hb2⟩;have HB2:=upB HB hb2;have h1 : StJ w.heap.size 5 109 (fun k => w.heap.size ≤ k) (fun k => wr.heap.size ≤ k) wr w2 ((xs.take k ++ (List.replicate len xdZ).drop k).map xdF) k [.s xdZ.n,.i xdZ.z,.s xdZ.k,.b xdZ.x,.s xdZ.v]:=HS.out.fresh hb2;obtain ⟨q0,e0⟩:=h1.cell (i:=0) rfl;have f0:=h1.fro (k * 5);obtain ⟨q1,e1⟩:=h1.cell (i:=1) rfl;have f1:=h1.fro (k * 5 + 1);obtain ⟨q2,e2⟩:=h1.cell (i:=2) rfl;have f2:=h1.fro (k * 5 + 2);obtain ⟨q3,e3⟩:=h1.cell (i:=3) rfl;have f3:=h1.fro (k * 5 + 3);obtain ⟨q4,e4⟩:=h1.cell (i:=4) rfl;have f4:=h1.fro (k * 5 + 4);rw [Nat.add_zero] at e0;have HZ:=hidK ((((((h1).setS (i:=0) rfl v.n Hz0.out).setI (i:=1) rfl v.z).setS (i:=2) rfl v.k Hz2.out).setB (i:=3) rfl v.x).setS (i:=4) rfl v.v Hz4.out);clear h1 hb2 c0 c1 c2 c3 c4 hb;go_wp2_with fail;refine ⟨⟨k + 1,by omega,by go_num,?_,set_below (Nat.le_refl _) (set_below (Nat.le_refl _) (set_below (Nat.le_refl _) (set_below (Nat.le_refl _) (set_below (Nat.le_refl _) (HB2.out)))))⟩,by simp [intOf];omega⟩;obtain ⟨⟨cur,H,h2,-⟩,-,-⟩:=HZ.out
   have h3 : (((xs.take k ++ (List.replicate len xdZ).drop k).map xdF).set k (xdF v)) = (xs.take (k + 1) ++ (List.replicate len xdZ).drop (k + 1)).map xdF:=by
    rw [← List.map_set,take_drop_set hZl HV.out]
   have h4 : ROwnAt _ w.heap.size 5 109 (((xs.take k ++ (List.replicate len xdZ).drop k).map xdF).set k (xdF v)) (fun k => w.heap.size ≤ k) cur H:=h2;rw [h3] at h4;exact ⟨by rw [List.length_map,take_drop_len hZl (by omega)];simp,Nat.le_refl _,by omega,.inr ⟨_,cur,H,rfl,h4⟩⟩
  ·obtain rfl : len = k:=by omega
   go_wp2
   go_ret;refine ⟨rfl,?_,HB.out⟩;have h5:=HP.out;rw [List.take_of_length_le (by omega),List.drop_of_length_le (by simp),List.append_nil] at h5;exact h5

theorem infopd : (Tryz.prog.info? 103).map (fun i => (i.zero,i.size,i.bytes)) = some (some (.agg #[.string ⟨#[]⟩,.int .i64 0,.string ⟨#[]⟩,.slice none 0 0,.string ⟨#[]⟩,.int .i64 0]),6,88):=by kernel_rfl
def pdZ : Pd:=⟨⟨#[]⟩,0,⟨#[]⟩,[],⟨#[]⟩,0⟩

theorem madepd {w : World} {g len : Nat} (h : w.heap[g]? = some (.cells (madeCells #[.string ⟨#[]⟩,.int .i64 0,.string ⟨#[]⟩,.slice none 0 0,.string ⟨#[]⟩,.int .i64 0] (len * 6)) 103 (0,0))) (hl : len ≤ 1048576) (S : Nat → Prop) (hS : S g) :
  ROwn w (some ⟨g,0,none⟩) len len 6 103 ((List.replicate len pdZ).map pdF) S:=by
 refine ⟨by simp,Nat.le_refl _,by omega,.inr ⟨g,_,fun _ _ => 0,rfl,h,hS,?_,?_,?_⟩⟩
 ·intro j r hr;rw [List.getElem?_map] at hr;obtain ⟨x,hx,rfl⟩:=Option.map_eq_some_iff.1 hr
  rfl
 ·intro j r hr i f hi;rw [List.getElem?_map] at hr;obtain ⟨x,hx,rfl⟩:=Option.map_eq_some_iff.1 hr
  have hj : j < len:=by have:=(List.getElem?_eq_some_iff.1 hx).1;simpa using this
  obtain rfl : x = pdZ:=by
   obtain ⟨h1,h2⟩:=List.getElem?_eq_some_iff.1 hx
   simpa using h2.symm
  have him : i < 6:=(List.getElem?_eq_some_iff.1 hi).1
  have hlt : j * 6 + i < len * 6:=by omega
  have hcell : (madeCells #[.string ⟨#[]⟩,.int .i64 0,.string ⟨#[]⟩,.slice none 0 0,.string ⟨#[]⟩,.int .i64 0] (len * 6))[j * 6 + i]? = some (#[.string ⟨#[]⟩,.int .i64 0,.string ⟨#[]⟩,.slice none 0 0,.string ⟨#[]⟩,.int .i64 0][i]!):=by
   unfold madeCells;rw [Array.getElem?_map,Array.getElem?_range];rw [if_pos hlt]
   have : (j * 6 + i) % 6 = i:=by omega
   simp [this]
  refine ⟨_,hcell,?_⟩
  rcases i with _ | _ | _ | _ | _ | _ | i
  ·cases hi;exact ⟨rfl,by decide⟩
  ·cases hi;exact rfl
  ·cases hi;exact ⟨rfl,by decide⟩
  ·cases hi;exact ⟨none,0,0,rfl,rfl,Nat.le_refl _,by decide,fun j x hx => by simp [pdZ] at hx,.inl rfl⟩
  ·cases hi;exact ⟨rfl,by decide⟩
  ·cases hi;exact rfl
  ·omega
 ·intro j r i zs j' r' i' zs' hr hi hz
  exfalso
  rw [List.getElem?_map] at hr;obtain ⟨x,hx,rfl⟩:=Option.map_eq_some_iff.1 hr
  obtain rfl : x = pdZ:=by
   obtain ⟨h1,h2⟩:=List.getElem?_eq_some_iff.1 hx
   simpa using h2.symm
  have him : i < 6:=(List.getElem?_eq_some_iff.1 hi).1
  rcases i with _ | _ | _ | _ | _ | _ | i
  ·cases hi
  ·cases hi
  ·cases hi
  ·cases hi;exact hz rfl
  ·cases hi
  ·cases hi
  ·omega

theorem topd_any (a : Option Addr) (len cap : Nat) (xs : List Pd) (w : World) (hr : RRow w a len cap 6 (xs.map pdF)) (hl : len ≤ 1048576) (hf : ∀ (j : Nat) x,xs[j]? = some x → x.zs.length ≤ 1048576) :
  Calls Tryz.prog 29 #[.slice a len cap] w fun e w' => e = .returned (.slice (some ⟨w.heap.size,0,none⟩) len len) ∧ ROwn w' (some ⟨w.heap.size,0,none⟩) len len 6 103 (xs.map pdF) (fun k => w.heap.size ≤ k) ∧ Below w.heap.size w w':=by
 have HR:=hidK hr
 have hvl : xs.length = len:=by simpa using hr.1
 have HF:=hidK hf;clear hr hf;obtain ⟨i0,hi,hz0,hz1,hz2⟩:=info_parts infopd
 go_enter Tryz.func29,Tryz.ntmps29
 go_wp2_with (at_make;refine wpList_make_full _ rfl _ _ 34 rfl w.heap.size 103 i0 (.agg #[.string ⟨#[]⟩,.int .i64 0,.string ⟨#[]⟩,.slice none 0 0,.string ⟨#[]⟩,.int .i64 0]) 6 Tryz.underlying34 hi hz0 hz1 _ _ _ _ len rfl rfl (by omega) (by omega) (by rw [hz2];omega) (by unfold maxLen;omega) (Nat.le_refl _) ?_)
 intro w1 hown hgrow;have hnx1:=(Below.refl _ _).grown hgrow (Nat.le_refl _) (fun k hk => by cases hk);have HB : Hid (Below w.heap.size w w1):=hnx1
 have hc1 : w1.heap[w.heap.size]? = some (.cells (madeCells #[.string ⟨#[]⟩,.int .i64 0,.string ⟨#[]⟩,.slice none 0 0,.string ⟨#[]⟩,.int .i64 0] (len * 6)) 103 (0,0)):=by
  obtain ⟨h1,h2⟩:=hown
  rcases h2 with ⟨h3,_⟩ | ⟨g',cap',cur,hv,hB,hh,_,_,hsz,htk⟩
  ·cases h3
  ·simp only [Value.slice.injEq,Option.some.injEq,Addr.mk.injEq] at hv;obtain ⟨⟨rfl,_,_⟩,_,rfl⟩:=hv;rw [List.take_of_length_le (by simp [hsz])] at htk
   have : cur = madeCells #[.string ⟨#[]⟩,.int .i64 0,.string ⟨#[]⟩,.slice none 0 0,.string ⟨#[]⟩,.int .i64 0] (len * 6):=by apply Array.ext';simpa using htk
   rw [this] at hh
   simpa using hh
 have HP : Hid (ROwn w1 (some ⟨w.heap.size,0,none⟩) len len 6 103 ((xs.take 0 ++ (List.replicate len pdZ).drop 0).map pdF) (fun k => w.heap.size ≤ k)):=by
  have:=madepd hc1 hl (fun k => w.heap.size ≤ k) (Nat.le_refl _)
  simpa [Hid] using this
 have hZl : xs.length = (List.replicate len pdZ).length:=by simpa using hvl
 clear hown hgrow hi hz0 hz1 hz2 hnx1 hc1
 go_wp2
 go_loopw [4] (fun i wr => ∃ k : Nat,k ≤ len ∧ i = .int .i64 k ∧ Hid (ROwn wr (some ⟨w.heap.size,0,none⟩) len len 6 103 ((xs.take k ++ (List.replicate len pdZ).drop k).map pdF) (fun k => w.heap.size ≤ k)) ∧ Hid (Below w.heap.size w wr)) (fun i _ => len - (intOf i).toNat)
 case atStart => exact ⟨0,by omega,rfl,HP,HB⟩
 case round =>
  obtain ⟨k,hk,rfl,HP,HB⟩:=hrel
  by_cases hlt : k < len
  ·obtain ⟨b,o,v,rfl,hb,hv,hat⟩:=pd_at (HR.out.below HB.out) hlt;obtain ⟨va,vl,vc,hvr,z0,z2,z4,c0,c1,c2,c3,c4,c5⟩:=pd_cells hat;have HV:=hidK hv;have Hz0:=hidK z0;have Hz2:=hidK z2;have Hz4:=hidK z4;have HT:=hidK hvr
   have hvl2 : vl ≤ 1048576:=by have:=HF.out k v hv;rw [hvr.1] at this;exact this
   have hvz:=hvr.1;have HVZ:=hidK hvz;clear hvr hvz;clear hat hv z0 z2 z4
   have hzk : ((xs.take k ++ (List.replicate len pdZ).drop k).map pdF)[k]? = some (pdF pdZ):=by
    rw [List.getElem?_map,take_drop_at hZl (by omega),List.getElem?_replicate,if_pos hlt]
    rfl
   obtain ⟨g,hg,hs⟩:=HP.out.st (KeptS.refl _ _) hzk
   cases hg
   have HS:=hidK hs;clear hs hzk HP;go_wp2_with fail;refine (toPod_any v.n v.c v.z va vl vc v.zs v.d v.p _ HT.out hvl2).mono ?_;rintro e w2 ⟨rfl,hG,hb2⟩;have HB2:=upB HB hb2;have h1 : StJ w.heap.size 6 103 (fun k => w.heap.size ≤ k) (fun k => wr.heap.size ≤ k) wr w2 ((xs.take k ++ (List.replicate len pdZ).drop k).map pdF) k [.s pdZ.n,.i pdZ.c,.s pdZ.z,.l pdZ.zs,.s pdZ.d,.i pdZ.p]:=HS.out.fresh hb2
   have hL : LOwn w2 (wr.heap.size + 1 + 1 + 1) (fun k => w.heap.size ≤ k) w.heap.size v.zs (.slice (some ⟨wr.heap.size + 1 + 1 + 1,0,none⟩) vl vl):=by
    have hgl:=lt_of_some (HS.out.own.choose_spec.choose_spec.1.blk);refine ⟨_,_,_,rfl,HVZ.out,Nat.le_refl _,by omega,HT.out.2.2.2.1,.inr ⟨rfl,by show w.heap.size ≤ _;omega,by omega,_,hG,fun j x hx => ?_⟩⟩
    simp [hx]
   have HL:=hidK hL;clear hG hL;obtain ⟨q0,e0⟩:=h1.cell (i:=0) rfl;have f0:=h1.fro (k * 6);obtain ⟨q1,e1⟩:=h1.cell (i:=1) rfl;have f1:=h1.fro (k * 6 + 1);obtain ⟨q2,e2⟩:=h1.cell (i:=2) rfl;have f2:=h1.fro (k * 6 + 2);obtain ⟨q3,e3⟩:=h1.cell (i:=3) rfl;have f3:=h1.fro (k * 6 + 3);obtain ⟨q4,e4⟩:=h1.cell (i:=4) rfl;have f4:=h1.fro (k * 6 + 4);obtain ⟨q5,e5⟩:=h1.cell (i:=5) rfl;have f5:=h1.fro (k * 6 + 5);rw [Nat.add_zero] at e0;have HZ:=hidK (((((((h1).setS (i:=0) rfl v.n Hz0.out).setI (i:=1) rfl v.c).setS (i:=2) rfl v.z Hz2.out).setL (i:=3) rfl v.zs (fun _ => by show wr.heap.size ≤ _;omega) (Fv.Own.set_cell (u:=.l v.zs) (Fv.Own.set_cell (u:=.l v.zs) (Fv.Own.set_cell (u:=.l v.zs) (HL.out))))).setS (i:=4) rfl v.d Hz4.out).setI (i:=5) rfl v.p);clear h1 hb2 c0 c1 c2 c3 c4 c5 hb;go_wp2_with fail;refine ⟨⟨k + 1,by omega,by go_num,?_,set_below (Nat.le_refl _) (set_below (Nat.le_refl _) (set_below (Nat.le_refl _) (set_below (Nat.le_refl _) (set_below (Nat.le_refl _) (set_below (Nat.le_refl _) (HB2.out))))))⟩,by simp [intOf];omega⟩;obtain ⟨⟨cur,H,h2,-⟩,-,-⟩:=HZ.out
   have h3 : (((xs.take k ++ (List.replicate len pdZ).drop k).map pdF).set k (pdF v)) = (xs.take (k + 1) ++ (List.replicate len pdZ).drop (k + 1)).map pdF:=by
    rw [← List.map_set,take_drop_set hZl HV.out]
   have h4 : ROwnAt _ w.heap.size 6 103 (((xs.take k ++ (List.replicate len pdZ).drop k).map pdF).set k (pdF v)) (fun k => w.heap.size ≤ k) cur H:=h2;rw [h3] at h4;exact ⟨by rw [List.length_map,take_drop_len hZl (by omega)];simp,Nat.le_refl _,by omega,.inr ⟨_,cur,H,rfl,h4⟩⟩
  ·obtain rfl : len = k:=by omega
   go_wp2
   go_ret;refine ⟨rfl,?_,HB.out⟩;have h5:=HP.out;rw [List.take_of_length_le (by omega),List.drop_of_length_le (by simp),List.append_nil] at h5;exact h5

structure ClFit (c : Cl) : Prop where
 l1 : c.ns.length ≤ 1048576
 f1 : ∀ (j : Nat) x,c.ns[j]? = some x → x.zs.length ≤ 1048576
 l2 : c.ks.length ≤ 1048576
 l3 : c.vs.length ≤ 1048576
 f3 : ∀ (j : Nat) x,c.vs[j]? = some x → x.zs.length ≤ 1048576
 l4 : c.xs.length ≤ 1048576
 l5 : c.ps.length ≤ 1048576
 f5 : ∀ (j : Nat) x,c.ps[j]? = some x → x.zs.length ≤ 1048576

theorem szCluster_any (d : Ad) (c : Cl) (w : World) (hr : ClRow w d c.raw) :
  Calls Tryz.prog 5 #[.agg #[.slice d.a1 d.l1 d.c1,.slice d.a2 d.l2 d.c2,.slice d.a3 d.l3 d.c3,.slice d.a4 d.l4 d.c4,.slice d.a5 d.l5 d.c5,.int .i64 c.now],.int .i64 1048576] w (SzB 1048576 (ClFit c) w):=by
 have HR:=hidK hr;have HB:=hidK (Below.refl w.heap.size w);clear hr
 go_enter Tryz.func5,Tryz.ntmps5
 go_wp2_with fail;refine (sznd_any d.a1 d.l1 d.c1 c.ns 1048576 _ (HR.out.n.below (HB.out.trans ((below1 _ _).mono HB.out.size))) (by omega) (by omega)).mono ?_;rintro e w1 ⟨r1,rfl,hi,hb⟩;obtain ⟨HA0,hbx⟩:=slots1 hb;have Bk:=hidK HA0;replace HB:=upB HB hbx;clear hb hbx HA0
 rcases hi with rfl | ⟨hr10,hr11,hz1⟩
 ·obtain ⟨k0,k1,k2,k3,k4,k5⟩:=cs6 Bk.out
  go_wp2
  go_ret;exact ⟨-1,rfl,.inl rfl,HB.out⟩
 have HZ1:=hidK hz1;clear hz1;obtain ⟨k0,k1,k2,k3,k4,k5⟩:=cs6 Bk.out;go_wp2_with fail;refine (szkd_any d.a2 d.l2 d.c2 c.ks r1 _ (HR.out.k.below HB.out) (by omega) (by omega)).mono ?_;rintro e w2 ⟨r2,rfl,hi,hb⟩;clear k0 k1 k2 k3 k4 k5;replace Bk:=upK Bk hb;replace HB:=upB HB hb;clear hb
 rcases hi with rfl | ⟨hr20,hr21,hz2⟩
 ·obtain ⟨k0,k1,k2,k3,k4,k5⟩:=cs6 Bk.out
  go_wp2
  go_ret;exact ⟨-1,rfl,.inl rfl,HB.out⟩
 have HZ2:=hidK hz2;clear hz2;obtain ⟨k0,k1,k2,k3,k4,k5⟩:=cs6 Bk.out;go_wp2_with fail;refine (szvd_any d.a3 d.l3 d.c3 c.vs r2 _ (HR.out.v.below HB.out) (by omega) (by omega)).mono ?_;rintro e w3 ⟨r3,rfl,hi,hb⟩;clear k0 k1 k2 k3 k4 k5;replace Bk:=upK Bk hb;replace HB:=upB HB hb;clear hb
 rcases hi with rfl | ⟨hr30,hr31,hz3⟩
 ·obtain ⟨k0,k1,k2,k3,k4,k5⟩:=cs6 Bk.out
  go_wp2
  go_ret;exact ⟨-1,rfl,.inl rfl,HB.out⟩
 have HZ3:=hidK hz3;clear hz3;obtain ⟨k0,k1,k2,k3,k4,k5⟩:=cs6 Bk.out;go_wp2_with fail;refine (szxd_any d.a4 d.l4 d.c4 c.xs r3 _ (HR.out.x.below HB.out) (by omega) (by omega)).mono ?_;rintro e w4 ⟨r4,rfl,hi,hb⟩;clear k0 k1 k2 k3 k4 k5;replace Bk:=upK Bk hb;replace HB:=upB HB hb;clear hb
 rcases hi with rfl | ⟨hr40,hr41,hz4⟩
 ·obtain ⟨k0,k1,k2,k3,k4,k5⟩:=cs6 Bk.out
  go_wp2
  go_ret;exact ⟨-1,rfl,.inl rfl,HB.out⟩
 have HZ4:=hidK hz4;clear hz4;obtain ⟨k0,k1,k2,k3,k4,k5⟩:=cs6 Bk.out;go_wp2_with fail;refine (szpd_any d.a5 d.l5 d.c5 c.ps r4 _ (HR.out.p.below HB.out) (by omega) (by omega)).mono ?_;rintro e w5 ⟨r5,rfl,hi,hb⟩;clear k0 k1 k2 k3 k4 k5;replace Bk:=upK Bk hb;replace HB:=upB HB hb;clear hb
 rcases hi with rfl | ⟨hr50,hr51,hz5⟩
 ·obtain ⟨k0,k1,k2,k3,k4,k5⟩:=cs6 Bk.out
  go_wp2
  go_ret;exact ⟨-1,rfl,.inl rfl,HB.out⟩
 have HZ5:=hidK hz5;clear hz5
 go_wp2
 go_ret;refine ⟨r5,rfl,.inr ⟨by omega,by omega,?_⟩,HB.out⟩
 have e1 : c.ns.length = d.l1:=by simpa using (show (c.ns.map ndF).length = d.l1 from HR.out.n.1)
 have e2 : c.ks.length = d.l2:=by simpa using (show (c.ks.map kdF).length = d.l2 from HR.out.k.1)
 have e3 : c.vs.length = d.l3:=by simpa using (show (c.vs.map vdF).length = d.l3 from HR.out.v.1)
 have e4 : c.xs.length = d.l4:=by simpa using (show (c.xs.map xdF).length = d.l4 from HR.out.x.1)
 have e5 : c.ps.length = d.l5:=by simpa using (show (c.ps.map pdF).length = d.l5 from HR.out.p.1)
 exact ⟨by rw [e1];exact HZ1.out.1,HZ1.out.2,by rw [e2];exact HZ2.out,by rw [e3];exact HZ3.out.1,HZ3.out.2,by rw [e4];exact HZ4.out,by rw [e5];exact HZ5.out.1,HZ5.out.2⟩

theorem toCluster_any (d : Ad) (c : Cl) (w : World) (hr : ClRow w d c.raw) (hf : ClFit c) :
  Calls Tryz.prog 7 #[.agg #[.slice d.a1 d.l1 d.c1,.slice d.a2 d.l2 d.c2,.slice d.a3 d.l3 d.c3,.slice d.a4 d.l4 d.c4,.slice d.a5 d.l5 d.c5,.int .i64 c.now]] w fun e w' => ∃ d' : Ad,e = .returned (.agg #[.slice d'.a1 d'.l1 d'.c1,.slice d'.a2 d'.l2 d'.c2,.slice d'.a3 d'.l3 d'.c3,.slice d'.a4 d'.l4 d'.c4,.slice d'.a5 d'.l5 d'.c5,.int .i64 c.now]) ∧ ClOwn w' d' c.raw (fun k => w.heap.size ≤ k) ∧ Below w.heap.size w w':=by
 have HR:=hidK hr;have HF:=hidK hf
 have e1 : c.ns.length = d.l1:=by simpa using (show (c.ns.map ndF).length = d.l1 from hr.n.1)
 have hL1 : d.l1 ≤ 1048576:=by rw [← e1];exact hf.l1
 have e2 : c.ks.length = d.l2:=by simpa using (show (c.ks.map kdF).length = d.l2 from hr.k.1)
 have hL2 : d.l2 ≤ 1048576:=by rw [← e2];exact hf.l2
 have e3 : c.vs.length = d.l3:=by simpa using (show (c.vs.map vdF).length = d.l3 from hr.v.1)
 have hL3 : d.l3 ≤ 1048576:=by rw [← e3];exact hf.l3
 have e4 : c.xs.length = d.l4:=by simpa using (show (c.xs.map xdF).length = d.l4 from hr.x.1)
 have hL4 : d.l4 ≤ 1048576:=by rw [← e4];exact hf.l4
 have e5 : c.ps.length = d.l5:=by simpa using (show (c.ps.map pdF).length = d.l5 from hr.p.1)
 have hL5 : d.l5 ≤ 1048576:=by rw [← e5];exact hf.l5
 clear hr hf e1 e2 e3 e4 e5;obtain ⟨X0,hX0⟩ : ∃ X,X = ((w.alloc (.cells #[.slice d.a1 d.l1 d.c1,.slice d.a2 d.l2 d.c2,.slice d.a3 d.l3 d.c3,.slice d.a4 d.l4 d.c4,.slice d.a5 d.l5 d.c5,.int .i64 c.now] 28)).alloc (.cells #[.slice none 0 0,.slice none 0 0,.slice none 0 0,.slice none 0 0,.slice none 0 0,.int .i64 0] 36)).alloc (.cells #[.slice none 0 0,.slice none 0 0,.slice none 0 0,.slice none 0 0,.slice none 0 0,.int .i64 0] 36):=⟨_,rfl⟩
 have B0 : Hid (Below w.heap.size w X0):=by rw [hX0];exact below3 _ _ _ _
 have bx0 : Hid (X0.heap[w.heap.size]? = some (.cells #[.slice d.a1 d.l1 d.c1,.slice d.a2 d.l2 d.c2,.slice d.a3 d.l3 d.c3,.slice d.a4 d.l4 d.c4,.slice d.a5 d.l5 d.c5,.int .i64 c.now] 28 (0,0))):=by rw [hX0];exact heap3_0 _ _ _ _
 have br0 : Hid (X0.heap[w.heap.size + 1]? = some (.cells #[.slice none 0 0,.slice none 0 0,.slice none 0 0,.slice none 0 0,.slice none 0 0,.int .i64 0] 36 (0,0))):=by rw [hX0];exact heap3_1 _ _ _ _
 have bl0 : Hid (X0.heap[w.heap.size + 1 + 1]? = some (.cells #[.slice none 0 0,.slice none 0 0,.slice none 0 0,.slice none 0 0,.slice none 0 0,.int .i64 0] 36 (0,0))):=by rw [hX0];exact heap3_2 _ _ _ _
 have hs0:=lt_of_some bl0.out
 go_enter Tryz.func7,Tryz.ntmps7
 go_wp2_with fail;rw [← hX0];clear hX0;refine (tond_any d.a1 d.l1 d.c1 c.ns _ (HR.out.n.below B0.out) hL1 HF.out.f1).mono ?_;rintro e w1 ⟨rfl,ho,hb⟩;have hsz1:=hb.size;have gx:=(hb.block _ (lt_of_some bx0.out)).trans bx0.out;have gr:=(hb.block _ (lt_of_some br0.out)).trans br0.out;have gl:=(hb.block _ (lt_of_some bl0.out)).trans bl0.out;have gB:=B0.out.trans (hb.mono B0.out.size);have P1:=hidK ho;clear ho hb bx0 br0 bl0 B0;have pl:=ck0 gl;have fl:=froK gl 0;have px:=ck1 gx;obtain ⟨X1,hX1⟩ : ∃ X,X = w1.setCell ⟨w.heap.size + 1 + 1,0,none⟩ (.slice (some ⟨X0.heap.size,0,none⟩) d.l1 d.l1):=⟨_,rfl⟩
 have hxa1 : X1.heap.size ≤ w1.heap.size:=by rw [hX1];simp [World.setCell]
 have hxb1 : w1.heap.size ≤ X1.heap.size:=by rw [hX1];simp [World.setCell]
 have bx1 : Hid (X1.heap[w.heap.size]? = some (.cells #[.slice d.a1 d.l1 d.c1,.slice d.a2 d.l2 d.c2,.slice d.a3 d.l3 d.c3,.slice d.a4 d.l4 d.c4,.slice d.a5 d.l5 d.c5,.int .i64 c.now] 28 (0,0))):=by rw [hX1];exact set_keeps (by omega) gx
 have br1 : Hid (X1.heap[w.heap.size + 1]? = some (.cells #[.slice none 0 0,.slice none 0 0,.slice none 0 0,.slice none 0 0,.slice none 0 0,.int .i64 0] 36 (0,0))):=by rw [hX1];exact set_keeps (by omega) gr
 have bl1 : Hid (X1.heap[w.heap.size + 1 + 1]? = some (.cells #[.slice (some ⟨X0.heap.size,0,none⟩) d.l1 d.l1,.slice none 0 0,.slice none 0 0,.slice none 0 0,.slice none 0 0,.int .i64 0] 36 (0,0))):=by rw [hX1];have:=block_set (i:=0) gl (.slice (some ⟨X0.heap.size,0,none⟩) d.l1 d.l1);simpa [Hid] using this
 have B1 : Hid (Below w.heap.size w X1):=by rw [hX1];exact set_below (by omega) gB
 have O1:=hidK (P1.out.keep (w':=X1) (fun k hk s => by rw [hX1];exact Below.heap_setCell _ _ _ _ (show k ≠ w.heap.size + 1 + 1 by have h9 : X0.heap.size ≤ k:=s;omega)) (fun k hk s => (⟨s,hk⟩ : X0.heap.size ≤ k ∧ k < w1.heap.size)));clear gx gr gl gB P1;go_wp2_with fail;rw [← hX1];clear hX1;clear pl fl px;refine (tokd_any d.a2 d.l2 d.c2 c.ks _ (HR.out.k.below B1.out) hL2).mono ?_;rintro e w2 ⟨rfl,ho,hb⟩;have hsz2:=hb.size;have gx:=(hb.block _ (lt_of_some bx1.out)).trans bx1.out;have gr:=(hb.block _ (lt_of_some br1.out)).trans br1.out;have gl:=(hb.block _ (lt_of_some bl1.out)).trans bl1.out;have gB:=B1.out.trans (hb.mono B1.out.size);have P2:=hidK ho;have Q1:=hidK (O1.out.below hb);clear ho hb bx1 br1 bl1 B1 O1;have pl:=ck1 gl;have fl:=froK gl 1;have px:=ck2 gx;obtain ⟨X2,hX2⟩ : ∃ X,X = w2.setCell ⟨w.heap.size + 1 + 1,1,none⟩ (.slice (some ⟨X1.heap.size,0,none⟩) d.l2 d.l2):=⟨_,rfl⟩
 have hxa2 : X2.heap.size ≤ w2.heap.size:=by rw [hX2];simp [World.setCell]
 have hxb2 : w2.heap.size ≤ X2.heap.size:=by rw [hX2];simp [World.setCell]
 have bx2 : Hid (X2.heap[w.heap.size]? = some (.cells #[.slice d.a1 d.l1 d.c1,.slice d.a2 d.l2 d.c2,.slice d.a3 d.l3 d.c3,.slice d.a4 d.l4 d.c4,.slice d.a5 d.l5 d.c5,.int .i64 c.now] 28 (0,0))):=by rw [hX2];exact set_keeps (by omega) gx
 have br2 : Hid (X2.heap[w.heap.size + 1]? = some (.cells #[.slice none 0 0,.slice none 0 0,.slice none 0 0,.slice none 0 0,.slice none 0 0,.int .i64 0] 36 (0,0))):=by rw [hX2];exact set_keeps (by omega) gr
 have bl2 : Hid (X2.heap[w.heap.size + 1 + 1]? = some (.cells #[.slice (some ⟨X0.heap.size,0,none⟩) d.l1 d.l1,.slice (some ⟨X1.heap.size,0,none⟩) d.l2 d.l2,.slice none 0 0,.slice none 0 0,.slice none 0 0,.int .i64 0] 36 (0,0))):=by rw [hX2];have:=block_set (i:=1) gl (.slice (some ⟨X1.heap.size,0,none⟩) d.l2 d.l2);simpa [Hid] using this
 have B2 : Hid (Below w.heap.size w X2):=by rw [hX2];exact set_below (by omega) gB
 have O1:=hidK (Q1.out.keep (w':=X2) (fun k hk s => by rw [hX2];exact Below.heap_setCell _ _ _ _ (show k ≠ w.heap.size + 1 + 1 by have h9 : X0.heap.size ≤ k:=s.1;omega)) (fun k hk s => s));have O2:=hidK (P2.out.keep (w':=X2) (fun k hk s => by rw [hX2];exact Below.heap_setCell _ _ _ _ (show k ≠ w.heap.size + 1 + 1 by have h9 : X1.heap.size ≤ k:=s;omega)) (fun k hk s => (⟨s,hk⟩ : X1.heap.size ≤ k ∧ k < w2.heap.size)));clear gx gr gl gB P2 Q1;go_wp2_with fail;rw [← hX2];clear hX2;clear pl fl px;refine (tovd_any d.a3 d.l3 d.c3 c.vs _ (HR.out.v.below B2.out) hL3 HF.out.f3).mono ?_;rintro e w3 ⟨rfl,ho,hb⟩;have hsz3:=hb.size;have gx:=(hb.block _ (lt_of_some bx2.out)).trans bx2.out;have gr:=(hb.block _ (lt_of_some br2.out)).trans br2.out;have gl:=(hb.block _ (lt_of_some bl2.out)).trans bl2.out;have gB:=B2.out.trans (hb.mono B2.out.size);have P3:=hidK ho;have Q1:=hidK (O1.out.below hb);have Q2:=hidK (O2.out.below hb);clear ho hb bx2 br2 bl2 B2 O1 O2;have pl:=ck2 gl;have fl:=froK gl 2;have px:=ck3 gx;obtain ⟨X3,hX3⟩ : ∃ X,X = w3.setCell ⟨w.heap.size + 1 + 1,2,none⟩ (.slice (some ⟨X2.heap.size,0,none⟩) d.l3 d.l3):=⟨_,rfl⟩
 have hxa3 : X3.heap.size ≤ w3.heap.size:=by rw [hX3];simp [World.setCell]
 have hxb3 : w3.heap.size ≤ X3.heap.size:=by rw [hX3];simp [World.setCell]
 have bx3 : Hid (X3.heap[w.heap.size]? = some (.cells #[.slice d.a1 d.l1 d.c1,.slice d.a2 d.l2 d.c2,.slice d.a3 d.l3 d.c3,.slice d.a4 d.l4 d.c4,.slice d.a5 d.l5 d.c5,.int .i64 c.now] 28 (0,0))):=by rw [hX3];exact set_keeps (by omega) gx
 have br3 : Hid (X3.heap[w.heap.size + 1]? = some (.cells #[.slice none 0 0,.slice none 0 0,.slice none 0 0,.slice none 0 0,.slice none 0 0,.int .i64 0] 36 (0,0))):=by rw [hX3];exact set_keeps (by omega) gr
 have bl3 : Hid (X3.heap[w.heap.size + 1 + 1]? = some (.cells #[.slice (some ⟨X0.heap.size,0,none⟩) d.l1 d.l1,.slice (some ⟨X1.heap.size,0,none⟩) d.l2 d.l2,.slice (some ⟨X2.heap.size,0,none⟩) d.l3 d.l3,.slice none 0 0,.slice none 0 0,.int .i64 0] 36 (0,0))):=by rw [hX3];have:=block_set (i:=2) gl (.slice (some ⟨X2.heap.size,0,none⟩) d.l3 d.l3);simpa [Hid] using this
 have B3 : Hid (Below w.heap.size w X3):=by rw [hX3];exact set_below (by omega) gB
 have O1:=hidK (Q1.out.keep (w':=X3) (fun k hk s => by rw [hX3];exact Below.heap_setCell _ _ _ _ (show k ≠ w.heap.size + 1 + 1 by have h9 : X0.heap.size ≤ k:=s.1;omega)) (fun k hk s => s));have O2:=hidK (Q2.out.keep (w':=X3) (fun k hk s => by rw [hX3];exact Below.heap_setCell _ _ _ _ (show k ≠ w.heap.size + 1 + 1 by have h9 : X1.heap.size ≤ k:=s.1;omega)) (fun k hk s => s));have O3:=hidK (P3.out.keep (w':=X3) (fun k hk s => by rw [hX3];exact Below.heap_setCell _ _ _ _ (show k ≠ w.heap.size + 1 + 1 by have h9 : X2.heap.size ≤ k:=s;omega)) (fun k hk s => (⟨s,hk⟩ : X2.heap.size ≤ k ∧ k < w3.heap.size)));clear gx gr gl gB P3 Q1 Q2;go_wp2_with fail;rw [← hX3];clear hX3;clear pl fl px;refine (toxd_any d.a4 d.l4 d.c4 c.xs _ (HR.out.x.below B3.out) hL4).mono ?_;rintro e w4 ⟨rfl,ho,hb⟩;have hsz4:=hb.size;have gx:=(hb.block _ (lt_of_some bx3.out)).trans bx3.out;have gr:=(hb.block _ (lt_of_some br3.out)).trans br3.out;have gl:=(hb.block _ (lt_of_some bl3.out)).trans bl3.out;have gB:=B3.out.trans (hb.mono B3.out.size);have P4:=hidK ho;have Q1:=hidK (O1.out.below hb);have Q2:=hidK (O2.out.below hb);have Q3:=hidK (O3.out.below hb);clear ho hb bx3 br3 bl3 B3 O1 O2 O3;have pl:=ck3 gl;have fl:=froK gl 3;have px:=ck4 gx;obtain ⟨X4,hX4⟩ : ∃ X,X = w4.setCell ⟨w.heap.size + 1 + 1,3,none⟩ (.slice (some ⟨X3.heap.size,0,none⟩) d.l4 d.l4):=⟨_,rfl⟩
 have hxa4 : X4.heap.size ≤ w4.heap.size:=by rw [hX4];simp [World.setCell]
 have hxb4 : w4.heap.size ≤ X4.heap.size:=by rw [hX4];simp [World.setCell]
 have bx4 : Hid (X4.heap[w.heap.size]? = some (.cells #[.slice d.a1 d.l1 d.c1,.slice d.a2 d.l2 d.c2,.slice d.a3 d.l3 d.c3,.slice d.a4 d.l4 d.c4,.slice d.a5 d.l5 d.c5,.int .i64 c.now] 28 (0,0))):=by rw [hX4];exact set_keeps (by omega) gx
 have br4 : Hid (X4.heap[w.heap.size + 1]? = some (.cells #[.slice none 0 0,.slice none 0 0,.slice none 0 0,.slice none 0 0,.slice none 0 0,.int .i64 0] 36 (0,0))):=by rw [hX4];exact set_keeps (by omega) gr
 have bl4 : Hid (X4.heap[w.heap.size + 1 + 1]? = some (.cells #[.slice (some ⟨X0.heap.size,0,none⟩) d.l1 d.l1,.slice (some ⟨X1.heap.size,0,none⟩) d.l2 d.l2,.slice (some ⟨X2.heap.size,0,none⟩) d.l3 d.l3,.slice (some ⟨X3.heap.size,0,none⟩) d.l4 d.l4,.slice none 0 0,.int .i64 0] 36 (0,0))):=by rw [hX4];have:=block_set (i:=3) gl (.slice (some ⟨X3.heap.size,0,none⟩) d.l4 d.l4);simpa [Hid] using this
 have B4 : Hid (Below w.heap.size w X4):=by rw [hX4];exact set_below (by omega) gB
 have O1:=hidK (Q1.out.keep (w':=X4) (fun k hk s => by rw [hX4];exact Below.heap_setCell _ _ _ _ (show k ≠ w.heap.size + 1 + 1 by have h9 : X0.heap.size ≤ k:=s.1;omega)) (fun k hk s => s));have O2:=hidK (Q2.out.keep (w':=X4) (fun k hk s => by rw [hX4];exact Below.heap_setCell _ _ _ _ (show k ≠ w.heap.size + 1 + 1 by have h9 : X1.heap.size ≤ k:=s.1;omega)) (fun k hk s => s));have O3:=hidK (Q3.out.keep (w':=X4) (fun k hk s => by rw [hX4];exact Below.heap_setCell _ _ _ _ (show k ≠ w.heap.size + 1 + 1 by have h9 : X2.heap.size ≤ k:=s.1;omega)) (fun k hk s => s));have O4:=hidK (P4.out.keep (w':=X4) (fun k hk s => by rw [hX4];exact Below.heap_setCell _ _ _ _ (show k ≠ w.heap.size + 1 + 1 by have h9 : X3.heap.size ≤ k:=s;omega)) (fun k hk s => (⟨s,hk⟩ : X3.heap.size ≤ k ∧ k < w4.heap.size)));clear gx gr gl gB P4 Q1 Q2 Q3;go_wp2_with fail;rw [← hX4];clear hX4;clear pl fl px;refine (topd_any d.a5 d.l5 d.c5 c.ps _ (HR.out.p.below B4.out) hL5 HF.out.f5).mono ?_;rintro e w5 ⟨rfl,ho,hb⟩;have gx:=(hb.block _ (lt_of_some bx4.out)).trans bx4.out;have gr:=(hb.block _ (lt_of_some br4.out)).trans br4.out;have gl:=(hb.block _ (lt_of_some bl4.out)).trans bl4.out;have gB:=B4.out.trans (hb.mono B4.out.size);have P5:=hidK ho;have Q1:=hidK (O1.out.below hb);have Q2:=hidK (O2.out.below hb);have Q3:=hidK (O3.out.below hb);have Q4:=hidK (O4.out.below hb);clear ho hb bx4 br4 bl4 B4 O1 O2 O3 O4;have l4:=ck4 gl;have l5:=ck5 gl;have l0:=ck0 gl;have l1:=ck1 gl;have l2:=ck2 gl;have l3:=ck3 gl;have r0:=ck0 gr;have fr0:=froK gr 0;have r1:=ck1 gr;have fr1:=froK gr 1;have r2:=ck2 gr;have fr2:=froK gr 2;have r3:=ck3 gr;have fr3:=froK gr 3;have fl4:=froK gl 4;have r4:=ck4 gr;have fr4:=froK gr 4;have fl5:=froK gl 5;have r5:=ck5 gr;have fr5:=froK gr 5;have px:=ck5 gx;have GB:=hidK gB;clear gx gr gl gB
 go_wp2
 refine bodyPost_ret (v:=.agg #[.slice (some ⟨X0.heap.size,0,none⟩) d.l1 d.l1,.slice (some ⟨X1.heap.size,0,none⟩) d.l2 d.l2,.slice (some ⟨X2.heap.size,0,none⟩) d.l3 d.l3,.slice (some ⟨X3.heap.size,0,none⟩) d.l4 d.l4,.slice (some ⟨X4.heap.size,0,none⟩) d.l5 d.l5,.int .i64 c.now]) (by simp [results,Tryz.results7,go_sem, *]) rfl ⟨⟨some ⟨X0.heap.size,0,none⟩,d.l1,d.l1,some ⟨X1.heap.size,0,none⟩,d.l2,d.l2,some ⟨X2.heap.size,0,none⟩,d.l3,d.l3,some ⟨X3.heap.size,0,none⟩,d.l4,d.l4,some ⟨X4.heap.size,0,none⟩,d.l5,d.l5⟩,rfl,?_,sb1 (sb1 (sb1 (sb1 (sb1 (sb1 (sb2 (sb2 (GB.out))))))))⟩
 have same : ∀ k,w.heap.size + 1 + 1 < k → ((((((((w5.setCell ⟨w.heap.size + 1 + 1,4,none⟩ (.slice (some ⟨X4.heap.size,0,none⟩) d.l5 d.l5)).setCell ⟨w.heap.size + 1 + 1,5,none⟩ (.int .i64 c.now)).setCell ⟨w.heap.size + 1,0,none⟩ (.slice (some ⟨X0.heap.size,0,none⟩) d.l1 d.l1)).setCell ⟨w.heap.size + 1,1,none⟩ (.slice (some ⟨X1.heap.size,0,none⟩) d.l2 d.l2)).setCell ⟨w.heap.size + 1,2,none⟩ (.slice (some ⟨X2.heap.size,0,none⟩) d.l3 d.l3)).setCell ⟨w.heap.size + 1,3,none⟩ (.slice (some ⟨X3.heap.size,0,none⟩) d.l4 d.l4)).setCell ⟨w.heap.size + 1,4,none⟩ (.slice (some ⟨X4.heap.size,0,none⟩) d.l5 d.l5)).setCell ⟨w.heap.size + 1,5,none⟩ (.int .i64 c.now)).heap[k]? = w5.heap[k]?:=fun k hk => by
  rw [Below.heap_setCell _ _ _ _ (show k ≠ w.heap.size + 1 by omega),Below.heap_setCell _ _ _ _ (show k ≠ w.heap.size + 1 by omega),Below.heap_setCell _ _ _ _ (show k ≠ w.heap.size + 1 by omega),Below.heap_setCell _ _ _ _ (show k ≠ w.heap.size + 1 by omega),Below.heap_setCell _ _ _ _ (show k ≠ w.heap.size + 1 by omega),Below.heap_setCell _ _ _ _ (show k ≠ w.heap.size + 1 by omega),Below.heap_setCell _ _ _ _ (show k ≠ w.heap.size + 1 + 1 by omega),Below.heap_setCell _ _ _ _ (show k ≠ w.heap.size + 1 + 1 by omega)]
 refine ⟨fun k => if k < w1.heap.size then 1 else if k < w2.heap.size then 2 else if k < w3.heap.size then 3 else if k < w4.heap.size then 4 else 5,?_,?_,?_,?_,?_⟩
 ·refine Q1.out.keep (fun k hk s => same k (by have h9 : X0.heap.size ≤ k:=s.1;omega)) (fun k hk s => ⟨?_,?_⟩)
  ·have h9:=s.1
   show w.heap.size ≤ k
   omega
  ·have h9:=s.1;have h8:=s.2
   show (if k < w1.heap.size then 1 else if k < w2.heap.size then 2 else if k < w3.heap.size then 3 else if k < w4.heap.size then 4 else 5) = 1
   rw [if_pos h8]
 ·refine Q2.out.keep (fun k hk s => same k (by have h9 : X1.heap.size ≤ k:=s.1;omega)) (fun k hk s => ⟨?_,?_⟩)
  ·have h9:=s.1
   show w.heap.size ≤ k
   omega
  ·have h9:=s.1;have h8:=s.2
   show (if k < w1.heap.size then 1 else if k < w2.heap.size then 2 else if k < w3.heap.size then 3 else if k < w4.heap.size then 4 else 5) = 2
   rw [if_neg (by omega)];rw [if_pos h8]
 ·refine Q3.out.keep (fun k hk s => same k (by have h9 : X2.heap.size ≤ k:=s.1;omega)) (fun k hk s => ⟨?_,?_⟩)
  ·have h9:=s.1
   show w.heap.size ≤ k
   omega
  ·have h9:=s.1;have h8:=s.2
   show (if k < w1.heap.size then 1 else if k < w2.heap.size then 2 else if k < w3.heap.size then 3 else if k < w4.heap.size then 4 else 5) = 3
   rw [if_neg (by omega)];rw [if_neg (by omega)];rw [if_pos h8]
 ·refine Q4.out.keep (fun k hk s => same k (by have h9 : X3.heap.size ≤ k:=s.1;omega)) (fun k hk s => ⟨?_,?_⟩)
  ·have h9:=s.1
   show w.heap.size ≤ k
   omega
  ·have h9:=s.1;have h8:=s.2
   show (if k < w1.heap.size then 1 else if k < w2.heap.size then 2 else if k < w3.heap.size then 3 else if k < w4.heap.size then 4 else 5) = 4
   rw [if_neg (by omega)];rw [if_neg (by omega)];rw [if_neg (by omega)];rw [if_pos h8]
 ·refine P5.out.keep (fun k hk s => same k (by have h9 : X4.heap.size ≤ k:=s;omega)) (fun k hk s => ⟨?_,?_⟩)
  ·have h9:=s
   show w.heap.size ≤ k
   omega
  ·have h9:=s
   show (if k < w1.heap.size then 1 else if k < w2.heap.size then 2 else if k < w3.heap.size then 3 else if k < w4.heap.size then 4 else 5) = 5
   rw [if_neg (by omega)];rw [if_neg (by omega)];rw [if_neg (by omega)];rw [if_neg (by omega)];skip

def LFr (w : World) (h : Nat) (S : Nat → Prop) (zs : List ByteArray) (v : Value) : Prop :=
 ∃ a len cap,v = .slice a len cap ∧ zs.length = len ∧ len ≤ cap ∧ cap ≤ 9223372036854775807 ∧ (∀ (j : Nat) x,zs[j]? = some x → x.size ≤ 9223372036854775807) ∧
  (zs = [] ∨ (a = some ⟨h,0,none⟩ ∧ S h ∧ ∃ cu,w.heap[h]? = some (.cells cu 9 (0,0)) ∧ ∀ (j : Nat) x,zs[j]? = some x → cu[j]? = some (.string x)))
theorem LFr.keep {w w' : World} {h : Nat} {S S' : Nat → Prop} {zs : List ByteArray} {v : Value} (k : LFr w h S zs v) (hk : ∀ cu,S h → w.heap[h]? = some (.cells cu 9 (0,0)) → w'.heap[h]? = w.heap[h]?) (hs : h < w.heap.size → S h → S' h) : LFr w' h S' zs v:=by
 obtain ⟨a',l',c',h1,h2,h3,h4,h5,h6⟩:=k;refine ⟨a',l',c',h1,h2,h3,h4,h5,h6.imp id ?_⟩;rintro ⟨q1,q2,cu,q4,q5⟩;exact ⟨q1,hs (lt_of_some q4) q2,cu,(hk cu q2 q4).trans q4,q5⟩
def Fv.Fr (w : World) (h : Nat) (S : Nat → Prop) : Fv → Value → Prop
 | .s t,v => v = .string t ∧ t.size ≤ 9223372036854775807
 | .i n,v => v = .int .i64 n
 | .b x,v => v = .bool x
 | .l zs,v => LFr w h S zs v
theorem Fv.Fr.keep {w w' : World} {h : Nat} {S S' : Nat → Prop} {f : Fv} {v : Value} (k : f.Fr w h S v) (hk : ∀ cu,S h → w.heap[h]? = some (.cells cu 9 (0,0)) → w'.heap[h]? = w.heap[h]?) (hs : h < w.heap.size → S h → S' h) : f.Fr w' h S' v:=by
 cases f with
 | l zs => exact LFr.keep k hk hs
 | _ => exact k
theorem Fv.Fr.own {w : World} {h g : Nat} {S : Nat → Prop} {f : Fv} {v : Value} {cur : Array Value} {T : TypeId} (k : f.Fr w h S v) (hg : w.heap[g]? = some (.cells cur T (0,0))) (hT : ¬ T = 9) : f.Own w h S g v:=by
 cases f with
 | l zs =>
  obtain ⟨a',l',c',h1,h2,h3,h4,h5,h6⟩:=k;refine ⟨a',l',c',h1,h2,h3,h4,h5,h6.imp id ?_⟩;rintro ⟨q1,q2,cu,q4,q5⟩;refine ⟨q1,q2,?_,cu,q4,q5⟩;rintro rfl;rw [hg] at q4
  cases q4
  exact hT rfl
 | _ => exact k
theorem Fv.Own.fr {w : World} {h g : Nat} {S : Nat → Prop} {f : Fv} {v : Value} (k : f.Own w h S g v) : f.Fr w h S v:=by
 cases f with
 | l zs =>
  obtain ⟨a',l',c',h1,h2,h3,h4,h5,h6⟩:=k;refine ⟨a',l',c',h1,h2,h3,h4,h5,h6.imp id ?_⟩;rintro ⟨q1,q2,q3,cu,q4,q5⟩;exact ⟨q1,q2,cu,q4,q5⟩
 | _ => exact k
theorem Fv.Fr.one {w : World} {h : Nat} {S : Nat → Prop} {f : Fv} {v : Value} (k : f.Fr w h S v) : v.oneCell' = true:=by
 cases f with
 | l zs => obtain ⟨a',l',c',rfl,_⟩:=k;rfl
 | s t => obtain ⟨rfl,_⟩:=k;rfl
 | i n => cases (show v = .int .i64 n from k);rfl
 | b x => cases (show v = .bool x from k);rfl

structure VRecs (w : World) (S : Nat → Prop) (m : Nat) (rs : List (List Fv)) (vss : List (List Value)) (H : Nat → Nat → Nat) : Prop where
 len : vss.length = rs.length
 all : ∀ (j : Nat) vs,vss[j]? = some vs → vs.length = m
 rl : ∀ (j : Nat) r,rs[j]? = some r → r.length = m
 cell : ∀ (j : Nat) r vs,rs[j]? = some r → vss[j]? = some vs → ∀ (i : Nat) f,r[i]? = some f → ∃ v,vs[i]? = some v ∧ f.Fr w (H j i) S v
 inj : ∀ (j : Nat) r (i : Nat) zs (j' : Nat) r' (i' : Nat) zs',rs[j]? = some r → r[i]? = some (.l zs) → zs ≠ [] → rs[j']? = some r' → r'[i']? = some (.l zs') → zs' ≠ [] → H j i = H j' i' → j = j' ∧ i = i'

section
variable {w w' : World} {S S' : Nat → Prop} {m : Nat} {rs : List (List Fv)} {vss : List (List Value)} {H : Nat → Nat → Nat}
theorem VRecs.nil (w : World) (S : Nat → Prop) (m : Nat) (H : Nat → Nat → Nat) : VRecs w S m [] [] H:=⟨rfl,fun j vs h => by simp at h,fun j r h => by simp at h,fun j r vs h => by simp at h,fun j r i zs j' r' i' zs' h => by simp at h⟩
theorem VRecs.keep (h : VRecs w S m rs vss H) (hk : ∀ k cu,S k → w.heap[k]? = some (.cells cu 9 (0,0)) → w'.heap[k]? = w.heap[k]?) (hs : ∀ k,k < w.heap.size → S k → S' k) : VRecs w' S' m rs vss H :=
 ⟨h.len,h.all,h.rl,fun j r vs h1 h2 i f h3 => by
  obtain ⟨v,h4,h5⟩:=h.cell j r vs h1 h2 i f h3
  exact ⟨v,h4,h5.keep (hk _) (hs _)⟩,h.inj⟩
theorem VRecs.below (h : VRecs w S m rs vss H) (hb : Below w.heap.size w w') : VRecs w' S m rs vss H:=h.keep (fun k _ _ q => hb.block k (lt_of_some q)) (fun _ _ s => s)
theorem VRecs.grown (h : VRecs w S m rs vss H) {base n : Nat} {T : TypeId} {v : Value} {xs : List Value} (ho : w.ownsRow base T m v n xs) (hT : ¬ T = 9) (hg : w.grownBy w' v.ownBlock) : VRecs w' S m rs vss H:=by
 refine h.keep (fun k cu _ q => hg.block k (lt_of_some q) (fun e => ?_)) (fun _ _ s => s)
 rcases ho.2 with ⟨rfl,_⟩ | ⟨g,cap,cur,rfl,_,hgg,_⟩
 ·cases e
 ·cases e
  simp only [] at q;rw [hgg] at q
  cases q
  exact hT rfl
theorem VRecs.lt (h : VRecs w S m rs vss H) {j : Nat} {r : List Fv} {i : Nat} {zs : List ByteArray} (h1 : rs[j]? = some r) (h2 : r[i]? = some (.l zs)) (h3 : zs ≠ []) : H j i < w.heap.size:=by
 have hj : j < vss.length:=by rw [h.len];exact (List.getElem?_eq_some_iff.1 h1).1
 obtain ⟨v,_,a,len,cap,_,_,_,_,_,h9⟩:=h.cell j r _ h1 (List.getElem?_eq_getElem hj) i _ h2
 rcases h9 with h9 | ⟨_,_,cu,q4,_⟩
 ·exact absurd h9 h3
 ·exact lt_of_some q4
theorem VRecs.sel (h : VRecs w S m rs vss H) {rs' : List (List Fv)} {vss' : List (List Value)} (f : Nat → Nat) (hl : vss'.length = rs'.length) (hr : ∀ j,j < rs'.length → rs'[j]? = rs[f j]?) (hv : ∀ j,j < rs'.length → vss'[j]? = vss[f j]?)
  (hf : ∀ j j',j < rs'.length → j' < rs'.length → f j = f j' → j = j') : VRecs w S m rs' vss' (fun j => H (f j)):=by
 have lt1 : ∀ {j : Nat} {r},rs'[j]? = some r → j < rs'.length:=fun h => (List.getElem?_eq_some_iff.1 h).1
 have lt2 : ∀ {j : Nat} {r},vss'[j]? = some r → j < rs'.length:=fun h => by rw [← hl];exact (List.getElem?_eq_some_iff.1 h).1
 refine ⟨hl,fun j vs h1 => h.all (f j) vs (by rw [← hv j (lt2 h1)];exact h1),fun j r h1 => h.rl (f j) r (by rw [← hr j (lt1 h1)];exact h1),fun j r vs h1 h2 => h.cell (f j) r vs (by rw [← hr j (lt1 h1)];exact h1) (by rw [← hv j (lt1 h1)];exact h2),?_⟩;intro j r i zs j' r' i' zs' h1 h2 h3 h4 h5 h6 h7;obtain ⟨e1,e2⟩:=h.inj (f j) r i zs (f j') r' i' zs' (by rw [← hr j (lt1 h1)];exact h1) h2 h3 (by rw [← hr j' (lt1 h4)];exact h4) h5 h6 h7;exact ⟨hf j j' (lt1 h1) (lt1 h4) e1,e2⟩
theorem VRecs.push (h : VRecs w S m rs vss H) {r : List Fv} {vs : List Value} {hh : Nat → Nat} (hr : r.length = m) (hvs : vs.length = m) (hc : ∀ (i : Nat) f,r[i]? = some f → ∃ v,vs[i]? = some v ∧ f.Fr w (hh i) S v)
  (hn : ∀ (i : Nat) zs,r[i]? = some (.l zs) → zs ≠ [] → ∀ (j : Nat) r' (i' : Nat) zs',rs[j]? = some r' → r'[i']? = some (.l zs') → zs' ≠ [] → ¬ H j i' = hh i)
  (h1 : ∀ (i i' : Nat) zs zs',r[i]? = some (.l zs) → zs ≠ [] → r[i']? = some (.l zs') → zs' ≠ [] → i = i') :
  VRecs w S m (rs ++ [r]) (vss ++ [vs]) (fun j => if j = rs.length then hh else H j):=by
 have at1 : ∀ {α : Type} {l : List α} {x y : α} {j : Nat},(l ++ [x])[j]? = some y → (j = l.length ∧ y = x) ∨ (j < l.length ∧ l[j]? = some y):=by
  intro α l x y j hj
  by_cases e : j < l.length
  ·rw [List.getElem?_append_left e] at hj;exact .inr ⟨e,hj⟩
  ·rw [List.getElem?_append_right (by omega)] at hj
   rcases Nat.eq_zero_or_pos (j - l.length) with e0 | e0
   ·rw [e0] at hj;exact .inl ⟨by omega,by simpa using hj.symm⟩
   ·rw [List.getElem?_eq_none (by simp;omega)] at hj;cases hj
 refine ⟨by simp [h.len],fun j v hv => ?_,fun j r' hj => ?_,fun j r' v hj hv i f hf => ?_,fun j r1 i zs j' r2 i' zs' a1 a2 a3 b1 b2 b3 e => ?_⟩
 ·rcases at1 hv with ⟨_,rfl⟩ | ⟨_,hv⟩
  ·exact hvs
  ·exact h.all j v hv
 ·rcases at1 hj with ⟨_,rfl⟩ | ⟨_,hj⟩
  ·exact hr
  ·exact h.rl j r' hj
 ·rcases at1 hj with ⟨e1,rfl⟩ | ⟨e1,hj⟩
  ·rcases at1 hv with ⟨_,rfl⟩ | ⟨e2,hv⟩
   ·simp only [e1,if_true];exact hc i f hf
   ·have:=h.len;omega
  ·rcases at1 hv with ⟨e2,rfl⟩ | ⟨e2,hv⟩
   ·have:=h.len;omega
   ·simp only [if_neg (show ¬ j = rs.length by omega)];exact h.cell j r' v hj hv i f hf
 ·rcases at1 a1 with ⟨e1,rfl⟩ | ⟨e1,a4⟩ <;> rcases at1 b1 with ⟨e2,rfl⟩ | ⟨e2,b4⟩
  ·exact ⟨by omega,h1 _ _ _ _ a2 a3 b2 b3⟩
  ·simp only [e1,if_true,if_neg (show ¬ j' = rs.length by omega)] at e;exact absurd e.symm (hn i zs a2 a3 j' r2 i' zs' b4 b2 b3)
  ·simp only [e2,if_true,if_neg (show ¬ j = rs.length by omega)] at e;exact absurd e (hn i' zs' b2 b3 j r1 i zs a4 a2 a3)
  ·simp only [if_neg (show ¬ j = rs.length by omega),if_neg (show ¬ j' = rs.length by omega)] at e;exact h.inj j r1 i zs j' r2 i' zs' a4 a2 a3 b4 b2 b3 e
end

theorem flat_at {α : Type} {m : Nat} : ∀ {vss : List (List α)},(∀ (j : Nat) vs,vss[j]? = some vs → vs.length = m) → ∀ {j : Nat} {vs : List α} {i : Nat} {u : α},vss[j]? = some vs → vs[i]? = some u → vss.flatten[j * m + i]? = some u
 | [],_,j,vs,i,u,h,_ => by simp at h
 | x :: vss,hl,0,vs,i,u,h,hu => by
  obtain rfl : x = vs:=by simpa using h
  have hx:=hl 0 x rfl;have hi:=(List.getElem?_eq_some_iff.1 hu).1;rw [List.flatten_cons,List.getElem?_append_left (by omega),Nat.zero_mul,Nat.zero_add];exact hu
 | x :: vss,hl,j + 1,vs,i,u,h,hu => by
  have hx:=hl 0 x rfl;rw [List.flatten_cons,List.getElem?_append_right (by rw [hx,Nat.succ_mul];omega),hx,show (j + 1) * m + i - m = j * m + i by rw [Nat.succ_mul];omega];exact flat_at (fun j' vs' h' => hl (j' + 1) vs' (by simpa using h')) (by simpa using h) hu
theorem flat_inv {α : Type} {m : Nat} : ∀ {vss : List (List α)},(∀ (j : Nat) vs,vss[j]? = some vs → vs.length = m) → ∀ {k : Nat} {u : α},vss.flatten[k]? = some u → ∃ (j i : Nat) (vs : List α),vss[j]? = some vs ∧ vs[i]? = some u ∧ k = j * m + i
 | [],_,k,u,h => by simp at h
 | x :: vss,hl,k,u,h => by
  have hx:=hl 0 x rfl;rw [List.flatten_cons] at h
  by_cases e : k < m
  ·rw [List.getElem?_append_left (by omega)] at h;exact ⟨0,k,x,rfl,h,by omega⟩
  ·rw [List.getElem?_append_right (by omega),hx] at h;obtain ⟨j,i,vs,h1,h2,h3⟩:=flat_inv (fun j' vs' h' => hl (j' + 1) vs' (by simpa using h')) h;exact ⟨j + 1,i,vs,by simpa using h1,h2,by rw [Nat.succ_mul];omega⟩
theorem flat_len {α : Type} {m : Nat} : ∀ {vss : List (List α)},(∀ (j : Nat) vs,vss[j]? = some vs → vs.length = m) → vss.flatten.length = vss.length * m
 | [],_ => by simp
 | x :: vss,hl => by
  have hx:=hl 0 x rfl;rw [List.flatten_cons,List.length_append,flat_len (fun j' vs' h' => hl (j' + 1) vs' (by simpa using h')),hx,List.length_cons,Nat.succ_mul]
  omega
theorem VRecs.one {w : World} {S : Nat → Prop} {m : Nat} {rs : List (List Fv)} {vss : List (List Value)} {H : Nat → Nat → Nat} (h : VRecs w S m rs vss H) : ∀ u ∈ vss.flatten,u.oneCell' = true:=by
 intro u hu;obtain ⟨k,hk,rfl⟩:=List.mem_iff_getElem.1 hu;obtain ⟨j,i,vs,h1,h2,_⟩:=flat_inv h.all (List.getElem?_eq_getElem hk)
 have hj : j < rs.length:=by rw [← h.len];exact (List.getElem?_eq_some_iff.1 h1).1
 have hr:=List.getElem?_eq_getElem hj
 have hi : i < (rs[j]).length:=by rw [h.rl j _ hr,← h.all j vs h1];exact (List.getElem?_eq_some_iff.1 h2).1
 obtain ⟨v,h3,h4⟩:=h.cell j _ vs hr h1 i _ (List.getElem?_eq_getElem hi);rw [h2] at h3
 cases h3
 exact h4.one

theorem VRecs.own {w : World} {S : Nat → Prop} {m : Nat} {T : TypeId} {rs : List (List Fv)} {vss : List (List Value)} {H : Nat → Nat → Nat} (h : VRecs w S m rs vss H) {base n : Nat} {v : Value} (ho : w.ownsRow base T m v n vss.flatten) (hn : n = rs.length) (hT : ¬ T = 9) (hS : ∀ g,v.ownBlock = some g → S g) :
  ∃ a cap,v = .slice a rs.length cap ∧ ROwn w a rs.length cap m T rs S:=by
 subst hn
 rcases ho.2 with ⟨rfl,h0⟩ | ⟨g,cap,cur,rfl,_,hgg,h1,h2,h3,h4⟩
 ·obtain rfl : rs = []:=List.eq_nil_of_length_eq_zero h0;exact ⟨none,0,rfl,ROwn.nil _ _ _ _ _ (by omega)⟩
 ·refine ⟨_,cap,rfl,rfl,h1,by unfold maxLen at h2;omega,.inr ⟨g,cur,H,rfl,hgg,hS g rfl,h.rl,fun j r hj i f hi => ?_,h.inj⟩⟩
  have hjl : j < vss.length:=by rw [h.len];exact (List.getElem?_eq_some_iff.1 hj).1
  have hv:=List.getElem?_eq_getElem hjl;obtain ⟨u,h5,h6⟩:=h.cell j r _ hj hv i f hi;have h7:=flat_at h.all hv h5;rw [← h4,List.getElem?_take] at h7
  split at h7
  ·exact ⟨u,by simpa using h7,h6.own hgg hT⟩
  ·cases h7
theorem ROwn.recs {w : World} {S : Nat → Prop} {m : Nat} {T : TypeId} {a : Option Addr} {len cap : Nat} {rs : List (List Fv)} (h : ROwn w a len cap m T rs S) :
  ∃ vss H,VRecs w S m rs vss H ∧ ∀ (k : Nat) u,vss.flatten[k]? = some u → ∃ g,a = some ⟨g,0,none⟩ ∧ S g ∧ w.cell? ⟨g,k,none⟩ = some u:=by
 obtain ⟨h1,h2,h3,h4⟩:=h
 rcases h4 with rfl | ⟨g,cur,H,rfl,h5⟩
 ·exact ⟨[],fun _ _ => 0,VRecs.nil _ _ _ _,fun k u hu => by simp at hu⟩
 ·have hget : ∀ (j i : Nat),((List.range rs.length).map fun j => (List.range m).map fun i => cur.getD (j * m + i) undef)[j]? = if j < rs.length then some ((List.range m).map fun i => cur.getD (j * m + i) undef) else none:=by
   intro j _;rw [List.getElem?_map]
   split
   ·next e => rw [List.getElem?_range e];rfl
   ·next e => rw [List.getElem?_eq_none (by simpa using e)];rfl
  have hval : ∀ (j : Nat) r,rs[j]? = some r → ∀ (i : Nat),i < m → ∃ f v,r[i]? = some f ∧ cur[j * m + i]? = some v ∧ f.Own w (H j i) S g v ∧ ((List.range m).map fun i => cur.getD (j * m + i) undef)[i]? = some v:=by
   intro j r hr i hi;have hl:=h5.len j r hr;have hf:=List.getElem?_eq_getElem (l:=r) (i:=i) (by omega);obtain ⟨v,q1,q2⟩:=h5.cell j r hr i _ hf;refine ⟨_,v,hf,q1,q2,?_⟩;rw [List.getElem?_map,List.getElem?_range hi]
   simp [Array.getD_eq_getD_getElem?,q1]
  have hvrecs : VRecs w S m rs ((List.range rs.length).map fun j => (List.range m).map fun i => cur.getD (j * m + i) undef) H:=by
   refine ⟨by simp,fun j vs hv => ?_,h5.len,fun j r vs hr hv i f hf => ?_,h5.inj⟩
   ·rw [hget j 0] at hv
    split at hv
    ·cases hv;simp
    ·cases hv
   ·rw [hget j 0,if_pos (List.getElem?_eq_some_iff.1 hr).1] at hv
    cases hv
    have hi : i < m:=by rw [← h5.len j r hr];exact (List.getElem?_eq_some_iff.1 hf).1
    obtain ⟨f',v,q1,q2,q3,q4⟩:=hval j r hr i hi;rw [hf] at q1
    cases q1
    exact ⟨v,q4,q3.fr⟩
  refine ⟨_,H,hvrecs,fun k u hu => ⟨g,rfl,h5.inS,?_⟩⟩;obtain ⟨j,i,vs,e1,e2,rfl⟩:=flat_inv hvrecs.all hu;rw [hget j 0] at e1
  split at e1
  ·next e =>
   cases e1
   have hi : i < m:=by have:=(List.getElem?_eq_some_iff.1 e2).1;simpa using this
   obtain ⟨f',v,q1,q2,q3,q4⟩:=hval j _ (List.getElem?_eq_getElem e) i hi;rw [e2] at q4
   cases q4
   exact (cellK h5.blk _).trans q2
  ·cases e1

def Bw (y W : World) : Prop:=Below y.heap.size y W
theorem Bw.refl (y : World) : Bw y y:=Below.refl _ _
theorem Bw.below {y W W' : World} (h : Bw y W) (hb : Below W.heap.size W W') : Bw y W':=Below.trans h (hb.mono (Below.size h))
theorem Bw.kept {y W W' : World} {S : Nat → Prop} (h : Bw y W) (hk : KeptS S W W') (hs : ∀ k,S k → y.heap.size ≤ k) : Bw y W':=Below.trans h (hk.low (Below.size h) hs)
theorem Bw.out {y W : World} (h : Bw y W) : Below y.heap.size y W:=h
theorem Bw.le {y W : World} (h : Bw y W) : y.heap.size ≤ W.heap.size:=Below.size h

def TOwn (w : World) (a : Option Addr) (l c : Nat) (zs : List ByteArray) (S : Nat → Prop) : Prop :=
 TxRow w a l c zs ∧ (zs = [] ∨ ∃ g cur,a = some ⟨g,0,none⟩ ∧ S g ∧ w.heap[g]? = some (.cells cur 9 (0,0)))
theorem TOwn.keep {w w' : World} {a : Option Addr} {l c : Nat} {zs : List ByteArray} {S S' : Nat → Prop} (h : TOwn w a l c zs S) (hk : ∀ k,k < w.heap.size → S k → w'.heap[k]? = w.heap[k]?) (hs : ∀ k,k < w.heap.size → S k → S' k) : TOwn w' a l c zs S':=by
 obtain ⟨⟨h1,h2,h3,h4,h5⟩,h6⟩:=h
 rcases h6 with rfl | ⟨g,cur,rfl,hS,hg⟩
 ·exact ⟨⟨h1,h2,h3,h4,.inl rfl⟩,.inl rfl⟩
 ·have hg':=(hk g (lt_of_some hg) hS).trans hg;refine ⟨⟨h1,h2,h3,h4,h5.imp id ?_⟩,.inr ⟨g,cur,rfl,hs g (lt_of_some hg) hS,hg'⟩⟩;rintro ⟨b,o,e,hlt,hc⟩
  cases e
  exact ⟨g,0,rfl,lt_of_some hg',fun j x hx => by have:=hc j x hx;rw [cellK hg] at this;rw [cellK hg'];exact this⟩
theorem TOwn.below {w w' : World} {a : Option Addr} {l c : Nat} {zs : List ByteArray} {S : Nat → Prop} (h : TOwn w a l c zs S) (hb : Below w.heap.size w w') : TOwn w' a l c zs S:=h.keep (fun k hk _ => hb.block k hk) (fun _ _ s => s)
theorem TOwn.into {w : World} {a : Option Addr} {l c : Nat} {zs : List ByteArray} {S S' : Nat → Prop} (h : TOwn w a l c zs S) (hs : ∀ k,k < w.heap.size → S k → S' k) : TOwn w a l c zs S':=h.keep (fun _ _ _ => rfl) hs
theorem TOwn.of_row {w : World} {base n : Nat} {v : Value} {zs : List ByteArray} (h : w.ownsRow base 9 1 v n (zs.map Value.string)) (hs : ∀ (j : Nat) x,zs[j]? = some x → x.size ≤ 9223372036854775807) : ∃ a c,v = .slice a n c ∧ TOwn w a n c zs (fun k => base ≤ k):=by
 obtain ⟨hl,h⟩:=h
 have hl' : zs.length = n:=by simpa using hl
 rcases h with ⟨rfl,rfl⟩ | ⟨g,cap,cur,rfl,hbg,hg,hnc,hcm,hsz,htk⟩
 ·obtain rfl : zs = []:=List.eq_nil_of_length_eq_zero hl';exact ⟨none,0,rfl,⟨rfl,Nat.le_refl _,by omega,fun j x hx => by simp at hx,.inl rfl⟩,.inl rfl⟩
 ·refine ⟨some ⟨g,0,none⟩,cap,rfl,⟨hl',hnc,by unfold maxLen at hcm;omega,hs,.inr ⟨g,0,rfl,lt_of_some hg,fun j x hx => ?_⟩⟩,.inr ⟨g,cur,rfl,hbg,hg⟩⟩;rw [Nat.zero_add,cellK hg]
  have hj : j < n:=by have:=(List.getElem?_eq_some_iff.1 hx).1;omega
  have e1 : (cur.toList.take (n * 1))[j]? = some (.string x):=by rw [htk];simp [hx]
  rw [List.getElem?_take,if_pos (by omega)] at e1
  simpa using e1
theorem owns_below {w w' : World} {base n m : Nat} {T : TypeId} {v : Value} {xs : List Value} (h : w.ownsRow base T m v n xs) (hb : Below w.heap.size w w') : w'.ownsRow base T m v n xs:=by
 refine ⟨h.1,h.2.imp id ?_⟩;rintro ⟨g,cap,cur,h1,h2,h3,h4⟩;exact ⟨g,cap,cur,h1,h2,(hb.block _ (lt_of_some h3)).trans h3,h4⟩

theorem mkN_up : ∀ (r : List Fv) (k : Int),(∀ (i : Nat) zs,r[i]? = some (.l zs) → zs.length ≤ 1048576) → mkN k r ≤ k + r.length * 1048577
 | [],k,_ => by simp [mkN]
 | f :: r,k,h => by
  have h1:=mkN_up r (mkN1 k f) (fun i zs hi => h (i + 1) zs (by simpa using hi))
  have h2 : mkN1 k f ≤ k + 1048577:=by
   cases f with
   | l zs => have:=h 0 zs rfl;simp only [mkN1];omega
   | _ => simp only [mkN1];omega
  simp only [mkN,List.length_cons]
  omega
theorem mkNs_up {m : Nat} : ∀ (rs : List (List Fv)) (k : Int),(∀ (j : Nat) r,rs[j]? = some r → r.length ≤ m ∧ ∀ (i : Nat) zs,r[i]? = some (.l zs) → zs.length ≤ 1048576) → mkNs k rs ≤ k + rs.length * (m * 1048577)
 | [],k,_ => by simp [mkNs]
 | r :: rs,k,h => by
  have h1:=mkNs_up rs (mkN k r) (fun j r' hj => h (j + 1) r' (by simpa using hj));obtain ⟨h2,h3⟩:=h 0 r rfl;have h4:=mkN_up r k h3;have h5 : r.length * 1048577 ≤ m * 1048577:=Nat.mul_le_mul_right _ h2
  have h6 : ((rs.length + 1 : Nat) : Int) * (m * 1048577) = rs.length * (m * 1048577) + m * 1048577:=by
   rw [Int.natCast_add]
   simp [Int.add_mul]
  simp only [mkNs,List.length_cons];rw [h6]
  omega
theorem flat_fit {α : Type} {F : α → List Fv} {xs : List α} {m : Nat} (hm : ∀ x,(F x).length ≤ m) (hl : ∀ (j : Nat) x,xs[j]? = some x → ∀ (i : Nat) zs,(F x)[i]? = some (.l zs) → zs.length ≤ 1048576) (hx : xs.length ≤ 1048576) (hm8 : m ≤ 8) (k : Int) : mkNs k (xs.map F) ≤ k + 8796101410816:=by
 have h:=mkNs_up (m:=m) (xs.map F) k (fun j r hj => by
  rw [List.getElem?_map] at hj;obtain ⟨x,h1,rfl⟩:=Option.map_eq_some_iff.1 hj
  exact ⟨hm x,hl j x h1⟩)
 rw [List.length_map] at h;have h2 : xs.length * (m * 1048577) ≤ 1048576 * (8 * 1048577):=Nat.mul_le_mul hx (Nat.mul_le_mul_right _ hm8)
 have h3 : ((xs.length * (m * 1048577) : Nat) : Int) = (xs.length : Int) * ((m : Int) * 1048577):=by rw [Int.natCast_mul,Int.natCast_mul];rfl
 rw [← h3] at h
 omega
theorem ClFit.marks2 {c : Cl} (h : ClFit c) : mkCn 1 c.raw ≤ 1000000000000000:=by
 have one : ∀ {zs zs' : List ByteArray},zs.length ≤ 1048576 → some (Fv.l zs) = some (.l zs') → zs'.length ≤ 1048576:=fun h e => by cases e;exact h
 have a1:=fun k => flat_fit (F:=ndF) (m:=7) (xs:=c.ns) (fun _ => Nat.le_refl _) (fun j x hx i zs hi => by
  rcases i with _ | _ | _ | _ | _ | _ | _ | i <;> first | (simp [ndF] at hi;done) | exact one (h.f1 j x hx) hi) h.l1 (by decide) k
 have a2:=fun k => flat_fit (F:=kdF) (m:=4) (xs:=c.ks) (fun _ => Nat.le_refl _) (fun j x hx i zs hi => by
  rcases i with _ | _ | _ | _ | i <;> (simp [kdF] at hi)) h.l2 (by decide) k
 have a3:=fun k => flat_fit (F:=vdF) (m:=8) (xs:=c.vs) (fun _ => Nat.le_refl _) (fun j x hx i zs hi => by
  rcases i with _ | _ | _ | _ | _ | _ | _ | _ | i <;> first | (simp [vdF] at hi;done) | exact one (h.f3 j x hx) hi) h.l3 (by decide) k
 have a4:=fun k => flat_fit (F:=xdF) (m:=5) (xs:=c.xs) (fun _ => Nat.le_refl _) (fun j x hx i zs hi => by
  rcases i with _ | _ | _ | _ | _ | i <;> (simp [xdF] at hi)) h.l4 (by decide) k
 have a5:=fun k => flat_fit (F:=pdF) (m:=6) (xs:=c.ps) (fun _ => Nat.le_refl _) (fun j x hx i zs hi => by
  rcases i with _ | _ | _ | _ | _ | _ | i <;> first | (simp [pdF] at hi;done) | exact one (h.f5 j x hx) hi) h.l5 (by decide) k
 unfold mkCn Cl.raw;have b1:=a1 1;have b2:=a2 (mkNs 1 (c.ns.map ndF));have b3:=a3 (mkNs (mkNs 1 (c.ns.map ndF)) (c.ks.map kdF));have b4:=a4 (mkNs (mkNs (mkNs 1 (c.ns.map ndF)) (c.ks.map kdF)) (c.vs.map vdF));have b5:=a5 (mkNs (mkNs (mkNs (mkNs 1 (c.ns.map ndF)) (c.ks.map kdF)) (c.vs.map vdF)) (c.xs.map xdF));simp only []
 omega
theorem ClFit.marks {c : Cl} (h : ClFit c) : mkCn 1 c.raw ≤ 1152921504606846976:=Int.le_trans h.marks2 (by decide)

end Rc
end Go.Proofs.YtdfgbboadbnodaaGreatDoor

namespace Go.Proofs.YtdfgbboadbnodaaGreatDoor
open Go.RowKit
namespace Ap

def OwnAns (zs : List ByteArray) (w : World) (a : Option Addr) (len cap : Nat) (w' : World) : Prop :=
 TxRow w' a len cap zs ∧ (zs = [] ∨ ∃ g cur,a = some ⟨g,0,none⟩ ∧ w.heap.size ≤ g ∧ w'.heap[g]? = some (.cells cur 9 (0,0))) ∧ Below w.heap.size w w'
theorem own_of {w w0 : World} {base n : Nat} {v : Value} {zs : List ByteArray} (h : w.ownsRow base 9 1 v n (zs.map Value.string)) (hb : Below base w0 w) (hB : base = w0.heap.size) (hs : ∀ (j : Nat) x,zs[j]? = some x → x.size ≤ 9223372036854775807) :
  ∃ a l c,v = .slice a l c ∧ OwnAns zs w0 a l c w:=by
 subst hB;obtain ⟨hl,h⟩:=h
 have hl' : zs.length = n:=by simpa using hl
 rcases h with ⟨rfl,rfl⟩ | ⟨g,cap,cur,rfl,hbg,hg,hnc,hcm,hsz,htk⟩
 ·obtain rfl : zs = []:=List.eq_nil_of_length_eq_zero hl';exact ⟨none,0,0,rfl,⟨rfl,Nat.le_refl _,by omega,fun j x hx => by simp at hx,.inl rfl⟩,.inl rfl,hb⟩
 ·refine ⟨some ⟨g,0,none⟩,n,cap,rfl,⟨hl',hnc,by unfold maxLen at hcm;omega,hs,.inr ⟨g,0,rfl,lt_of_some hg,fun j x hx => ?_⟩⟩,.inr ⟨g,cur,rfl,hbg,hg⟩,hb⟩;rw [Nat.zero_add,cellK hg]
  have hj : j < n:=by have:=(List.getElem?_eq_some_iff.1 hx).1;omega
  have e1 : (cur.toList.take (n * 1))[j]? = some (.string x):=by rw [htk];simp [hx]
  rw [List.getElem?_take,if_pos (by omega)] at e1
  simpa using e1
theorem news_of {w : World} {ad : Addr} {len cap : Nat} {zs : List ByteArray} (h : TxRow w (some ad) len cap zs) : ∀ j u,(zs.map Value.string)[j]? = some u → w.cell? (ad.add j) = some u:=by
 intro j u hu;rw [List.getElem?_map] at hu;obtain ⟨x,hx,rfl⟩:=Option.map_eq_some_iff.1 hu
 rcases h.2.2.2.2 with h | ⟨b,o,e,_,hc⟩
 ·subst h;simp at hx
 ·cases e
  rw [Addr.add_lit];exact hc j x hx

theorem ownNames_any (a : Option Addr) (len cap : Nat) (zs : List ByteArray) (w : World) (hr : TxRow w a len cap zs) (hl : len ≤ 8001) :
  Calls Tryz.prog 98 #[.slice a len cap] w fun e w' => ∃ a' l c,e = .returned (.slice a' l c) ∧ OwnAns zs w a' l c w':=by
 cases a with
 | none =>
  obtain rfl : zs = []:=by
   rcases hr.2.2.2.2 with h | ⟨b,o,e,_⟩
   ·exact h
   ·cases e
  obtain rfl : len = 0:=by have:=hr.1;simpa using this.symm
  clear hr
  go_enter Tryz.func98,Tryz.ntmps98
  go_wp2
  go_ret;exact ⟨_,_,_,rfl,⟨rfl,Nat.le_refl _,by omega,fun j x hx => by simp at hx,.inl rfl⟩,.inl rfl,Below.refl _ _⟩
 | some ad =>
  have HN:=hidK (news_of hr);have HZ:=hidK hr.2.2.2.1;have hzl:=hr.1;clear hr;obtain ⟨i0,hi,hz0,hz1,hz2⟩:=info_parts infoStr
  go_enter Tryz.func98,Tryz.ntmps98
  go_wp2_with (first | (at_builtin;refine wpList_append_own _ rfl _ _ 54 rfl w.heap.size 9 i0 (.string ⟨#[]⟩) 1 16 Tryz.underlying54 hi hz0 hz1 hz2 rfl (by decide) _ 0 _ rfl (World.ownsRow_nil w w.heap.size 9 1) ad len cap (zs.map Value.string) rfl ?c1 HN.out ?c3 ?c4 ?c5 (Nat.le_refl _) ?_))
  case c1 => simpa using hzl
  case c3 => intro u hu;obtain ⟨x,_,rfl⟩:=List.mem_map.1 hu;rfl
  case c4 => unfold maxLen;omega
  case c5 => omega
  intro v' w3 hown3 hgrow hv;have HB3:=hidK ((Below.refl w.heap.size w).grown hgrow (Nat.le_refl _) (fun k hk => by cases hk));have HO:=hidK hown3;clear hown3 hgrow hv
  go_wp2
  go_ret;obtain ⟨a',l,c,rfl,h2⟩:=own_of HO.out HB3.out rfl HZ.out;exact ⟨a',l,c,rfl,h2⟩

theorem OwnAns.set {zs : List ByteArray} {w w' : World} {a : Option Addr} {l p b i X : Nat} {v : Value} (h : TxRow w' a l p zs ∧ (zs = [] ∨ ∃ g cur,a = some ⟨g,0,none⟩ ∧ X ≤ g ∧ w'.heap[g]? = some (.cells cur 9 (0,0))) ∧ Below w.heap.size w w') (hb : w.heap.size ≤ b) (hX : b < X) :
  TxRow (w'.setCell ⟨b,i,none⟩ v) a l p zs ∧ (zs = [] ∨ ∃ g cur,a = some ⟨g,0,none⟩ ∧ X ≤ g ∧ (w'.setCell ⟨b,i,none⟩ v).heap[g]? = some (.cells cur 9 (0,0))) ∧ Below w.heap.size w (w'.setCell ⟨b,i,none⟩ v):=by
 obtain ⟨⟨h1,h2,h3,h4,h5⟩,h6,h7⟩:=h;refine ⟨⟨h1,h2,h3,h4,?_⟩,?_,h7.setCell hb v⟩
 ·rcases h6 with h6 | ⟨g,cur,rfl,hg,hh⟩
  ·exact .inl h6
  ·rcases h5 with h5 | ⟨g',o,e,hl,hc⟩
   ·exact .inl h5
   ·cases e
    have hs : (w'.setCell ⟨b,i,none⟩ v).heap[g]? = w'.heap[g]?:=Below.heap_setCell _ _ _ _ (show g ≠ b by omega);exact .inr ⟨g,0,rfl,by simpa [World.setCell] using hl,fun j x hx => by have:=hc j x hx;simp only [World.cell?,hs] at this ⊢;exact this⟩
 ·rcases h6 with h6 | ⟨g,cur,rfl,hg,hh⟩
  ·exact .inl h6
  ·exact .inr ⟨g,cur,rfl,hg,(Below.heap_setCell _ _ _ _ (show g ≠ b by omega)).trans hh⟩

theorem scopy_any (n : ByteArray) (c : Int) (z : ByteArray) (k : ByteArray) (x : Bool) (m : ByteArray) (y : Bool) (a : Option Addr) (len cap : Nat) (zs : List ByteArray) (w : World) (hr : TxRow w a len cap zs) (hl : len ≤ 8001) :
  Calls Tryz.prog 52 #[.agg #[.string n,.int .i64 c,.string z,.string k,.bool x,.string m,.bool y,.slice a len cap]] w fun e w' => ∃ a' l p,e = .returned (.agg #[.string n,.int .i64 c,.string z,.string k,.bool x,.string m,.bool y,.slice a' l p]) ∧ OwnAns zs w a' l p w':=by
 have hown : (((w.alloc (.cells #[.string n,.int .i64 c,.string z,.string k,.bool x,.string m,.bool y,.slice a len cap] 101)).alloc (.cells #[.string ⟨#[]⟩,.int .i64 0,.string ⟨#[]⟩,.string ⟨#[]⟩,.bool false,.string ⟨#[]⟩,.bool false,.slice none 0 0] 101)).alloc (.cells #[] 9)).ownsRow (w.heap.size + 1 + 1) 9 1 (.slice (some ⟨w.heap.size + 1 + 1,0,none⟩) 0 0) 0 []:=⟨rfl,.inr ⟨w.heap.size + 1 + 1,0,#[],rfl,Nat.le_refl _,heap3_2 _ _ _ _,Nat.le_refl _,by unfold maxLen;omega,rfl,rfl⟩⟩;have HOW:=hidK hown;have hr3:=hr.below (below3 w (.cells #[.string n,.int .i64 c,.string z,.string k,.bool x,.string m,.bool y,.slice a len cap] 101) (.cells #[.string ⟨#[]⟩,.int .i64 0,.string ⟨#[]⟩,.string ⟨#[]⟩,.bool false,.string ⟨#[]⟩,.bool false,.slice none 0 0] 101) (.cells #[] 9));have HZ:=hidK hr.2.2.2.1;have hzl:=hr.1;have HR3:=hidK hr3;clear hown hr3;obtain ⟨i0,hi,hz0,hz1,hz2⟩:=info_parts infoStr
 cases a with
 | none =>
  obtain rfl : zs = []:=by
   rcases hr.2.2.2.2 with h | ⟨b,o,e,_⟩
   ·exact h
   ·cases e
  obtain rfl : len = 0:=by simpa using hzl.symm
  clear hr HOW HR3 hi hz0 hz1 hz2
  go_enter Tryz.func52,Tryz.ntmps52
  go_wp2
  exact bodyPost_ret (v:=.agg #[.string n,.int .i64 c,.string z,.string k,.bool x,.string m,.bool y,.slice (some ⟨w.heap.size + 1 + 1,0,none⟩) 0 0]) (by simp [results,Tryz.results52,go_sem]) rfl ⟨_,_,_,rfl,⟨rfl,Nat.le_refl _,by omega,fun j x hx => by simp at hx,.inl rfl⟩,.inl rfl,below3 _ _ _ _⟩
 | some ad =>
  have HN:=hidK (news_of HR3.out);clear hr
  go_enter Tryz.func52,Tryz.ntmps52
  go_wp2_with (first | (at_builtin;refine wpList_append_own _ rfl _ _ 54 rfl (w.heap.size + 1 + 1) 9 i0 (.string ⟨#[]⟩) 1 16 Tryz.underlying54 hi hz0 hz1 hz2 rfl (by decide) _ 0 _ rfl HOW.out ad len cap (zs.map Value.string) rfl ?c1 HN.out ?c3 ?c4 ?c5 (by simp) ?_))
  case c1 => simpa using hzl
  case c3 => intro u hu;obtain ⟨x,_,rfl⟩:=List.mem_map.1 hu;rfl
  case c4 => unfold maxLen;omega
  case c5 => omega
  intro v' w3 hown3 hgrow hv;have hb3:=(Below.refl (w.heap.size + 1 + 1) _).grown hgrow (by simp) (fun k hk => by simp [Value.ownBlock] at hk;omega);have g0:=(hb3.block w.heap.size (by omega)).trans (heap3_0 _ _ _ _);have g1:=(hb3.block (w.heap.size + 1) (by omega)).trans (heap3_1 _ _ _ _)
  obtain ⟨a',l,p,rfl,hq⟩ : ∃ a' l p,v' = .slice a' l p ∧ (TxRow w3 a' l p zs ∧ (zs = [] ∨ ∃ g cur,a' = some ⟨g,0,none⟩ ∧ w.heap.size + 1 + 1 ≤ g ∧ w3.heap[g]? = some (.cells cur 9 (0,0))) ∧ Below w.heap.size w w3):=by
   have hbw:=(below3 w _ _ _).trans (hb3.mono (by omega));have ho:=hown3;obtain ⟨hl1,h⟩:=ho;have hl':=hzl
   rcases h with ⟨rfl,h0⟩ | ⟨g,cp,cur,rfl,hbg,hg,hnc,hcm,hsz,htk⟩
   ·obtain rfl : zs = []:=List.eq_nil_of_length_eq_zero (by omega);exact ⟨none,0,0,rfl,⟨rfl,Nat.le_refl _,by omega,fun j x hx => by simp at hx,.inl rfl⟩,.inl rfl,hbw⟩
   ·refine ⟨some ⟨g,0,none⟩,len,cp,rfl,⟨hl',hnc,by unfold maxLen at hcm;omega,HZ.out,.inr ⟨g,0,rfl,lt_of_some hg,fun j x hx => ?_⟩⟩,.inr ⟨g,cur,rfl,hbg,hg⟩,hbw⟩;rw [Nat.zero_add,cellK hg]
    have hj : j < len:=by have:=(List.getElem?_eq_some_iff.1 hx).1;omega
    have e1 : (cur.toList.take (len * 1))[j]? = some (.string x):=by rw [htk];simp [hx]
    rw [List.getElem?_take,if_pos (by omega)] at e1
    simpa using e1
  have HQ:=hidK hq;have d0:=ck0 g0;have d1:=ck1 g0;have d2:=ck2 g0;have d3:=ck3 g0;have d4:=ck4 g0;have d5:=ck5 g0;have d6:=ck6 g0;have d7:=ck7 g0;have df7:=froK g0 7;have e0:=ck0 g1;have ef0:=froK g1 0;have e1:=ck1 g1;have ef1:=froK g1 1;have e2:=ck2 g1;have ef2:=froK g1 2;have e3:=ck3 g1;have ef3:=froK g1 3;have e4:=ck4 g1;have ef4:=froK g1 4;have e5:=ck5 g1;have ef5:=froK g1 5;have e6:=ck6 g1;have ef6:=froK g1 6;have e7:=ck7 g1;have ef7:=froK g1 7;have HQ2:=hidK (OwnAns.set (OwnAns.set (OwnAns.set (OwnAns.set (OwnAns.set (OwnAns.set (OwnAns.set (OwnAns.set (OwnAns.set HQ.out (b:=w.heap.size) (i:=7) (by omega) (by omega) (v:=.slice a' l p)) (b:=w.heap.size + 1) (i:=0) (by omega) (by omega) (v:=(.string n))) (b:=w.heap.size + 1) (i:=1) (by omega) (by omega) (v:=(.int .i64 c))) (b:=w.heap.size + 1) (i:=2) (by omega) (by omega) (v:=(.string z))) (b:=w.heap.size + 1) (i:=3) (by omega) (by omega) (v:=(.string k))) (b:=w.heap.size + 1) (i:=4) (by omega) (by omega) (v:=(.bool x))) (b:=w.heap.size + 1) (i:=5) (by omega) (by omega) (v:=(.string m))) (b:=w.heap.size + 1) (i:=6) (by omega) (by omega) (v:=(.bool y))) (b:=w.heap.size + 1) (i:=7) (by omega) (by omega) (v:=(.slice a' l p)));clear hown3 hgrow hv hb3 g0 g1 hq;go_wp2_with fail;refine bodyPost_ret (v:=.agg #[.string n,.int .i64 c,.string z,.string k,.bool x,.string m,.bool y,.slice a' l p]) (by simp [results,Tryz.results52,go_sem, *]) rfl ⟨a',l,p,rfl,HQ2.out.1,?_,HQ2.out.2.2⟩
  rcases HQ2.out.2.1 with h | ⟨g,cur,h1,h2,h3⟩
  ·exact .inl h
  ·exact .inr ⟨g,cur,h1,by omega,h3⟩

theorem iown_any (n : ByteArray) (c : Int) (z : ByteArray) (k : ByteArray) (x : Bool) (m : ByteArray) (y : Bool) (a : Option Addr) (len cap : Nat) (zs : List ByteArray) (w : World) (hr : TxRow w a len cap zs) (hl : len ≤ 8001) :
  Calls Tryz.prog 92 #[.agg #[.string n,.int .i64 c,.string z,.string k,.bool x,.string m,.bool y,.slice a len cap]] w fun e w' => ∃ a' l p,e = .returned (.agg #[.string n,.int .i64 c,.string z,.string k,.bool x,.string m,.bool y,.slice a' l p]) ∧ OwnAns zs w a' l p w':=by
 have HR:=hidK (hr.below (below2 w (.cells #[.string n,.int .i64 c,.string z,.string k,.bool x,.string m,.bool y,.slice a len cap] 101) (.cells #[.string ⟨#[]⟩,.int .i64 0,.string ⟨#[]⟩,.string ⟨#[]⟩,.bool false,.string ⟨#[]⟩,.bool false,.slice none 0 0] 101)));clear hr
 go_enter Tryz.func92,Tryz.ntmps92
 go_wp2_with fail;refine (ownNames_any a len cap zs _ HR.out hl).mono ?_;rintro e w3 ⟨a',l,p,rfl,h1,h2,hb⟩;have g0:=(hb.block w.heap.size (by simp;omega)).trans (heap2_0 _ _ _);have g1:=(hb.block (w.heap.size + 1) (by simp)).trans (heap2_1 _ _ _);have HQ : Hid (TxRow w3 a' l p zs ∧ (zs = [] ∨ ∃ g cur,a' = some ⟨g,0,none⟩ ∧ w.heap.size + 1 + 1 ≤ g ∧ w3.heap[g]? = some (.cells cur 9 (0,0))) ∧ Below w.heap.size w w3):=⟨h1,by simpa using h2,(below2 w _ _).trans (hb.mono (by simp;omega))⟩;have d0:=ck0 g0;have d1:=ck1 g0;have d2:=ck2 g0;have d3:=ck3 g0;have d4:=ck4 g0;have d5:=ck5 g0;have d6:=ck6 g0;have d7:=ck7 g0;have df7:=froK g0 7;have e0:=ck0 g1;have ef0:=froK g1 0;have e1:=ck1 g1;have ef1:=froK g1 1;have e2:=ck2 g1;have ef2:=froK g1 2;have e3:=ck3 g1;have ef3:=froK g1 3;have e4:=ck4 g1;have ef4:=froK g1 4;have e5:=ck5 g1;have ef5:=froK g1 5;have e6:=ck6 g1;have ef6:=froK g1 6;have e7:=ck7 g1;have ef7:=froK g1 7;have HQ2:=hidK (OwnAns.set (OwnAns.set (OwnAns.set (OwnAns.set (OwnAns.set (OwnAns.set (OwnAns.set (OwnAns.set (OwnAns.set HQ.out (b:=w.heap.size) (i:=7) (by omega) (by omega) (v:=.slice a' l p)) (b:=w.heap.size + 1) (i:=0) (by omega) (by omega) (v:=.string n)) (b:=w.heap.size + 1) (i:=1) (by omega) (by omega) (v:=.int .i64 c)) (b:=w.heap.size + 1) (i:=2) (by omega) (by omega) (v:=.string z)) (b:=w.heap.size + 1) (i:=3) (by omega) (by omega) (v:=.string k)) (b:=w.heap.size + 1) (i:=4) (by omega) (by omega) (v:=.bool x)) (b:=w.heap.size + 1) (i:=5) (by omega) (by omega) (v:=.string m)) (b:=w.heap.size + 1) (i:=6) (by omega) (by omega) (v:=.bool y)) (b:=w.heap.size + 1) (i:=7) (by omega) (by omega) (v:=.slice a' l p));clear h1 h2 hb g0 g1;go_wp2_with fail
 refine bodyPost_ret (v:=.agg #[.string n,.int .i64 c,.string z,.string k,.bool x,.string m,.bool y,.slice a' l p]) (by simp [results,Tryz.results92,go_sem, *]) rfl ⟨a',l,p,rfl,HQ2.out.1,?_,HQ2.out.2.2⟩
 rcases HQ2.out.2.1 with h | ⟨g,cur,h1,h2,h3⟩
 ·exact .inl h
 ·exact .inr ⟨g,cur,h1,by omega,h3⟩

end Ap
end Go.Proofs.YtdfgbboadbnodaaGreatDoor
