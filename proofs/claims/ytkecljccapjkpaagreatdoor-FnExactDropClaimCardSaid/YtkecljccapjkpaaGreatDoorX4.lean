import Derived.Test.YtkecljccapjkpaaGreatDoorX3
import Derived.WalkKit
import Derived.LaidEql
import Derived.Stop.Asserts
import Derived.RowKitTokens
import Derived.Test.YtkecljccapjkpaaGreatDoorRows
import Derived.WalkSpells
import Derived.RegionTactic
import Derived.Lib.Overlaps
import Derived.Lib.SliceRun
import Derived.Lib.AppendZerosOnto
import Derived.Deep.RegionLaw
import Derived.Shelf.RegionOpenPlain
import Derived.Deep.AppendLies
/-
 Whether pods are where they may be, as the specification asks it.
-/
set_option maxRecDepth 100000
set_option maxHeartbeats 12800000
namespace Go.Proofs.YtkecljccapjkpaaGreatDoor
open Go.RowKit
namespace Rc
open Mk

def PSa (c : Cl) (p : Pd) : Prop:=p.d = ⟨#[]⟩ ∨ ∃ (i : Nat) (n : Nd),c.ns[i]? = some n ∧ n.n = p.d ∧ (p.z = ⟨#[]⟩ ∨ n.z = p.z)
def PSb1 (c : Cl) (p : Pd) (t : ByteArray) : Prop:=(∃ (i : Nat) (x : Xd),c.xs[i]? = some x ∧ x.n = t) ∧ (p.d = ⟨#[]⟩ ∨ ∃ (v : Vd) (i : Nat) (n : Nd),IsBd c t v ∧ c.ns[i]? = some n ∧ n.n = p.d ∧ v.z = n.z)
def PSb (c : Cl) (p : Pd) : Prop:=∀ (j : Nat) t,p.zs[j]? = some t → PSb1 c p t
def PSc (c : Cl) (k : Nat) (p : Pd) : Prop:=∀ (j : Nat) q,j < k → c.ps[j]? = some q → PairS c q p
def PS (c : Cl) (k : Nat) (p : Pd) : Prop:=PSa c p ∧ PSb c p ∧ PSc c k p
def PlacedS (c : Cl) : Prop:=(∀ (k : Nat) p,c.ps[k]? = some p → PS c k p) ∧ ∀ (j : Nat) n,c.ns[j]? = some n → cpuOf n.n c.ps ≤ n.c

theorem splaced_any (d : Ad) (c : Cl) (w : World) (hr : ClRow w d c.raw) (hn : RisBy Nd.n c.ns) (hx : RisBy Xd.n c.xs) (hv : RisBy Vd.n c.vs) (hne : ∀ (j : Nat) v,c.vs[j]? = some v → ¬ v.n = ⟨#[]⟩) (hps8 : c.ps.length ≤ 8) (hpc : ∀ (j : Nat) p,c.ps[j]? = some p → 0 ≤ p.c ∧ p.c ≤ 1000000) :
  Calls Tryz.prog 99 #[.agg #[.slice d.a1 d.l1 d.c1,.slice d.a2 d.l2 d.c2,.slice d.a3 d.l3 d.c3,.slice d.a4 d.l4 d.c4,.slice d.a5 d.l5 d.c5,.int .i64 c.now]] w (BoolB (PlacedS c) w):=by
 obtain ⟨a1,l1,y1,a2,l2,y2,a3,l3,y3,a4,l4,y4,a5,l5,y5⟩:=d;dsimp only;have HR:=hidK hr
 have hl1 : c.ns.length = l1:=by simpa using (show (c.ns.map ndF).length = l1 from hr.n.1)
 have hm1 : l1 ≤ 9223372036854775807:=Nat.le_trans hr.n.2.1 hr.n.2.2.1
 have hl2 : c.ks.length = l2:=by simpa using (show (c.ks.map kdF).length = l2 from hr.k.1)
 have hm2 : l2 ≤ 9223372036854775807:=Nat.le_trans hr.k.2.1 hr.k.2.2.1
 have hl3 : c.vs.length = l3:=by simpa using (show (c.vs.map vdF).length = l3 from hr.v.1)
 have hm3 : l3 ≤ 9223372036854775807:=Nat.le_trans hr.v.2.1 hr.v.2.2.1
 have hl4 : c.xs.length = l4:=by simpa using (show (c.xs.map xdF).length = l4 from hr.x.1)
 have hm4 : l4 ≤ 9223372036854775807:=Nat.le_trans hr.x.2.1 hr.x.2.2.1
 have hl5 : c.ps.length = l5:=by simpa using (show (c.ps.map pdF).length = l5 from hr.p.1)
 have hm5 : l5 ≤ 9223372036854775807:=Nat.le_trans hr.p.2.1 hr.p.2.2.1;clear hr;have HNR:=hidK hn;have HX:=hidK hx;have HV:=hidK hv;have HNE:=hidK hne;have HL5:=hidK hps8;have HPC:=hidK hpc;clear hn hx hv hne hps8 hpc
 go_enter Tryz.func99,Tryz.ntmps99
 go_wp2
 go_loopw [3] (fun i wr => ∃ k : Nat,k ≤ l5 ∧ i = .int .i64 k ∧ Hid (∀ (j : Nat) z,j < k → c.ps[j]? = some z → PS c j z) ∧ Hid (Below w.heap.size w wr) ∧ Hid (wr.heap[w.heap.size]? = some (.cells #[.slice a1 l1 y1,.slice a2 l2 y2,.slice a3 l3 y3,.slice a4 l4 y4,.slice a5 l5 y5,.int .i64 c.now] 36 (0,0)))) (fun i _ => l5 - (intOf i).toNat)
 case atStart => exact ⟨0,by omega,rfl,fun _ _ h => absurd h (by omega),below1 _ _,Array.getElem?_push_size⟩
 case round =>
  obtain ⟨k,hk,rfl,HQ,HB,Bk⟩:=hrel;have pk : wr.cell? ⟨w.heap.size,4,none⟩ = some (.slice a5 l5 y5):=cellK Bk.out 4
  by_cases hlt : k < l5
  ·obtain ⟨b,o,p,rfl,hb,hx,hat⟩:=pd_at (HR.out.p.below HB.out) hlt;obtain ⟨va,vl,vc,hvr,z0,z2,z4,c0,c1,c2,c3,c4,c5⟩:=pd_cells hat;have HXp:=hidK hx;have HTp:=hidK hvr;have HZp0:=hidK z0;have HZp2:=hidK z2;have HZp4:=hidK z4;clear hat hx z0 z2 z4 hvr;have hvl : p.zs.length = vl:=HTp.out.1;have hvc : vl ≤ 9223372036854775807:=Nat.le_trans HTp.out.2.1 HTp.out.2.2.1;have HVL:=hidK hvl;clear hvl;obtain ⟨k0,k1,k2,k3,k4,k5⟩:=cs6 Bk.out;have ltk_0:=lt_of_some Bk.out;go_wp2_with fail;refine (sxnd_any ⟨a1,l1,y1,a2,l2,y2,a3,l3,y3,a4,l4,y4,(some ⟨b,o,none⟩),l5,y5⟩ c.now c.ns p.d _ (HR.out.n.below (HB.out.trans ((below1 _ _).mono HB.out.size)))).mono ?_;rintro e w1 ⟨hb2,hf⟩;clear k0 k1 k2 k3 k4 k5 ltk_0;obtain ⟨HA0,hbx⟩:=slots1 hb2;replace Bk:=upK Bk hbx;have Br:=hidK HA0;replace HTp:=hidK (HTp.out.below hbx);replace HB:=upB HB hbx;clear hb2 hbx HA0;clear pk hb c0 c1 c2 c3 c4 c5
   by_cases he : p.d = ⟨#[]⟩
   ·have hq:=isE_y he;have HEm:=hidK he;clear he
    obtain ⟨r5,hre⟩ : ∃ r : Int,e = .returned (.int .i64 r):=by rcases hf with ⟨j,y,_,_,h⟩ | ⟨_,h⟩ <;> exact ⟨_,h⟩
    subst hre;clear hf;have Gk:=Bk;have Gr:=Br;have HW:=HB;have k0:=fun q : Wd w1 => q.slot (o:=0) Gk.out rfl;obtain ⟨r0,r1,r2,r3,r4,r5⟩:=sl6 Gr;have hne0:=Wd.ne w1;go_wp2_with fail;refine wp_region_wide (by kernel_rfl) (by kernel_rfl) ?_
    repeat (go_big_quiet_step (first | fail))
    refine wpQuiet_nil ?_;rintro _ ⟨q0,rfl⟩;have HB2:=upB HW q0.b;have Ck:=upK Gk q0.b;have Cr:=upK Gr q0.b;have CHTp:=hidK ((HTp.out).below q0.b);clear hne0 HW HB k0 r0 r1 r2 r3 r4 r5 Gk Gr Bk Br HTp;have HB:=HB2;clear HB2;have HTp:=CHTp;clear CHTp;have Bk:=Ck;clear Ck;have Br:=Cr;clear Cr;have HPa : Hid (PSa c p):=.inl HEm.out;obtain ⟨gb,hgb⟩ : ∃ gb,gb = wr.heap.size:=⟨_,rfl⟩;rw [← hgb] at Br;have pr3 : q0.w.cell? ⟨gb,3,none⟩ = some (.slice va vl vc):=cellK Br.out 3;rw [hgb] at pr3
    go_wp2
    rw [← hgb];clear pr3 hgb;have KV:=Bk;have GV:=Br;have BV:=HB;have TV:=HTp;clear Bk Br HB HTp;obtain ⟨W,hW⟩ : ∃ W,W = q0.w:=⟨_,rfl⟩;rw [← hW] at KV GV BV TV ⊢;clear hW
    go_loopw [6] (fun i wr => ∃ kq : Nat,kq ≤ vl ∧ i = .int .i64 kq ∧ Hid (∀ (j : Nat) t,j < kq → p.zs[j]? = some t → PSb1 c p t) ∧ Hid (Below W.heap.size W wr)) (fun i _ => vl - (intOf i).toNat)
    case atStart => exact ⟨0,by omega,rfl,fun _ _ h => absurd h (by omega),Below.refl _ _⟩
    case round =>
     obtain ⟨kq,hkq,rfl,HQ2,HBW⟩:=hrel;have HB:=hidK (BV.out.trans (HBW.out.mono BV.out.size));have Bk:=upK KV HBW.out;have Br:=upK GV HBW.out;have pr3 : wr.cell? ⟨gb,3,none⟩ = some (.slice va vl vc):=cellK Br.out 3
     by_cases hlt2 : kq < vl
     ·obtain ⟨b2,o2,t,rfl,hb,hxt,hc,hsz⟩:=(TV.out.below HBW.out).at hlt2;have HXt:=hidK hxt;clear hxt hsz
      have hcase : (∃ v,IsBd c t v) ∨ (∀ v,¬ IsBd c t v):=by
       by_cases h : ∃ v,IsBd c t v
       ·exact .inl h
       ·exact .inr (fun v hv => h ⟨v,hv⟩)
      rcases hcase with ⟨v,hbd⟩ | hbd
      ·obtain ⟨j3,hj3⟩:=hbd.at
       have hl3' : j3 < l3:=by have h1:=(List.getElem?_eq_some_iff.1 hj3).1;omega
       obtain ⟨b3,o3,v',rfl,hb3,hv',hat⟩:=vd_at HR.out.v hl3';rw [hj3] at hv';obtain rfl:=Option.some.inj hv';obtain ⟨xa,xl,xc,hvr,z0,z2,z3,z5,d0,d1,d2,d3,d4,d5,d6,d7⟩:=vd_cells hat;have HJ:=hidK hj3;have HD:=hidK hbd;have HC2:=hidK d2;have HB3:=hidK hb3
       have hj31 : decide ((j3 : Int) < 0) = false:=by simp
       clear hv' hat hvr z0 z2 z3 z5 d0 d1 d2 d3 d4 d5 d6 d7 hj3 hbd hb3;have Gk:=Bk;have Gr:=Br;have HW:=HB;obtain ⟨k0,k1,k2,k3,k4,k5⟩:=sl6 Gk;have r3:=fun q : Wd wr => q.slot (o:=3) Gr.out rfl;have tw:=fun q : Wd wr => (q.cell hb).trans hc;have hne0:=Wd.ne wr;have HC0:=hidK (fun q : Wd wr => sbind_hit ⟨a1,l1,y1,a2,l2,y2,(some ⟨b3,o3,none⟩),l3,y3,a4,l4,y4,(some ⟨b,o,none⟩),l5,y5⟩ c t q.w (HR.out.below (HW.out.trans (q.b.mono HW.out.size))) HX.out HV.out HNE.out HJ.out HD.out);go_wp2_with fail;refine wp_region_wide (by kernel_rfl) (by kernel_rfl) ?_
       repeat (go_big_quiet_step (first | (go_at_call 24;exact Calls.wide (HC0.out _)) | fail))
       refine wpQuiet_nil ?_;rintro _ ⟨q1,rfl⟩;have HB1:=upB HW q1.b;have Ck:=upK Gk q1.b;have Cr:=upK Gr q1.b;clear hne0 HW HB HC0 k0 k1 k2 k3 k4 k5 r3 tw Gk Gr Bk Br pr3;have HB:=HB1;clear HB1;have Bk:=Ck;clear Ck;have Br:=Cr;clear Cr;have hc1:=(q1.cell hb).trans hc;have hb1 : b2 < q1.w.heap.size:=Nat.lt_of_lt_of_le hb q1.b.size;have HBW1:=upB HBW q1.b;clear hc hb HBW
       by_cases hg : ∃ (i : Nat) (x : Xd),c.xs[i]? = some x ∧ x.n = t
       rotate_left
       ·have HG:=hidK hg;clear hg;have Gk:=Bk;have Gr:=Br;have HW:=HB;obtain ⟨k0,k1,k2,k3,k4,k5⟩:=sl6 Gk;obtain ⟨r0,r1,r2,r3,r4,r5⟩:=sl6 Gr;have tw:=fun q : Wd q1.w => (q.cell hb1).trans hc1;have hne0:=Wd.ne q1.w;have HC0:=hidK (fun q : Wd q1.w => sxxd_miss ⟨a1,l1,y1,a2,l2,y2,(some ⟨b3,o3,none⟩),l3,y3,a4,l4,y4,(some ⟨b,o,none⟩),l5,y5⟩ c.now c.xs t q.w (HR.out.x.below (HW.out.trans (q.b.mono HW.out.size))) (fun i x h1 h2 => HG.out ⟨i,x,h1,h2⟩));go_wp2_with fail;refine wp_region_wide (by kernel_rfl) (by kernel_rfl) ?_
        repeat (go_big_quiet_step (first | (go_at_call 23;exact Calls.wide (HC0.out _)) | fail))
        refine wpQuiet_nil ?_;rintro _ ⟨q2,rfl⟩;have HB2:=upB HW q2.b;have Ck:=upK Gk q2.b;have Cr:=upK Gr q2.b;clear hne0 HW HB HC0 k0 k1 k2 k3 k4 k5 r0 r1 r2 r3 r4 r5 tw Gk Gr Bk Br hc1 hb1;have HB:=HB2;clear HB2;have Bk:=Ck;clear Ck;have Br:=Cr;clear Cr
        go_wp2
        go_ret;refine BoolB.f (fun h => ?_) HB.out;have h9:=(h.1 k p HXp.out).2.1 kq t HXt.out;exact HG.out h9.1
       obtain ⟨i4,x4,g1,g2⟩:=hg;have HG1:=hidK g1;have HG2:=hidK g2
       have hi41 : decide ((i4 : Int) < 0) = false:=by simp
       clear g1 g2;have Gk:=Bk;have Gr:=Br;have HW:=HB;obtain ⟨k0,k1,k2,k3,k4,k5⟩:=sl6 Gk;obtain ⟨r0,r1,r2,r3,r4,r5⟩:=sl6 Gr;have tw:=fun q : Wd q1.w => (q.cell hb1).trans hc1;have hne0:=Wd.ne q1.w;have HC0:=hidK (fun q : Wd q1.w => sxxd_hit ⟨a1,l1,y1,a2,l2,y2,(some ⟨b3,o3,none⟩),l3,y3,a4,l4,y4,(some ⟨b,o,none⟩),l5,y5⟩ c.now c.xs t q.w (HR.out.x.below (HW.out.trans (q.b.mono HW.out.size))) HX.out HG1.out HG2.out);go_wp2_with fail;refine wp_region_wide (by kernel_rfl) (by kernel_rfl) ?_
       repeat (go_big_quiet_step (first | (go_at_call 23;exact Calls.wide (HC0.out _)) | fail))
       refine wpQuiet_nil ?_;rintro _ ⟨q2,rfl⟩;have HB2:=upB HW q2.b;have Ck:=upK Gk q2.b;have Cr:=upK Gr q2.b;clear hne0 HW HB HC0 k0 k1 k2 k3 k4 k5 r0 r1 r2 r3 r4 r5 tw Gk Gr Bk Br hc1 hb1;have HB:=HB2;clear HB2;have Bk:=Ck;clear Ck;have Br:=Cr;clear Cr;go_wp2_with fail;refine ⟨⟨kq + 1,by omega,by go_num,fun j s hj hs => ?_,HBW1.out.trans (q2.b.mono HBW1.out.size)⟩,by simp [intOf];omega⟩
       by_cases e : j = kq
       ·subst e;rw [HXt.out] at hs;obtain rfl:=Option.some.inj hs;exact ⟨⟨i4,x4,HG1.out,HG2.out⟩,.inl HEm.out⟩
       ·exact HQ2.out j s (by omega) hs
      ·have HD:=hidK hbd;clear hbd;have Gk:=Bk;have Gr:=Br;have HW:=HB;obtain ⟨k0,k1,k2,k3,k4,k5⟩:=sl6 Gk;have r3:=fun q : Wd wr => q.slot (o:=3) Gr.out rfl;have tw:=fun q : Wd wr => (q.cell hb).trans hc;have hne0:=Wd.ne wr;have HC0:=hidK (fun q : Wd wr => sbind_miss ⟨a1,l1,y1,a2,l2,y2,a3,l3,y3,a4,l4,y4,(some ⟨b,o,none⟩),l5,y5⟩ c t q.w (HR.out.below (HW.out.trans (q.b.mono HW.out.size))) HX.out HV.out HNE.out HD.out);go_wp2_with fail;refine wp_region_wide (by kernel_rfl) (by kernel_rfl) ?_
       repeat (go_big_quiet_step (first | (go_at_call 24;exact Calls.wide (HC0.out _)) | fail))
       refine wpQuiet_nil ?_;rintro _ ⟨q1,rfl⟩;have HB1:=upB HW q1.b;have Ck:=upK Gk q1.b;have Cr:=upK Gr q1.b;clear hne0 HW HB HC0 k0 k1 k2 k3 k4 k5 r3 tw Gk Gr Bk Br pr3;have HB:=HB1;clear HB1;have Bk:=Ck;clear Ck;have Br:=Cr;clear Cr;have hc1:=(q1.cell hb).trans hc;have hb1 : b2 < q1.w.heap.size:=Nat.lt_of_lt_of_le hb q1.b.size;have HBW1:=upB HBW q1.b;clear hc hb HBW
       by_cases hg : ∃ (i : Nat) (x : Xd),c.xs[i]? = some x ∧ x.n = t
       rotate_left
       ·have HG:=hidK hg;clear hg;have Gk:=Bk;have Gr:=Br;have HW:=HB;obtain ⟨k0,k1,k2,k3,k4,k5⟩:=sl6 Gk;obtain ⟨r0,r1,r2,r3,r4,r5⟩:=sl6 Gr;have tw:=fun q : Wd q1.w => (q.cell hb1).trans hc1;have hne0:=Wd.ne q1.w;have HC0:=hidK (fun q : Wd q1.w => sxxd_miss ⟨a1,l1,y1,a2,l2,y2,a3,l3,y3,a4,l4,y4,(some ⟨b,o,none⟩),l5,y5⟩ c.now c.xs t q.w (HR.out.x.below (HW.out.trans (q.b.mono HW.out.size))) (fun i x h1 h2 => HG.out ⟨i,x,h1,h2⟩));go_wp2_with fail;refine wp_region_wide (by kernel_rfl) (by kernel_rfl) ?_
        repeat (go_big_quiet_step (first | (go_at_call 23;exact Calls.wide (HC0.out _)) | fail))
        refine wpQuiet_nil ?_;rintro _ ⟨q2,rfl⟩;have HB2:=upB HW q2.b;have Ck:=upK Gk q2.b;have Cr:=upK Gr q2.b;clear hne0 HW HB HC0 k0 k1 k2 k3 k4 k5 r0 r1 r2 r3 r4 r5 tw Gk Gr Bk Br hc1 hb1;have HB:=HB2;clear HB2;have Bk:=Ck;clear Ck;have Br:=Cr;clear Cr
        go_wp2
        go_ret;refine BoolB.f (fun h => ?_) HB.out;have h9:=(h.1 k p HXp.out).2.1 kq t HXt.out;exact HG.out h9.1
       obtain ⟨i4,x4,g1,g2⟩:=hg;have HG1:=hidK g1;have HG2:=hidK g2
       have hi41 : decide ((i4 : Int) < 0) = false:=by simp
       clear g1 g2;have Gk:=Bk;have Gr:=Br;have HW:=HB;obtain ⟨k0,k1,k2,k3,k4,k5⟩:=sl6 Gk;obtain ⟨r0,r1,r2,r3,r4,r5⟩:=sl6 Gr;have tw:=fun q : Wd q1.w => (q.cell hb1).trans hc1;have hne0:=Wd.ne q1.w;have HC0:=hidK (fun q : Wd q1.w => sxxd_hit ⟨a1,l1,y1,a2,l2,y2,a3,l3,y3,a4,l4,y4,(some ⟨b,o,none⟩),l5,y5⟩ c.now c.xs t q.w (HR.out.x.below (HW.out.trans (q.b.mono HW.out.size))) HX.out HG1.out HG2.out);go_wp2_with fail;refine wp_region_wide (by kernel_rfl) (by kernel_rfl) ?_
       repeat (go_big_quiet_step (first | (go_at_call 23;exact Calls.wide (HC0.out _)) | fail))
       refine wpQuiet_nil ?_;rintro _ ⟨q2,rfl⟩;have HB2:=upB HW q2.b;have Ck:=upK Gk q2.b;have Cr:=upK Gr q2.b;clear hne0 HW HB HC0 k0 k1 k2 k3 k4 k5 r0 r1 r2 r3 r4 r5 tw Gk Gr Bk Br hc1 hb1;have HB:=HB2;clear HB2;have Bk:=Ck;clear Ck;have Br:=Cr;clear Cr;go_wp2_with fail;refine ⟨⟨kq + 1,by omega,by go_num,fun j s hj hs => ?_,HBW1.out.trans (q2.b.mono HBW1.out.size)⟩,by simp [intOf];omega⟩
       by_cases e : j = kq
       ·subst e;rw [HXt.out] at hs;obtain rfl:=Option.some.inj hs;exact ⟨⟨i4,x4,HG1.out,HG2.out⟩,.inl HEm.out⟩
       ·exact HQ2.out j s (by omega) hs
     ·obtain rfl : vl = kq:=by omega
      have HQb : Hid (PSb c p):=fun j t ht => HQ2.out j t (by have h1:=(List.getElem?_eq_some_iff.1 ht).1;have h2:=HVL.out;omega) ht;clear HQ2;have TV2:=hidK (TV.out.below HBW.out);have KV2:=Bk;have GV2:=Br;have BV2:=HB;clear KV GV BV TV Bk Br HB HBW;obtain ⟨W2,hW⟩ : ∃ W2,W2 = wr:=⟨_,rfl⟩;rw [← hW] at KV2 GV2 BV2 TV2
      go_wp2
      clear pr3;rw [← hW];clear hW
      go_loopw [8] (fun i wr => ∃ kz : Nat,kz ≤ k ∧ i = .int .i64 kz ∧ Hid (∀ (j : Nat) q,j < kz → c.ps[j]? = some q → PairS c q p) ∧ Hid (Below W2.heap.size W2 wr)) (fun i _ => k - (intOf i).toNat)
      case atStart => exact ⟨0,by omega,rfl,fun _ _ h => absurd h (by omega),Below.refl _ _⟩
      case round =>
       obtain ⟨kz,hkz,rfl,HQ3,HBW⟩:=hrel;have HB:=hidK (BV2.out.trans (HBW.out.mono BV2.out.size));have Bk:=upK KV2 HBW.out;have Br:=upK GV2 HBW.out;have HTp:=hidK (TV2.out.below HBW.out)
       by_cases hlt3 : kz < k
       ·obtain ⟨b',o',pq,e',hb',hqq,hatq⟩:=pd_at (HR.out.p.below HB.out) (show kz < l5 by omega)
        cases e'
        obtain ⟨qa,ql,qc,hqr,z0,z2,z4,d0,d1,d2,d3,d4,d5⟩:=pd_cells hatq;have HXq:=hidK hqq;have HTq:=hidK hqr;clear hatq hqq hqr z0 z2 z4
        by_cases hpr : PairS c pq p
        ·have HPr:=hidK hpr;clear hpr;have Gk:=Bk;have Gr:=Br;have HW:=HB;obtain ⟨k0,k1,k2,k3,k4,k5⟩:=sl6 Gk;obtain ⟨r0,r1,r2,r3,r4,r5⟩:=sl6 Gr;have q0 : ∀ q : Wd wr,q.w.cell? ⟨b,o + kz * 6,none⟩ = some (.string pq.n):=fun q => (q.cell (hb')).trans (d0);have q1 : ∀ q : Wd wr,q.w.cell? ⟨b,o + kz * 6 + 1,none⟩ = some (.int .i64 pq.c):=fun q => (q.cell (hb')).trans (d1);have q2 : ∀ q : Wd wr,q.w.cell? ⟨b,o + kz * 6 + 2,none⟩ = some (.string pq.z):=fun q => (q.cell (hb')).trans (d2);have q3 : ∀ q : Wd wr,q.w.cell? ⟨b,o + kz * 6 + 3,none⟩ = some (.slice qa ql qc):=fun q => (q.cell (hb')).trans (d3);have q4 : ∀ q : Wd wr,q.w.cell? ⟨b,o + kz * 6 + 4,none⟩ = some (.string pq.d):=fun q => (q.cell (hb')).trans (d4);have q5 : ∀ q : Wd wr,q.w.cell? ⟨b,o + kz * 6 + 5,none⟩ = some (.int .i64 pq.p):=fun q => (q.cell (hb')).trans (d5);have hne0:=Wd.ne wr;have HC0:=hidK (fun qw : Wd wr => (spair_any ⟨a1,l1,y1,a2,l2,y2,a3,l3,y3,a4,l4,y4,(some ⟨b,o,none⟩),l5,y5⟩ c pq p qa ql qc va vl vc qw.w (HR.out.below (HW.out.trans (qw.b.mono HW.out.size))) HX.out HV.out HNE.out (HTq.out.below qw.b) (HTp.out.below qw.b)).mono (fun _ _ h => BoolB.yes h HPr.out));go_wp2_with fail;refine wp_region_wide (by kernel_rfl) (by kernel_rfl) ?_
         repeat (go_big_quiet_step (first | (go_at_call 127;exact Calls.wide (HC0.out _)) | fail))
         refine wpQuiet_nil ?_;rintro _ ⟨q9,rfl⟩;have HB1:=upB HW q9.b;have Ck:=upK Gk q9.b;have Cr:=upK Gr q9.b;clear hne0 HW HB HC0 k0 k1 k2 k3 k4 k5 r0 r1 r2 r3 r4 r5 q0 q1 q2 q3 q4 q5 Gk Gr Bk Br d0 d1 d2 d3 d4 d5;have HB:=HB1;clear HB1;have Bk:=Ck;clear Ck;have Br:=Cr;clear Cr;go_wp2_with fail;refine ⟨⟨kz + 1,by omega,by go_num,fun j s hj hs => ?_,HBW.out.trans (q9.b.mono HBW.out.size)⟩,by simp [intOf];omega⟩
         by_cases e : j = kz
         ·subst e;rw [HXq.out] at hs;obtain rfl:=Option.some.inj hs;exact HPr.out
         ·exact HQ3.out j s (by omega) hs
        ·have HPr:=hidK hpr;clear hpr;have Gk:=Bk;have Gr:=Br;have HW:=HB;obtain ⟨k0,k1,k2,k3,k4,k5⟩:=sl6 Gk;obtain ⟨r0,r1,r2,r3,r4,r5⟩:=sl6 Gr;have q0 : ∀ q : Wd wr,q.w.cell? ⟨b,o + kz * 6,none⟩ = some (.string pq.n):=fun q => (q.cell (hb')).trans (d0);have q1 : ∀ q : Wd wr,q.w.cell? ⟨b,o + kz * 6 + 1,none⟩ = some (.int .i64 pq.c):=fun q => (q.cell (hb')).trans (d1);have q2 : ∀ q : Wd wr,q.w.cell? ⟨b,o + kz * 6 + 2,none⟩ = some (.string pq.z):=fun q => (q.cell (hb')).trans (d2);have q3 : ∀ q : Wd wr,q.w.cell? ⟨b,o + kz * 6 + 3,none⟩ = some (.slice qa ql qc):=fun q => (q.cell (hb')).trans (d3);have q4 : ∀ q : Wd wr,q.w.cell? ⟨b,o + kz * 6 + 4,none⟩ = some (.string pq.d):=fun q => (q.cell (hb')).trans (d4);have q5 : ∀ q : Wd wr,q.w.cell? ⟨b,o + kz * 6 + 5,none⟩ = some (.int .i64 pq.p):=fun q => (q.cell (hb')).trans (d5);have hne0:=Wd.ne wr;have HC0:=hidK (fun qw : Wd wr => (spair_any ⟨a1,l1,y1,a2,l2,y2,a3,l3,y3,a4,l4,y4,(some ⟨b,o,none⟩),l5,y5⟩ c pq p qa ql qc va vl vc qw.w (HR.out.below (HW.out.trans (qw.b.mono HW.out.size))) HX.out HV.out HNE.out (HTq.out.below qw.b) (HTp.out.below qw.b)).mono (fun _ _ h => BoolB.no h HPr.out));go_wp2_with fail;refine wp_region_wide (by kernel_rfl) (by kernel_rfl) ?_
         repeat (go_big_quiet_step (first | (go_at_call 127;exact Calls.wide (HC0.out _)) | fail))
         refine wpQuiet_nil ?_;rintro _ ⟨q9,rfl⟩;have HB1:=upB HW q9.b;have Ck:=upK Gk q9.b;have Cr:=upK Gr q9.b;clear hne0 HW HB HC0 k0 k1 k2 k3 k4 k5 r0 r1 r2 r3 r4 r5 q0 q1 q2 q3 q4 q5 Gk Gr Bk Br d0 d1 d2 d3 d4 d5;have HB:=HB1;clear HB1;have Bk:=Ck;clear Ck;have Br:=Cr;clear Cr
         go_wp2
         go_ret;exact BoolB.f (fun h => HPr.out ((h.1 k p HXp.out).2.2 kz pq hlt3 HXq.out)) HB.out
       ·obtain rfl : k = kz:=by omega
        go_wp2_with fail;refine ⟨⟨k + 1,by omega,by go_num,fun j z hj hz => ?_,HB.out,Bk.out⟩,by simp [intOf];omega⟩
        by_cases e : j = k
        ·subst e;rw [HXp.out] at hz;obtain rfl:=Option.some.inj hz;exact ⟨HPa.out,HQb.out,fun j2 q2 hj2 hq2 => HQ3.out j2 q2 hj2 hq2⟩
        ·exact HQ.out j z (by omega) hz
   have hq:=isE_no he;have HEm:=hidK he;clear he
   rcases hf with ⟨j1,n,h1,h2,rfl⟩ | ⟨hh,rfl⟩
   rotate_left
   ·have HH:=hidK hh;clear hh;have Gk:=Bk;have Gr:=Br;have HW:=HB;have k0:=fun q : Wd w1 => q.slot (o:=0) Gk.out rfl;obtain ⟨r0,r1,r2,r3,r4,r5⟩:=sl6 Gr;have hne0:=Wd.ne w1;go_wp2_with fail;refine wp_region_wide (by kernel_rfl) (by kernel_rfl) ?_
    repeat (go_big_quiet_step (first | fail))
    refine wpQuiet_nil ?_;rintro _ ⟨q0,rfl⟩;have HB2:=upB HW q0.b;have Ck:=upK Gk q0.b;have Cr:=upK Gr q0.b;have CHTp:=hidK ((HTp.out).below q0.b);clear hne0 HW HB k0 r0 r1 r2 r3 r4 r5 Gk Gr Bk Br HTp;have HB:=HB2;clear HB2;have HTp:=CHTp;clear CHTp;have Bk:=Ck;clear Ck;have Br:=Cr;clear Cr
    go_wp2
    go_ret;refine BoolB.f (fun h => ?_) HB.out
    rcases (h.1 k p HXp.out).1 with h2 | ⟨i,n,h2,h3,_⟩
    ·exact HEm.out h2
    ·exact HH.out i n h2 h3
   have hl1' : j1 < l1:=by have h3:=(List.getElem?_eq_some_iff.1 h1).1;omega
   obtain ⟨b1,o1,n',rfl,hb1n,hn',hat⟩:=nd_at HR.out.n hl1';rw [h1] at hn';obtain rfl:=Option.some.inj hn';obtain ⟨na,nl,nc,hnr,z0,z1,d0,d1,d2,d3,d4,d5,d6⟩:=nd_cells hat;have HJn:=hidK h1;have HNn:=hidK h2;have HCn:=hidK d1;have HBn:=hidK hb1n
   have hj11 : decide ((j1 : Int) < 0) = false:=by simp
   have hbn : b1 < w1.heap.size:=Nat.lt_of_lt_of_le hb1n HB.out.size;have n1:=(cell_below HB.out hb1n).trans d1;clear hn' hat hnr z0 z1 d0 d1 d2 d3 d4 d5 d6 h1 h2 hb1n
   by_cases hz0 : p.z = ⟨#[]⟩
   ·have hq2:=isE_y hz0;have HPa : Hid (PSa c p):=.inr ⟨j1,n,HJn.out,HNn.out,.inl hz0⟩;clear hz0;have Gk:=Bk;have Gr:=Br;have HW:=HB;have k0:=fun q : Wd w1 => q.slot (o:=0) Gk.out rfl;obtain ⟨r0,r1,r2,r3,r4,r5⟩:=sl6 Gr;have nw:=fun q : Wd w1 => (q.cell hbn).trans n1;have hne0:=Wd.ne w1;go_wp2_with fail;refine wp_region_wide (by kernel_rfl) (by kernel_rfl) ?_
    repeat (go_big_quiet_step (first | fail))
    refine wpQuiet_nil ?_;rintro _ ⟨q0,rfl⟩;have HB2:=upB HW q0.b;have Ck:=upK Gk q0.b;have Cr:=upK Gr q0.b;have CHTp:=hidK ((HTp.out).below q0.b);clear hne0 HW HB k0 r0 r1 r2 r3 r4 r5 nw Gk Gr Bk Br HTp hbn n1;have HB:=HB2;clear HB2;have HTp:=CHTp;clear CHTp;have Bk:=Ck;clear Ck;have Br:=Cr;clear Cr;clear hq2;obtain ⟨gb,hgb⟩ : ∃ gb,gb = wr.heap.size:=⟨_,rfl⟩;rw [← hgb] at Br;have pr3 : q0.w.cell? ⟨gb,3,none⟩ = some (.slice va vl vc):=cellK Br.out 3;rw [hgb] at pr3
    go_wp2
    rw [← hgb];clear pr3 hgb;have KV:=Bk;have GV:=Br;have BV:=HB;have TV:=HTp;clear Bk Br HB HTp;obtain ⟨W,hW⟩ : ∃ W,W = q0.w:=⟨_,rfl⟩;rw [← hW] at KV GV BV TV ⊢;clear hW
    go_loopw [6] (fun i wr => ∃ kq : Nat,kq ≤ vl ∧ i = .int .i64 kq ∧ Hid (∀ (j : Nat) t,j < kq → p.zs[j]? = some t → PSb1 c p t) ∧ Hid (Below W.heap.size W wr)) (fun i _ => vl - (intOf i).toNat)
    case atStart => exact ⟨0,by omega,rfl,fun _ _ h => absurd h (by omega),Below.refl _ _⟩
    case round =>
     obtain ⟨kq,hkq,rfl,HQ2,HBW⟩:=hrel;have HB:=hidK (BV.out.trans (HBW.out.mono BV.out.size));have Bk:=upK KV HBW.out;have Br:=upK GV HBW.out;have pr3 : wr.cell? ⟨gb,3,none⟩ = some (.slice va vl vc):=cellK Br.out 3
     by_cases hlt2 : kq < vl
     ·obtain ⟨b2,o2,t,rfl,hb,hxt,hc,hsz⟩:=(TV.out.below HBW.out).at hlt2;have HXt:=hidK hxt;clear hxt hsz
      have hcase : (∃ v,IsBd c t v) ∨ (∀ v,¬ IsBd c t v):=by
       by_cases h : ∃ v,IsBd c t v
       ·exact .inl h
       ·exact .inr (fun v hv => h ⟨v,hv⟩)
      rcases hcase with ⟨v,hbd⟩ | hbd
      ·obtain ⟨j3,hj3⟩:=hbd.at
       have hl3' : j3 < l3:=by have h1:=(List.getElem?_eq_some_iff.1 hj3).1;omega
       obtain ⟨b3,o3,v',rfl,hb3,hv',hat⟩:=vd_at HR.out.v hl3';rw [hj3] at hv';obtain rfl:=Option.some.inj hv';obtain ⟨xa,xl,xc,hvr,z0,z2,z3,z5,d0,d1,d2,d3,d4,d5,d6,d7⟩:=vd_cells hat;have HJ:=hidK hj3;have HD:=hidK hbd;have HC2:=hidK d2;have HB3:=hidK hb3
       have hj31 : decide ((j3 : Int) < 0) = false:=by simp
       clear hv' hat hvr z0 z2 z3 z5 d0 d1 d2 d3 d4 d5 d6 d7 hj3 hbd hb3;have Gk:=Bk;have Gr:=Br;have HW:=HB;obtain ⟨k0,k1,k2,k3,k4,k5⟩:=sl6 Gk;have r3:=fun q : Wd wr => q.slot (o:=3) Gr.out rfl;have tw:=fun q : Wd wr => (q.cell hb).trans hc;have hne0:=Wd.ne wr;have HC0:=hidK (fun q : Wd wr => sbind_hit ⟨(some ⟨b1,o1,none⟩),l1,y1,a2,l2,y2,(some ⟨b3,o3,none⟩),l3,y3,a4,l4,y4,(some ⟨b,o,none⟩),l5,y5⟩ c t q.w (HR.out.below (HW.out.trans (q.b.mono HW.out.size))) HX.out HV.out HNE.out HJ.out HD.out);go_wp2_with fail;refine wp_region_wide (by kernel_rfl) (by kernel_rfl) ?_
       repeat (go_big_quiet_step (first | (go_at_call 24;exact Calls.wide (HC0.out _)) | fail))
       refine wpQuiet_nil ?_;rintro _ ⟨q1,rfl⟩;have HB1:=upB HW q1.b;have Ck:=upK Gk q1.b;have Cr:=upK Gr q1.b;clear hne0 HW HB HC0 k0 k1 k2 k3 k4 k5 r3 tw Gk Gr Bk Br pr3;have HB:=HB1;clear HB1;have Bk:=Ck;clear Ck;have Br:=Cr;clear Cr;have hc1:=(q1.cell hb).trans hc;have hb1 : b2 < q1.w.heap.size:=Nat.lt_of_lt_of_le hb q1.b.size;have HBW1:=upB HBW q1.b;clear hc hb HBW
       by_cases hg : ∃ (i : Nat) (x : Xd),c.xs[i]? = some x ∧ x.n = t
       rotate_left
       ·have HG:=hidK hg;clear hg;have Gk:=Bk;have Gr:=Br;have HW:=HB;obtain ⟨k0,k1,k2,k3,k4,k5⟩:=sl6 Gk;obtain ⟨r0,r1,r2,r3,r4,r5⟩:=sl6 Gr;have tw:=fun q : Wd q1.w => (q.cell hb1).trans hc1;have hne0:=Wd.ne q1.w;have HC0:=hidK (fun q : Wd q1.w => sxxd_miss ⟨(some ⟨b1,o1,none⟩),l1,y1,a2,l2,y2,(some ⟨b3,o3,none⟩),l3,y3,a4,l4,y4,(some ⟨b,o,none⟩),l5,y5⟩ c.now c.xs t q.w (HR.out.x.below (HW.out.trans (q.b.mono HW.out.size))) (fun i x h1 h2 => HG.out ⟨i,x,h1,h2⟩));go_wp2_with fail;refine wp_region_wide (by kernel_rfl) (by kernel_rfl) ?_
        repeat (go_big_quiet_step (first | (go_at_call 23;exact Calls.wide (HC0.out _)) | fail))
        refine wpQuiet_nil ?_;rintro _ ⟨q2,rfl⟩;have HB2:=upB HW q2.b;have Ck:=upK Gk q2.b;have Cr:=upK Gr q2.b;clear hne0 HW HB HC0 k0 k1 k2 k3 k4 k5 r0 r1 r2 r3 r4 r5 tw Gk Gr Bk Br hc1 hb1;have HB:=HB2;clear HB2;have Bk:=Ck;clear Ck;have Br:=Cr;clear Cr
        go_wp2
        go_ret;refine BoolB.f (fun h => ?_) HB.out;have h9:=(h.1 k p HXp.out).2.1 kq t HXt.out;exact HG.out h9.1
       obtain ⟨i4,x4,g1,g2⟩:=hg;have HG1:=hidK g1;have HG2:=hidK g2
       have hi41 : decide ((i4 : Int) < 0) = false:=by simp
       clear g1 g2;have hbv : b3 < q1.w.heap.size:=Nat.lt_of_lt_of_le HB3.out HB.out.size;have v2:=(cell_below HB.out HB3.out).trans HC2.out;have hbn : b1 < q1.w.heap.size:=Nat.lt_of_lt_of_le HBn.out HB.out.size;have n1:=(cell_below HB.out HBn.out).trans HCn.out
       by_cases hz : v.z = n.z
       ·have hzq:=tl_yes hz;have HZ:=hidK hz;clear hz;have Gk:=Bk;have Gr:=Br;have HW:=HB;obtain ⟨k0,k1,k2,k3,k4,k5⟩:=sl6 Gk;obtain ⟨r0,r1,r2,r3,r4,r5⟩:=sl6 Gr;have tw:=fun q : Wd q1.w => (q.cell hb1).trans hc1;have vw:=fun q : Wd q1.w => (q.cell hbv).trans v2;have nw:=fun q : Wd q1.w => (q.cell hbn).trans n1;have hne0:=Wd.ne q1.w;have HC0:=hidK (fun q : Wd q1.w => sxxd_hit ⟨(some ⟨b1,o1,none⟩),l1,y1,a2,l2,y2,(some ⟨b3,o3,none⟩),l3,y3,a4,l4,y4,(some ⟨b,o,none⟩),l5,y5⟩ c.now c.xs t q.w (HR.out.x.below (HW.out.trans (q.b.mono HW.out.size))) HX.out HG1.out HG2.out);go_wp2_with fail;refine wp_region_wide (by kernel_rfl) (by kernel_rfl) ?_
        repeat (go_big_quiet_step (first | (go_at_call 23;exact Calls.wide (HC0.out _)) | fail))
        refine wpQuiet_nil ?_;rintro _ ⟨q2,rfl⟩;have HB2:=upB HW q2.b;have Ck:=upK Gk q2.b;have Cr:=upK Gr q2.b;clear hne0 HW HB HC0 k0 k1 k2 k3 k4 k5 r0 r1 r2 r3 r4 r5 tw vw nw Gk Gr Bk Br hc1 hb1 hbv v2 hbn n1;have HB:=HB2;clear HB2;have Bk:=Ck;clear Ck;have Br:=Cr;clear Cr;clear hzq;go_wp2_with fail;refine ⟨⟨kq + 1,by omega,by go_num,fun j s hj hs => ?_,HBW1.out.trans (q2.b.mono HBW1.out.size)⟩,by simp [intOf];omega⟩
        by_cases e : j = kq
        ·subst e;rw [HXt.out] at hs;obtain rfl:=Option.some.inj hs;exact ⟨⟨i4,x4,HG1.out,HG2.out⟩,.inr ⟨v,j1,n,HD.out,HJn.out,HNn.out,HZ.out⟩⟩
        ·exact HQ2.out j s (by omega) hs
       ·have hzq:=tl_no hz;have HZ:=hidK hz;clear hz;have Gk:=Bk;have Gr:=Br;have HW:=HB;obtain ⟨k0,k1,k2,k3,k4,k5⟩:=sl6 Gk;obtain ⟨r0,r1,r2,r3,r4,r5⟩:=sl6 Gr;have tw:=fun q : Wd q1.w => (q.cell hb1).trans hc1;have vw:=fun q : Wd q1.w => (q.cell hbv).trans v2;have nw:=fun q : Wd q1.w => (q.cell hbn).trans n1;have hne0:=Wd.ne q1.w;have HC0:=hidK (fun q : Wd q1.w => sxxd_hit ⟨(some ⟨b1,o1,none⟩),l1,y1,a2,l2,y2,(some ⟨b3,o3,none⟩),l3,y3,a4,l4,y4,(some ⟨b,o,none⟩),l5,y5⟩ c.now c.xs t q.w (HR.out.x.below (HW.out.trans (q.b.mono HW.out.size))) HX.out HG1.out HG2.out);go_wp2_with fail;refine wp_region_wide (by kernel_rfl) (by kernel_rfl) ?_
        repeat (go_big_quiet_step (first | (go_at_call 23;exact Calls.wide (HC0.out _)) | fail))
        refine wpQuiet_nil ?_;rintro _ ⟨q2,rfl⟩;have HB2:=upB HW q2.b;have Ck:=upK Gk q2.b;have Cr:=upK Gr q2.b;clear hne0 HW HB HC0 k0 k1 k2 k3 k4 k5 r0 r1 r2 r3 r4 r5 tw vw nw Gk Gr Bk Br hc1 hb1 hbv v2 hbn n1;have HB:=HB2;clear HB2;have Bk:=Ck;clear Ck;have Br:=Cr;clear Cr
        go_wp2
        go_ret;refine BoolB.f (fun h => ?_) HB.out;have h9:=(h.1 k p HXp.out).2.1 kq t HXt.out
        rcases h9.2 with h2 | ⟨v',i,n',h2,h3,h4,h5⟩
        ·exact HEm.out h2
        ·obtain rfl:=IsBd.inj HX.out HV.out HD.out h2;obtain ⟨_,rfl⟩:=HNR.out.inj h3 HJn.out (h4.trans HNn.out.symm);exact HZ.out h5
      ·have HD:=hidK hbd;clear hbd;have Gk:=Bk;have Gr:=Br;have HW:=HB;obtain ⟨k0,k1,k2,k3,k4,k5⟩:=sl6 Gk;have r3:=fun q : Wd wr => q.slot (o:=3) Gr.out rfl;have tw:=fun q : Wd wr => (q.cell hb).trans hc;have hne0:=Wd.ne wr;have HC0:=hidK (fun q : Wd wr => sbind_miss ⟨(some ⟨b1,o1,none⟩),l1,y1,a2,l2,y2,a3,l3,y3,a4,l4,y4,(some ⟨b,o,none⟩),l5,y5⟩ c t q.w (HR.out.below (HW.out.trans (q.b.mono HW.out.size))) HX.out HV.out HNE.out HD.out);go_wp2_with fail;refine wp_region_wide (by kernel_rfl) (by kernel_rfl) ?_
       repeat (go_big_quiet_step (first | (go_at_call 24;exact Calls.wide (HC0.out _)) | fail))
       refine wpQuiet_nil ?_;rintro _ ⟨q1,rfl⟩;have HB1:=upB HW q1.b;have Ck:=upK Gk q1.b;have Cr:=upK Gr q1.b;clear hne0 HW HB HC0 k0 k1 k2 k3 k4 k5 r3 tw Gk Gr Bk Br pr3;have HB:=HB1;clear HB1;have Bk:=Ck;clear Ck;have Br:=Cr;clear Cr;have hc1:=(q1.cell hb).trans hc;have hb1 : b2 < q1.w.heap.size:=Nat.lt_of_lt_of_le hb q1.b.size;have HBW1:=upB HBW q1.b;clear hc hb HBW
       by_cases hg : ∃ (i : Nat) (x : Xd),c.xs[i]? = some x ∧ x.n = t
       rotate_left
       ·have HG:=hidK hg;clear hg;have Gk:=Bk;have Gr:=Br;have HW:=HB;obtain ⟨k0,k1,k2,k3,k4,k5⟩:=sl6 Gk;obtain ⟨r0,r1,r2,r3,r4,r5⟩:=sl6 Gr;have tw:=fun q : Wd q1.w => (q.cell hb1).trans hc1;have hne0:=Wd.ne q1.w;have HC0:=hidK (fun q : Wd q1.w => sxxd_miss ⟨(some ⟨b1,o1,none⟩),l1,y1,a2,l2,y2,a3,l3,y3,a4,l4,y4,(some ⟨b,o,none⟩),l5,y5⟩ c.now c.xs t q.w (HR.out.x.below (HW.out.trans (q.b.mono HW.out.size))) (fun i x h1 h2 => HG.out ⟨i,x,h1,h2⟩));go_wp2_with fail;refine wp_region_wide (by kernel_rfl) (by kernel_rfl) ?_
        repeat (go_big_quiet_step (first | (go_at_call 23;exact Calls.wide (HC0.out _)) | fail))
        refine wpQuiet_nil ?_;rintro _ ⟨q2,rfl⟩;have HB2:=upB HW q2.b;have Ck:=upK Gk q2.b;have Cr:=upK Gr q2.b;clear hne0 HW HB HC0 k0 k1 k2 k3 k4 k5 r0 r1 r2 r3 r4 r5 tw Gk Gr Bk Br hc1 hb1;have HB:=HB2;clear HB2;have Bk:=Ck;clear Ck;have Br:=Cr;clear Cr
        go_wp2
        go_ret;refine BoolB.f (fun h => ?_) HB.out;have h9:=(h.1 k p HXp.out).2.1 kq t HXt.out;exact HG.out h9.1
       obtain ⟨i4,x4,g1,g2⟩:=hg;have HG1:=hidK g1;have HG2:=hidK g2
       have hi41 : decide ((i4 : Int) < 0) = false:=by simp
       clear g1 g2;have Gk:=Bk;have Gr:=Br;have HW:=HB;obtain ⟨k0,k1,k2,k3,k4,k5⟩:=sl6 Gk;obtain ⟨r0,r1,r2,r3,r4,r5⟩:=sl6 Gr;have tw:=fun q : Wd q1.w => (q.cell hb1).trans hc1;have hne0:=Wd.ne q1.w;have HC0:=hidK (fun q : Wd q1.w => sxxd_hit ⟨(some ⟨b1,o1,none⟩),l1,y1,a2,l2,y2,a3,l3,y3,a4,l4,y4,(some ⟨b,o,none⟩),l5,y5⟩ c.now c.xs t q.w (HR.out.x.below (HW.out.trans (q.b.mono HW.out.size))) HX.out HG1.out HG2.out);go_wp2_with fail;refine wp_region_wide (by kernel_rfl) (by kernel_rfl) ?_
       repeat (go_big_quiet_step (first | (go_at_call 23;exact Calls.wide (HC0.out _)) | fail))
       refine wpQuiet_nil ?_;rintro _ ⟨q2,rfl⟩;have HB2:=upB HW q2.b;have Ck:=upK Gk q2.b;have Cr:=upK Gr q2.b;clear hne0 HW HB HC0 k0 k1 k2 k3 k4 k5 r0 r1 r2 r3 r4 r5 tw Gk Gr Bk Br hc1 hb1;have HB:=HB2;clear HB2;have Bk:=Ck;clear Ck;have Br:=Cr;clear Cr
       go_wp2
       go_ret;refine BoolB.f (fun h => ?_) HB.out;have h9:=(h.1 k p HXp.out).2.1 kq t HXt.out
       rcases h9.2 with h2 | ⟨v',i,n',h2,_⟩
       ·exact HEm.out h2
       ·exact HD.out v' h2
     ·obtain rfl : vl = kq:=by omega
      have HQb : Hid (PSb c p):=fun j t ht => HQ2.out j t (by have h1:=(List.getElem?_eq_some_iff.1 ht).1;have h2:=HVL.out;omega) ht;clear HQ2;have TV2:=hidK (TV.out.below HBW.out);have KV2:=Bk;have GV2:=Br;have BV2:=HB;clear KV GV BV TV Bk Br HB HBW;obtain ⟨W2,hW⟩ : ∃ W2,W2 = wr:=⟨_,rfl⟩;rw [← hW] at KV2 GV2 BV2 TV2
      go_wp2
      clear pr3;rw [← hW];clear hW
      go_loopw [8] (fun i wr => ∃ kz : Nat,kz ≤ k ∧ i = .int .i64 kz ∧ Hid (∀ (j : Nat) q,j < kz → c.ps[j]? = some q → PairS c q p) ∧ Hid (Below W2.heap.size W2 wr)) (fun i _ => k - (intOf i).toNat)
      case atStart => exact ⟨0,by omega,rfl,fun _ _ h => absurd h (by omega),Below.refl _ _⟩
      case round =>
       obtain ⟨kz,hkz,rfl,HQ3,HBW⟩:=hrel;have HB:=hidK (BV2.out.trans (HBW.out.mono BV2.out.size));have Bk:=upK KV2 HBW.out;have Br:=upK GV2 HBW.out;have HTp:=hidK (TV2.out.below HBW.out)
       by_cases hlt3 : kz < k
       ·obtain ⟨b',o',pq,e',hb',hqq,hatq⟩:=pd_at (HR.out.p.below HB.out) (show kz < l5 by omega)
        cases e'
        obtain ⟨qa,ql,qc,hqr,z0,z2,z4,d0,d1,d2,d3,d4,d5⟩:=pd_cells hatq;have HXq:=hidK hqq;have HTq:=hidK hqr;clear hatq hqq hqr z0 z2 z4
        by_cases hpr : PairS c pq p
        ·have HPr:=hidK hpr;clear hpr;have Gk:=Bk;have Gr:=Br;have HW:=HB;obtain ⟨k0,k1,k2,k3,k4,k5⟩:=sl6 Gk;obtain ⟨r0,r1,r2,r3,r4,r5⟩:=sl6 Gr;have q0 : ∀ q : Wd wr,q.w.cell? ⟨b,o + kz * 6,none⟩ = some (.string pq.n):=fun q => (q.cell (hb')).trans (d0);have q1 : ∀ q : Wd wr,q.w.cell? ⟨b,o + kz * 6 + 1,none⟩ = some (.int .i64 pq.c):=fun q => (q.cell (hb')).trans (d1);have q2 : ∀ q : Wd wr,q.w.cell? ⟨b,o + kz * 6 + 2,none⟩ = some (.string pq.z):=fun q => (q.cell (hb')).trans (d2);have q3 : ∀ q : Wd wr,q.w.cell? ⟨b,o + kz * 6 + 3,none⟩ = some (.slice qa ql qc):=fun q => (q.cell (hb')).trans (d3);have q4 : ∀ q : Wd wr,q.w.cell? ⟨b,o + kz * 6 + 4,none⟩ = some (.string pq.d):=fun q => (q.cell (hb')).trans (d4);have q5 : ∀ q : Wd wr,q.w.cell? ⟨b,o + kz * 6 + 5,none⟩ = some (.int .i64 pq.p):=fun q => (q.cell (hb')).trans (d5);have hne0:=Wd.ne wr;have HC0:=hidK (fun qw : Wd wr => (spair_any ⟨(some ⟨b1,o1,none⟩),l1,y1,a2,l2,y2,a3,l3,y3,a4,l4,y4,(some ⟨b,o,none⟩),l5,y5⟩ c pq p qa ql qc va vl vc qw.w (HR.out.below (HW.out.trans (qw.b.mono HW.out.size))) HX.out HV.out HNE.out (HTq.out.below qw.b) (HTp.out.below qw.b)).mono (fun _ _ h => BoolB.yes h HPr.out));go_wp2_with fail;refine wp_region_wide (by kernel_rfl) (by kernel_rfl) ?_
         repeat (go_big_quiet_step (first | (go_at_call 127;exact Calls.wide (HC0.out _)) | fail))
         refine wpQuiet_nil ?_;rintro _ ⟨q9,rfl⟩;have HB1:=upB HW q9.b;have Ck:=upK Gk q9.b;have Cr:=upK Gr q9.b;clear hne0 HW HB HC0 k0 k1 k2 k3 k4 k5 r0 r1 r2 r3 r4 r5 q0 q1 q2 q3 q4 q5 Gk Gr Bk Br d0 d1 d2 d3 d4 d5;have HB:=HB1;clear HB1;have Bk:=Ck;clear Ck;have Br:=Cr;clear Cr;go_wp2_with fail;refine ⟨⟨kz + 1,by omega,by go_num,fun j s hj hs => ?_,HBW.out.trans (q9.b.mono HBW.out.size)⟩,by simp [intOf];omega⟩
         by_cases e : j = kz
         ·subst e;rw [HXq.out] at hs;obtain rfl:=Option.some.inj hs;exact HPr.out
         ·exact HQ3.out j s (by omega) hs
        ·have HPr:=hidK hpr;clear hpr;have Gk:=Bk;have Gr:=Br;have HW:=HB;obtain ⟨k0,k1,k2,k3,k4,k5⟩:=sl6 Gk;obtain ⟨r0,r1,r2,r3,r4,r5⟩:=sl6 Gr;have q0 : ∀ q : Wd wr,q.w.cell? ⟨b,o + kz * 6,none⟩ = some (.string pq.n):=fun q => (q.cell (hb')).trans (d0);have q1 : ∀ q : Wd wr,q.w.cell? ⟨b,o + kz * 6 + 1,none⟩ = some (.int .i64 pq.c):=fun q => (q.cell (hb')).trans (d1);have q2 : ∀ q : Wd wr,q.w.cell? ⟨b,o + kz * 6 + 2,none⟩ = some (.string pq.z):=fun q => (q.cell (hb')).trans (d2);have q3 : ∀ q : Wd wr,q.w.cell? ⟨b,o + kz * 6 + 3,none⟩ = some (.slice qa ql qc):=fun q => (q.cell (hb')).trans (d3);have q4 : ∀ q : Wd wr,q.w.cell? ⟨b,o + kz * 6 + 4,none⟩ = some (.string pq.d):=fun q => (q.cell (hb')).trans (d4);have q5 : ∀ q : Wd wr,q.w.cell? ⟨b,o + kz * 6 + 5,none⟩ = some (.int .i64 pq.p):=fun q => (q.cell (hb')).trans (d5);have hne0:=Wd.ne wr;have HC0:=hidK (fun qw : Wd wr => (spair_any ⟨(some ⟨b1,o1,none⟩),l1,y1,a2,l2,y2,a3,l3,y3,a4,l4,y4,(some ⟨b,o,none⟩),l5,y5⟩ c pq p qa ql qc va vl vc qw.w (HR.out.below (HW.out.trans (qw.b.mono HW.out.size))) HX.out HV.out HNE.out (HTq.out.below qw.b) (HTp.out.below qw.b)).mono (fun _ _ h => BoolB.no h HPr.out));go_wp2_with fail;refine wp_region_wide (by kernel_rfl) (by kernel_rfl) ?_
         repeat (go_big_quiet_step (first | (go_at_call 127;exact Calls.wide (HC0.out _)) | fail))
         refine wpQuiet_nil ?_;rintro _ ⟨q9,rfl⟩;have HB1:=upB HW q9.b;have Ck:=upK Gk q9.b;have Cr:=upK Gr q9.b;clear hne0 HW HB HC0 k0 k1 k2 k3 k4 k5 r0 r1 r2 r3 r4 r5 q0 q1 q2 q3 q4 q5 Gk Gr Bk Br d0 d1 d2 d3 d4 d5;have HB:=HB1;clear HB1;have Bk:=Ck;clear Ck;have Br:=Cr;clear Cr
         go_wp2
         go_ret;exact BoolB.f (fun h => HPr.out ((h.1 k p HXp.out).2.2 kz pq hlt3 HXq.out)) HB.out
       ·obtain rfl : k = kz:=by omega
        go_wp2_with fail;refine ⟨⟨k + 1,by omega,by go_num,fun j z hj hz => ?_,HB.out,Bk.out⟩,by simp [intOf];omega⟩
        by_cases e : j = k
        ·subst e;rw [HXp.out] at hz;obtain rfl:=Option.some.inj hz;exact ⟨HPa.out,HQb.out,fun j2 q2 hj2 hq2 => HQ3.out j2 q2 hj2 hq2⟩
        ·exact HQ.out j z (by omega) hz
   have hq2:=isE_no hz0
   by_cases hz1 : n.z = p.z
   ·have hq3:=tl_yes hz1;have HPa : Hid (PSa c p):=.inr ⟨j1,n,HJn.out,HNn.out,.inr hz1⟩;clear hz0 hz1;have Gk:=Bk;have Gr:=Br;have HW:=HB;have k0:=fun q : Wd w1 => q.slot (o:=0) Gk.out rfl;obtain ⟨r0,r1,r2,r3,r4,r5⟩:=sl6 Gr;have nw:=fun q : Wd w1 => (q.cell hbn).trans n1;have hne0:=Wd.ne w1;go_wp2_with fail;refine wp_region_wide (by kernel_rfl) (by kernel_rfl) ?_
    repeat (go_big_quiet_step (first | fail))
    refine wpQuiet_nil ?_;rintro _ ⟨q0,rfl⟩;have HB2:=upB HW q0.b;have Ck:=upK Gk q0.b;have Cr:=upK Gr q0.b;have CHTp:=hidK ((HTp.out).below q0.b);clear hne0 HW HB k0 r0 r1 r2 r3 r4 r5 nw Gk Gr Bk Br HTp hbn n1;have HB:=HB2;clear HB2;have HTp:=CHTp;clear CHTp;have Bk:=Ck;clear Ck;have Br:=Cr;clear Cr;clear hq2 hq3;obtain ⟨gb,hgb⟩ : ∃ gb,gb = wr.heap.size:=⟨_,rfl⟩;rw [← hgb] at Br;have pr3 : q0.w.cell? ⟨gb,3,none⟩ = some (.slice va vl vc):=cellK Br.out 3;rw [hgb] at pr3
    go_wp2
    rw [← hgb];clear pr3 hgb;have KV:=Bk;have GV:=Br;have BV:=HB;have TV:=HTp;clear Bk Br HB HTp;obtain ⟨W,hW⟩ : ∃ W,W = q0.w:=⟨_,rfl⟩;rw [← hW] at KV GV BV TV ⊢;clear hW
    go_loopw [6] (fun i wr => ∃ kq : Nat,kq ≤ vl ∧ i = .int .i64 kq ∧ Hid (∀ (j : Nat) t,j < kq → p.zs[j]? = some t → PSb1 c p t) ∧ Hid (Below W.heap.size W wr)) (fun i _ => vl - (intOf i).toNat)
    case atStart => exact ⟨0,by omega,rfl,fun _ _ h => absurd h (by omega),Below.refl _ _⟩
    case round =>
     obtain ⟨kq,hkq,rfl,HQ2,HBW⟩:=hrel;have HB:=hidK (BV.out.trans (HBW.out.mono BV.out.size));have Bk:=upK KV HBW.out;have Br:=upK GV HBW.out;have pr3 : wr.cell? ⟨gb,3,none⟩ = some (.slice va vl vc):=cellK Br.out 3
     by_cases hlt2 : kq < vl
     ·obtain ⟨b2,o2,t,rfl,hb,hxt,hc,hsz⟩:=(TV.out.below HBW.out).at hlt2;have HXt:=hidK hxt;clear hxt hsz
      have hcase : (∃ v,IsBd c t v) ∨ (∀ v,¬ IsBd c t v):=by
       by_cases h : ∃ v,IsBd c t v
       ·exact .inl h
       ·exact .inr (fun v hv => h ⟨v,hv⟩)
      rcases hcase with ⟨v,hbd⟩ | hbd
      ·obtain ⟨j3,hj3⟩:=hbd.at
       have hl3' : j3 < l3:=by have h1:=(List.getElem?_eq_some_iff.1 hj3).1;omega
       obtain ⟨b3,o3,v',rfl,hb3,hv',hat⟩:=vd_at HR.out.v hl3';rw [hj3] at hv';obtain rfl:=Option.some.inj hv';obtain ⟨xa,xl,xc,hvr,z0,z2,z3,z5,d0,d1,d2,d3,d4,d5,d6,d7⟩:=vd_cells hat;have HJ:=hidK hj3;have HD:=hidK hbd;have HC2:=hidK d2;have HB3:=hidK hb3
       have hj31 : decide ((j3 : Int) < 0) = false:=by simp
       clear hv' hat hvr z0 z2 z3 z5 d0 d1 d2 d3 d4 d5 d6 d7 hj3 hbd hb3;have Gk:=Bk;have Gr:=Br;have HW:=HB;obtain ⟨k0,k1,k2,k3,k4,k5⟩:=sl6 Gk;have r3:=fun q : Wd wr => q.slot (o:=3) Gr.out rfl;have tw:=fun q : Wd wr => (q.cell hb).trans hc;have hne0:=Wd.ne wr;have HC0:=hidK (fun q : Wd wr => sbind_hit ⟨(some ⟨b1,o1,none⟩),l1,y1,a2,l2,y2,(some ⟨b3,o3,none⟩),l3,y3,a4,l4,y4,(some ⟨b,o,none⟩),l5,y5⟩ c t q.w (HR.out.below (HW.out.trans (q.b.mono HW.out.size))) HX.out HV.out HNE.out HJ.out HD.out);go_wp2_with fail;refine wp_region_wide (by kernel_rfl) (by kernel_rfl) ?_
       repeat (go_big_quiet_step (first | (go_at_call 24;exact Calls.wide (HC0.out _)) | fail))
       refine wpQuiet_nil ?_;rintro _ ⟨q1,rfl⟩;have HB1:=upB HW q1.b;have Ck:=upK Gk q1.b;have Cr:=upK Gr q1.b;clear hne0 HW HB HC0 k0 k1 k2 k3 k4 k5 r3 tw Gk Gr Bk Br pr3;have HB:=HB1;clear HB1;have Bk:=Ck;clear Ck;have Br:=Cr;clear Cr;have hc1:=(q1.cell hb).trans hc;have hb1 : b2 < q1.w.heap.size:=Nat.lt_of_lt_of_le hb q1.b.size;have HBW1:=upB HBW q1.b;clear hc hb HBW
       by_cases hg : ∃ (i : Nat) (x : Xd),c.xs[i]? = some x ∧ x.n = t
       rotate_left
       ·have HG:=hidK hg;clear hg;have Gk:=Bk;have Gr:=Br;have HW:=HB;obtain ⟨k0,k1,k2,k3,k4,k5⟩:=sl6 Gk;obtain ⟨r0,r1,r2,r3,r4,r5⟩:=sl6 Gr;have tw:=fun q : Wd q1.w => (q.cell hb1).trans hc1;have hne0:=Wd.ne q1.w;have HC0:=hidK (fun q : Wd q1.w => sxxd_miss ⟨(some ⟨b1,o1,none⟩),l1,y1,a2,l2,y2,(some ⟨b3,o3,none⟩),l3,y3,a4,l4,y4,(some ⟨b,o,none⟩),l5,y5⟩ c.now c.xs t q.w (HR.out.x.below (HW.out.trans (q.b.mono HW.out.size))) (fun i x h1 h2 => HG.out ⟨i,x,h1,h2⟩));go_wp2_with fail;refine wp_region_wide (by kernel_rfl) (by kernel_rfl) ?_
        repeat (go_big_quiet_step (first | (go_at_call 23;exact Calls.wide (HC0.out _)) | fail))
        refine wpQuiet_nil ?_;rintro _ ⟨q2,rfl⟩;have HB2:=upB HW q2.b;have Ck:=upK Gk q2.b;have Cr:=upK Gr q2.b;clear hne0 HW HB HC0 k0 k1 k2 k3 k4 k5 r0 r1 r2 r3 r4 r5 tw Gk Gr Bk Br hc1 hb1;have HB:=HB2;clear HB2;have Bk:=Ck;clear Ck;have Br:=Cr;clear Cr
        go_wp2
        go_ret;refine BoolB.f (fun h => ?_) HB.out;have h9:=(h.1 k p HXp.out).2.1 kq t HXt.out;exact HG.out h9.1
       obtain ⟨i4,x4,g1,g2⟩:=hg;have HG1:=hidK g1;have HG2:=hidK g2
       have hi41 : decide ((i4 : Int) < 0) = false:=by simp
       clear g1 g2;have hbv : b3 < q1.w.heap.size:=Nat.lt_of_lt_of_le HB3.out HB.out.size;have v2:=(cell_below HB.out HB3.out).trans HC2.out;have hbn : b1 < q1.w.heap.size:=Nat.lt_of_lt_of_le HBn.out HB.out.size;have n1:=(cell_below HB.out HBn.out).trans HCn.out
       by_cases hz : v.z = n.z
       ·have hzq:=tl_yes hz;have HZ:=hidK hz;clear hz;have Gk:=Bk;have Gr:=Br;have HW:=HB;obtain ⟨k0,k1,k2,k3,k4,k5⟩:=sl6 Gk;obtain ⟨r0,r1,r2,r3,r4,r5⟩:=sl6 Gr;have tw:=fun q : Wd q1.w => (q.cell hb1).trans hc1;have vw:=fun q : Wd q1.w => (q.cell hbv).trans v2;have nw:=fun q : Wd q1.w => (q.cell hbn).trans n1;have hne0:=Wd.ne q1.w;have HC0:=hidK (fun q : Wd q1.w => sxxd_hit ⟨(some ⟨b1,o1,none⟩),l1,y1,a2,l2,y2,(some ⟨b3,o3,none⟩),l3,y3,a4,l4,y4,(some ⟨b,o,none⟩),l5,y5⟩ c.now c.xs t q.w (HR.out.x.below (HW.out.trans (q.b.mono HW.out.size))) HX.out HG1.out HG2.out);go_wp2_with fail;refine wp_region_wide (by kernel_rfl) (by kernel_rfl) ?_
        repeat (go_big_quiet_step (first | (go_at_call 23;exact Calls.wide (HC0.out _)) | fail))
        refine wpQuiet_nil ?_;rintro _ ⟨q2,rfl⟩;have HB2:=upB HW q2.b;have Ck:=upK Gk q2.b;have Cr:=upK Gr q2.b;clear hne0 HW HB HC0 k0 k1 k2 k3 k4 k5 r0 r1 r2 r3 r4 r5 tw vw nw Gk Gr Bk Br hc1 hb1 hbv v2 hbn n1;have HB:=HB2;clear HB2;have Bk:=Ck;clear Ck;have Br:=Cr;clear Cr;clear hzq;go_wp2_with fail;refine ⟨⟨kq + 1,by omega,by go_num,fun j s hj hs => ?_,HBW1.out.trans (q2.b.mono HBW1.out.size)⟩,by simp [intOf];omega⟩
        by_cases e : j = kq
        ·subst e;rw [HXt.out] at hs;obtain rfl:=Option.some.inj hs;exact ⟨⟨i4,x4,HG1.out,HG2.out⟩,.inr ⟨v,j1,n,HD.out,HJn.out,HNn.out,HZ.out⟩⟩
        ·exact HQ2.out j s (by omega) hs
       ·have hzq:=tl_no hz;have HZ:=hidK hz;clear hz;have Gk:=Bk;have Gr:=Br;have HW:=HB;obtain ⟨k0,k1,k2,k3,k4,k5⟩:=sl6 Gk;obtain ⟨r0,r1,r2,r3,r4,r5⟩:=sl6 Gr;have tw:=fun q : Wd q1.w => (q.cell hb1).trans hc1;have vw:=fun q : Wd q1.w => (q.cell hbv).trans v2;have nw:=fun q : Wd q1.w => (q.cell hbn).trans n1;have hne0:=Wd.ne q1.w;have HC0:=hidK (fun q : Wd q1.w => sxxd_hit ⟨(some ⟨b1,o1,none⟩),l1,y1,a2,l2,y2,(some ⟨b3,o3,none⟩),l3,y3,a4,l4,y4,(some ⟨b,o,none⟩),l5,y5⟩ c.now c.xs t q.w (HR.out.x.below (HW.out.trans (q.b.mono HW.out.size))) HX.out HG1.out HG2.out);go_wp2_with fail;refine wp_region_wide (by kernel_rfl) (by kernel_rfl) ?_
        repeat (go_big_quiet_step (first | (go_at_call 23;exact Calls.wide (HC0.out _)) | fail))
        refine wpQuiet_nil ?_;rintro _ ⟨q2,rfl⟩;have HB2:=upB HW q2.b;have Ck:=upK Gk q2.b;have Cr:=upK Gr q2.b;clear hne0 HW HB HC0 k0 k1 k2 k3 k4 k5 r0 r1 r2 r3 r4 r5 tw vw nw Gk Gr Bk Br hc1 hb1 hbv v2 hbn n1;have HB:=HB2;clear HB2;have Bk:=Ck;clear Ck;have Br:=Cr;clear Cr
        go_wp2
        go_ret;refine BoolB.f (fun h => ?_) HB.out;have h9:=(h.1 k p HXp.out).2.1 kq t HXt.out
        rcases h9.2 with h2 | ⟨v',i,n',h2,h3,h4,h5⟩
        ·exact HEm.out h2
        ·obtain rfl:=IsBd.inj HX.out HV.out HD.out h2;obtain ⟨_,rfl⟩:=HNR.out.inj h3 HJn.out (h4.trans HNn.out.symm);exact HZ.out h5
      ·have HD:=hidK hbd;clear hbd;have Gk:=Bk;have Gr:=Br;have HW:=HB;obtain ⟨k0,k1,k2,k3,k4,k5⟩:=sl6 Gk;have r3:=fun q : Wd wr => q.slot (o:=3) Gr.out rfl;have tw:=fun q : Wd wr => (q.cell hb).trans hc;have hne0:=Wd.ne wr;have HC0:=hidK (fun q : Wd wr => sbind_miss ⟨(some ⟨b1,o1,none⟩),l1,y1,a2,l2,y2,a3,l3,y3,a4,l4,y4,(some ⟨b,o,none⟩),l5,y5⟩ c t q.w (HR.out.below (HW.out.trans (q.b.mono HW.out.size))) HX.out HV.out HNE.out HD.out);go_wp2_with fail;refine wp_region_wide (by kernel_rfl) (by kernel_rfl) ?_
       repeat (go_big_quiet_step (first | (go_at_call 24;exact Calls.wide (HC0.out _)) | fail))
       refine wpQuiet_nil ?_;rintro _ ⟨q1,rfl⟩;have HB1:=upB HW q1.b;have Ck:=upK Gk q1.b;have Cr:=upK Gr q1.b;clear hne0 HW HB HC0 k0 k1 k2 k3 k4 k5 r3 tw Gk Gr Bk Br pr3;have HB:=HB1;clear HB1;have Bk:=Ck;clear Ck;have Br:=Cr;clear Cr;have hc1:=(q1.cell hb).trans hc;have hb1 : b2 < q1.w.heap.size:=Nat.lt_of_lt_of_le hb q1.b.size;have HBW1:=upB HBW q1.b;clear hc hb HBW
       by_cases hg : ∃ (i : Nat) (x : Xd),c.xs[i]? = some x ∧ x.n = t
       rotate_left
       ·have HG:=hidK hg;clear hg;have Gk:=Bk;have Gr:=Br;have HW:=HB;obtain ⟨k0,k1,k2,k3,k4,k5⟩:=sl6 Gk;obtain ⟨r0,r1,r2,r3,r4,r5⟩:=sl6 Gr;have tw:=fun q : Wd q1.w => (q.cell hb1).trans hc1;have hne0:=Wd.ne q1.w;have HC0:=hidK (fun q : Wd q1.w => sxxd_miss ⟨(some ⟨b1,o1,none⟩),l1,y1,a2,l2,y2,a3,l3,y3,a4,l4,y4,(some ⟨b,o,none⟩),l5,y5⟩ c.now c.xs t q.w (HR.out.x.below (HW.out.trans (q.b.mono HW.out.size))) (fun i x h1 h2 => HG.out ⟨i,x,h1,h2⟩));go_wp2_with fail;refine wp_region_wide (by kernel_rfl) (by kernel_rfl) ?_
        repeat (go_big_quiet_step (first | (go_at_call 23;exact Calls.wide (HC0.out _)) | fail))
        refine wpQuiet_nil ?_;rintro _ ⟨q2,rfl⟩;have HB2:=upB HW q2.b;have Ck:=upK Gk q2.b;have Cr:=upK Gr q2.b;clear hne0 HW HB HC0 k0 k1 k2 k3 k4 k5 r0 r1 r2 r3 r4 r5 tw Gk Gr Bk Br hc1 hb1;have HB:=HB2;clear HB2;have Bk:=Ck;clear Ck;have Br:=Cr;clear Cr
        go_wp2
        go_ret;refine BoolB.f (fun h => ?_) HB.out;have h9:=(h.1 k p HXp.out).2.1 kq t HXt.out;exact HG.out h9.1
       obtain ⟨i4,x4,g1,g2⟩:=hg;have HG1:=hidK g1;have HG2:=hidK g2
       have hi41 : decide ((i4 : Int) < 0) = false:=by simp
       clear g1 g2;have Gk:=Bk;have Gr:=Br;have HW:=HB;obtain ⟨k0,k1,k2,k3,k4,k5⟩:=sl6 Gk;obtain ⟨r0,r1,r2,r3,r4,r5⟩:=sl6 Gr;have tw:=fun q : Wd q1.w => (q.cell hb1).trans hc1;have hne0:=Wd.ne q1.w;have HC0:=hidK (fun q : Wd q1.w => sxxd_hit ⟨(some ⟨b1,o1,none⟩),l1,y1,a2,l2,y2,a3,l3,y3,a4,l4,y4,(some ⟨b,o,none⟩),l5,y5⟩ c.now c.xs t q.w (HR.out.x.below (HW.out.trans (q.b.mono HW.out.size))) HX.out HG1.out HG2.out);go_wp2_with fail;refine wp_region_wide (by kernel_rfl) (by kernel_rfl) ?_
       repeat (go_big_quiet_step (first | (go_at_call 23;exact Calls.wide (HC0.out _)) | fail))
       refine wpQuiet_nil ?_;rintro _ ⟨q2,rfl⟩;have HB2:=upB HW q2.b;have Ck:=upK Gk q2.b;have Cr:=upK Gr q2.b;clear hne0 HW HB HC0 k0 k1 k2 k3 k4 k5 r0 r1 r2 r3 r4 r5 tw Gk Gr Bk Br hc1 hb1;have HB:=HB2;clear HB2;have Bk:=Ck;clear Ck;have Br:=Cr;clear Cr
       go_wp2
       go_ret;refine BoolB.f (fun h => ?_) HB.out;have h9:=(h.1 k p HXp.out).2.1 kq t HXt.out
       rcases h9.2 with h2 | ⟨v',i,n',h2,_⟩
       ·exact HEm.out h2
       ·exact HD.out v' h2
     ·obtain rfl : vl = kq:=by omega
      have HQb : Hid (PSb c p):=fun j t ht => HQ2.out j t (by have h1:=(List.getElem?_eq_some_iff.1 ht).1;have h2:=HVL.out;omega) ht;clear HQ2;have TV2:=hidK (TV.out.below HBW.out);have KV2:=Bk;have GV2:=Br;have BV2:=HB;clear KV GV BV TV Bk Br HB HBW;obtain ⟨W2,hW⟩ : ∃ W2,W2 = wr:=⟨_,rfl⟩;rw [← hW] at KV2 GV2 BV2 TV2
      go_wp2
      clear pr3;rw [← hW];clear hW
      go_loopw [8] (fun i wr => ∃ kz : Nat,kz ≤ k ∧ i = .int .i64 kz ∧ Hid (∀ (j : Nat) q,j < kz → c.ps[j]? = some q → PairS c q p) ∧ Hid (Below W2.heap.size W2 wr)) (fun i _ => k - (intOf i).toNat)
      case atStart => exact ⟨0,by omega,rfl,fun _ _ h => absurd h (by omega),Below.refl _ _⟩
      case round =>
       obtain ⟨kz,hkz,rfl,HQ3,HBW⟩:=hrel;have HB:=hidK (BV2.out.trans (HBW.out.mono BV2.out.size));have Bk:=upK KV2 HBW.out;have Br:=upK GV2 HBW.out;have HTp:=hidK (TV2.out.below HBW.out)
       by_cases hlt3 : kz < k
       ·obtain ⟨b',o',pq,e',hb',hqq,hatq⟩:=pd_at (HR.out.p.below HB.out) (show kz < l5 by omega)
        cases e'
        obtain ⟨qa,ql,qc,hqr,z0,z2,z4,d0,d1,d2,d3,d4,d5⟩:=pd_cells hatq;have HXq:=hidK hqq;have HTq:=hidK hqr;clear hatq hqq hqr z0 z2 z4
        by_cases hpr : PairS c pq p
        ·have HPr:=hidK hpr;clear hpr;have Gk:=Bk;have Gr:=Br;have HW:=HB;obtain ⟨k0,k1,k2,k3,k4,k5⟩:=sl6 Gk;obtain ⟨r0,r1,r2,r3,r4,r5⟩:=sl6 Gr;have q0 : ∀ q : Wd wr,q.w.cell? ⟨b,o + kz * 6,none⟩ = some (.string pq.n):=fun q => (q.cell (hb')).trans (d0);have q1 : ∀ q : Wd wr,q.w.cell? ⟨b,o + kz * 6 + 1,none⟩ = some (.int .i64 pq.c):=fun q => (q.cell (hb')).trans (d1);have q2 : ∀ q : Wd wr,q.w.cell? ⟨b,o + kz * 6 + 2,none⟩ = some (.string pq.z):=fun q => (q.cell (hb')).trans (d2);have q3 : ∀ q : Wd wr,q.w.cell? ⟨b,o + kz * 6 + 3,none⟩ = some (.slice qa ql qc):=fun q => (q.cell (hb')).trans (d3);have q4 : ∀ q : Wd wr,q.w.cell? ⟨b,o + kz * 6 + 4,none⟩ = some (.string pq.d):=fun q => (q.cell (hb')).trans (d4);have q5 : ∀ q : Wd wr,q.w.cell? ⟨b,o + kz * 6 + 5,none⟩ = some (.int .i64 pq.p):=fun q => (q.cell (hb')).trans (d5);have hne0:=Wd.ne wr;have HC0:=hidK (fun qw : Wd wr => (spair_any ⟨(some ⟨b1,o1,none⟩),l1,y1,a2,l2,y2,a3,l3,y3,a4,l4,y4,(some ⟨b,o,none⟩),l5,y5⟩ c pq p qa ql qc va vl vc qw.w (HR.out.below (HW.out.trans (qw.b.mono HW.out.size))) HX.out HV.out HNE.out (HTq.out.below qw.b) (HTp.out.below qw.b)).mono (fun _ _ h => BoolB.yes h HPr.out));go_wp2_with fail;refine wp_region_wide (by kernel_rfl) (by kernel_rfl) ?_
         repeat (go_big_quiet_step (first | (go_at_call 127;exact Calls.wide (HC0.out _)) | fail))
         refine wpQuiet_nil ?_;rintro _ ⟨q9,rfl⟩;have HB1:=upB HW q9.b;have Ck:=upK Gk q9.b;have Cr:=upK Gr q9.b;clear hne0 HW HB HC0 k0 k1 k2 k3 k4 k5 r0 r1 r2 r3 r4 r5 q0 q1 q2 q3 q4 q5 Gk Gr Bk Br d0 d1 d2 d3 d4 d5;have HB:=HB1;clear HB1;have Bk:=Ck;clear Ck;have Br:=Cr;clear Cr;go_wp2_with fail;refine ⟨⟨kz + 1,by omega,by go_num,fun j s hj hs => ?_,HBW.out.trans (q9.b.mono HBW.out.size)⟩,by simp [intOf];omega⟩
         by_cases e : j = kz
         ·subst e;rw [HXq.out] at hs;obtain rfl:=Option.some.inj hs;exact HPr.out
         ·exact HQ3.out j s (by omega) hs
        ·have HPr:=hidK hpr;clear hpr;have Gk:=Bk;have Gr:=Br;have HW:=HB;obtain ⟨k0,k1,k2,k3,k4,k5⟩:=sl6 Gk;obtain ⟨r0,r1,r2,r3,r4,r5⟩:=sl6 Gr;have q0 : ∀ q : Wd wr,q.w.cell? ⟨b,o + kz * 6,none⟩ = some (.string pq.n):=fun q => (q.cell (hb')).trans (d0);have q1 : ∀ q : Wd wr,q.w.cell? ⟨b,o + kz * 6 + 1,none⟩ = some (.int .i64 pq.c):=fun q => (q.cell (hb')).trans (d1);have q2 : ∀ q : Wd wr,q.w.cell? ⟨b,o + kz * 6 + 2,none⟩ = some (.string pq.z):=fun q => (q.cell (hb')).trans (d2);have q3 : ∀ q : Wd wr,q.w.cell? ⟨b,o + kz * 6 + 3,none⟩ = some (.slice qa ql qc):=fun q => (q.cell (hb')).trans (d3);have q4 : ∀ q : Wd wr,q.w.cell? ⟨b,o + kz * 6 + 4,none⟩ = some (.string pq.d):=fun q => (q.cell (hb')).trans (d4);have q5 : ∀ q : Wd wr,q.w.cell? ⟨b,o + kz * 6 + 5,none⟩ = some (.int .i64 pq.p):=fun q => (q.cell (hb')).trans (d5);have hne0:=Wd.ne wr;have HC0:=hidK (fun qw : Wd wr => (spair_any ⟨(some ⟨b1,o1,none⟩),l1,y1,a2,l2,y2,a3,l3,y3,a4,l4,y4,(some ⟨b,o,none⟩),l5,y5⟩ c pq p qa ql qc va vl vc qw.w (HR.out.below (HW.out.trans (qw.b.mono HW.out.size))) HX.out HV.out HNE.out (HTq.out.below qw.b) (HTp.out.below qw.b)).mono (fun _ _ h => BoolB.no h HPr.out));go_wp2_with fail;refine wp_region_wide (by kernel_rfl) (by kernel_rfl) ?_
         repeat (go_big_quiet_step (first | (go_at_call 127;exact Calls.wide (HC0.out _)) | fail))
         refine wpQuiet_nil ?_;rintro _ ⟨q9,rfl⟩;have HB1:=upB HW q9.b;have Ck:=upK Gk q9.b;have Cr:=upK Gr q9.b;clear hne0 HW HB HC0 k0 k1 k2 k3 k4 k5 r0 r1 r2 r3 r4 r5 q0 q1 q2 q3 q4 q5 Gk Gr Bk Br d0 d1 d2 d3 d4 d5;have HB:=HB1;clear HB1;have Bk:=Ck;clear Ck;have Br:=Cr;clear Cr
         go_wp2
         go_ret;exact BoolB.f (fun h => HPr.out ((h.1 k p HXp.out).2.2 kz pq hlt3 HXq.out)) HB.out
       ·obtain rfl : k = kz:=by omega
        go_wp2_with fail;refine ⟨⟨k + 1,by omega,by go_num,fun j z hj hz => ?_,HB.out,Bk.out⟩,by simp [intOf];omega⟩
        by_cases e : j = k
        ·subst e;rw [HXp.out] at hz;obtain rfl:=Option.some.inj hz;exact ⟨HPa.out,HQb.out,fun j2 q2 hj2 hq2 => HQ3.out j2 q2 hj2 hq2⟩
        ·exact HQ.out j z (by omega) hz
   ·have hq3:=tl_no hz1;have HZ0:=hidK hz0;have HZ1:=hidK hz1;clear hz0 hz1;have Gk:=Bk;have Gr:=Br;have HW:=HB;have k0:=fun q : Wd w1 => q.slot (o:=0) Gk.out rfl;obtain ⟨r0,r1,r2,r3,r4,r5⟩:=sl6 Gr;have nw:=fun q : Wd w1 => (q.cell hbn).trans n1;have hne0:=Wd.ne w1;go_wp2_with fail;refine wp_region_wide (by kernel_rfl) (by kernel_rfl) ?_
    repeat (go_big_quiet_step (first | fail))
    refine wpQuiet_nil ?_;rintro _ ⟨q0,rfl⟩;have HB2:=upB HW q0.b;have Ck:=upK Gk q0.b;have Cr:=upK Gr q0.b;have CHTp:=hidK ((HTp.out).below q0.b);clear hne0 HW HB k0 r0 r1 r2 r3 r4 r5 nw Gk Gr Bk Br HTp hbn n1;have HB:=HB2;clear HB2;have HTp:=CHTp;clear CHTp;have Bk:=Ck;clear Ck;have Br:=Cr;clear Cr
    go_wp2
    go_ret;refine BoolB.f (fun h => ?_) HB.out
    rcases (h.1 k p HXp.out).1 with h2 | ⟨i,n',h2,h3,h4⟩
    ·exact HEm.out h2
    ·obtain ⟨_,rfl⟩:=HNR.out.inj h2 HJn.out (h3.trans HNn.out.symm)
     rcases h4 with h4 | h4
     ·exact HZ0.out h4
     ·exact HZ1.out h4
  ·obtain rfl : l5 = k:=by omega
   have HQ1 : Hid (∀ (k : Nat) p,c.ps[k]? = some p → PS c k p):=fun j z hz => HQ.out j z (by have:=(List.getElem?_eq_some_iff.1 hz).1;omega) hz;clear HQ;have kc : wr.cell? ⟨w.heap.size,0,none⟩ = some (.slice a1 l1 y1):=cellK Bk.out 0
   go_wp2
   clear pk kc
   go_loopw [9] (fun i wr => ∃ k : Nat,k ≤ l1 ∧ i = .int .i64 k ∧ Hid (∀ (j : Nat) n,j < k → c.ns[j]? = some n → cpuOf n.n c.ps ≤ n.c) ∧ Hid (Below w.heap.size w wr) ∧ Hid (wr.heap[w.heap.size]? = some (.cells #[.slice a1 l1 y1,.slice a2 l2 y2,.slice a3 l3 y3,.slice a4 l4 y4,.slice a5 l5 y5,.int .i64 c.now] 36 (0,0)))) (fun i _ => l1 - (intOf i).toNat)
   case atStart => exact ⟨0,by omega,rfl,fun _ _ h => absurd h (by omega),HB.out,Bk.out⟩
   case round =>
    obtain ⟨k,hk,rfl,HQ,HB,Bk⟩:=hrel;have pk : wr.cell? ⟨w.heap.size,0,none⟩ = some (.slice a1 l1 y1):=cellK Bk.out 0
    by_cases hlt : k < l1
    ·obtain ⟨b,o,n,rfl,hb,hx,hat⟩:=nd_at (HR.out.n.below HB.out) hlt;obtain ⟨va,vl,vc,hvr,z0,z1,c0,c1,c2,c3,c4,c5,c6⟩:=nd_cells hat;have HXn:=hidK hx;have HTn:=hidK hvr;have HZn0:=hidK z0;have HZn1:=hidK z1;clear hat hx z0 z1 hvr;have Gk:=Bk;have HW:=HB;obtain ⟨k0,k1,k2,k3,k4,k5⟩:=sl6 Gk;have n0w:=fun q : Wd wr => (q.cell hb).trans c0;have n2w:=fun q : Wd wr => (q.cell hb).trans c2;have hne0:=Wd.ne wr;have HC0:=hidK (fun q : Wd wr => sused_any ⟨(some ⟨b,o,none⟩),l1,y1,a2,l2,y2,a3,l3,y3,a4,l4,y4,a5,l5,y5⟩ c.now c.ps n.n q.w (HR.out.p.below (HW.out.trans (q.b.mono HW.out.size))) HL5.out HPC.out);go_wp2_with fail;refine wp_region_wide (by kernel_rfl) (by kernel_rfl) ?_
     repeat (go_big_quiet_step (first | (go_at_call 128;exact Calls.wide (HC0.out _)) | fail))
     refine wpQuiet_nil ?_;rintro _ ⟨q1,rfl⟩;have HB1:=upB HW q1.b;have Ck:=upK Gk q1.b;clear hne0 HW HB HC0 k0 k1 k2 k3 k4 k5 n0w n2w Gk Bk pk c0 c1 c2 c3 c4 c5 c6 hb;have HB:=HB1;clear HB1;have Bk:=Ck;clear Ck
     by_cases hq : cpuOf n.n c.ps ≤ n.c
     ·have HCq:=hidK hq;go_wp2_with fail;refine ⟨⟨k + 1,by omega,by go_num,fun j z hj hz => ?_,HB.out,Bk.out⟩,by simp [intOf];omega⟩
      by_cases e : j = k
      ·subst e;rw [HXn.out] at hz;obtain rfl:=Option.some.inj hz;exact HCq.out
      ·exact HQ.out j z (by omega) hz
     ·have HCq:=hidK hq
      go_wp2
      go_ret;exact BoolB.f (fun h => by have h1 : cpuOf n.n c.ps ≤ n.c:=h.2 k n HXn.out;have h2:=HCq.out;omega) HB.out
    ·obtain rfl : l1 = k:=by omega
     go_wp2
     go_ret;exact BoolB.t ⟨HQ1.out,fun j n hz => HQ.out j n (by have:=(List.getElem?_eq_some_iff.1 hz).1;omega) hz⟩ HB.out

def AttachedS (c : Cl) : Prop:=(∀ (j : Nat) z,c.vs[j]? = some z → AQ1 c z) ∧ ∀ (j : Nat) n,c.ns[j]? = some n → onOf n.n c.vs ≤ n.s

theorem sattached_any (d : Ad) (c : Cl) (w : World) (hr : ClRow w d c.raw) (hn : RisBy Nd.n c.ns) (hvs8 : c.vs.length ≤ 8) :
  Calls Tryz.prog 100 #[.agg #[.slice d.a1 d.l1 d.c1,.slice d.a2 d.l2 d.c2,.slice d.a3 d.l3 d.c3,.slice d.a4 d.l4 d.c4,.slice d.a5 d.l5 d.c5,.int .i64 c.now]] w (BoolB (AttachedS c) w):=by
 obtain ⟨a1,l1,y1,a2,l2,y2,a3,l3,y3,a4,l4,y4,a5,l5,y5⟩:=d;dsimp only;have HR:=hidK hr
 have hl1 : c.ns.length = l1:=by simpa using (show (c.ns.map ndF).length = l1 from hr.n.1)
 have hm1 : l1 ≤ 9223372036854775807:=Nat.le_trans hr.n.2.1 hr.n.2.2.1
 have hl2 : c.ks.length = l2:=by simpa using (show (c.ks.map kdF).length = l2 from hr.k.1)
 have hm2 : l2 ≤ 9223372036854775807:=Nat.le_trans hr.k.2.1 hr.k.2.2.1
 have hl3 : c.vs.length = l3:=by simpa using (show (c.vs.map vdF).length = l3 from hr.v.1)
 have hm3 : l3 ≤ 9223372036854775807:=Nat.le_trans hr.v.2.1 hr.v.2.2.1
 have hl4 : c.xs.length = l4:=by simpa using (show (c.xs.map xdF).length = l4 from hr.x.1)
 have hm4 : l4 ≤ 9223372036854775807:=Nat.le_trans hr.x.2.1 hr.x.2.2.1
 have hl5 : c.ps.length = l5:=by simpa using (show (c.ps.map pdF).length = l5 from hr.p.1)
 have hm5 : l5 ≤ 9223372036854775807:=Nat.le_trans hr.p.2.1 hr.p.2.2.1;clear hr;have HNR:=hidK hn;have HL3:=hidK hvs8;clear hn hvs8
 go_enter Tryz.func100,Tryz.ntmps100
 go_wp2
 go_loopw [3] (fun i wr => ∃ k : Nat,k ≤ l3 ∧ i = .int .i64 k ∧ Hid (∀ (j : Nat) z,j < k → c.vs[j]? = some z → AQ1 c z) ∧ Hid (Below w.heap.size w wr) ∧ Hid (wr.heap[w.heap.size]? = some (.cells #[.slice a1 l1 y1,.slice a2 l2 y2,.slice a3 l3 y3,.slice a4 l4 y4,.slice a5 l5 y5,.int .i64 c.now] 36 (0,0)))) (fun i _ => l3 - (intOf i).toNat)
 case atStart => exact ⟨0,by omega,rfl,fun _ _ h => absurd h (by omega),below1 _ _,Array.getElem?_push_size⟩
 case round =>
  obtain ⟨k,hk,rfl,HQ,HB,Bk⟩:=hrel;have pk : wr.cell? ⟨w.heap.size,2,none⟩ = some (.slice a3 l3 y3):=cellK Bk.out 2;have pkl : w.heap.size < wr.heap.size:=lt_of_some Bk.out
  by_cases hlt : k < l3
  ·obtain ⟨b,o,v,rfl,hb,hx,hat⟩:=vd_at (HR.out.v.below HB.out) hlt;obtain ⟨va,vl,vc,hvr,z0,z2,z3,z5,c0,c1,c2,c3,c4,c5,c6,c7⟩:=vd_cells hat;have HXv:=hidK hx;have HTv:=hidK hvr;have HZv0:=hidK z0;have HZv2:=hidK z2;have HZv3:=hidK z3;have HZv5:=hidK z5;clear hat hx z0 z2 z3 z5 hvr;have hvl : v.zs.length = vl:=HTv.out.1;have hvc : vl ≤ 9223372036854775807:=Nat.le_trans HTv.out.2.1 HTv.out.2.2.1;have HVL:=hidK hvl;clear hvl;have KV : Hid ((wr.alloc (.cells #[.string v.n,.int .i64 v.c,.string v.z,.string v.k,.bool v.x,.string v.m,.bool v.y,.slice va vl vc] 63)).heap[w.heap.size]? = some (.cells #[.slice a1 l1 y1,.slice a2 l2 y2,.slice (some ⟨b,o,none⟩) l3 y3,.slice a4 l4 y4,.slice a5 l5 y5,.int .i64 c.now] 36 (0,0))):=(Below.heap_alloc wr (.cells #[.string v.n,.int .i64 v.c,.string v.z,.string v.k,.bool v.x,.string v.m,.bool v.y,.slice va vl vc] 63) _ (lt_of_some Bk.out)).trans Bk.out;have GV : Hid ((wr.alloc (.cells #[.string v.n,.int .i64 v.c,.string v.z,.string v.k,.bool v.x,.string v.m,.bool v.y,.slice va vl vc] 63)).heap[wr.heap.size]? = some (.cells #[.string v.n,.int .i64 v.c,.string v.z,.string v.k,.bool v.x,.string v.m,.bool v.y,.slice va vl vc] 63 (0,0))):=Array.getElem?_push_size;have BV:=hidK (HB.out.trans ((below1 wr (.cells #[.string v.n,.int .i64 v.c,.string v.z,.string v.k,.bool v.x,.string v.m,.bool v.y,.slice va vl vc] 63)).mono HB.out.size));have TT:=hidK (HTv.out.below (below1 wr (.cells #[.string v.n,.int .i64 v.c,.string v.z,.string v.k,.bool v.x,.string v.m,.bool v.y,.slice va vl vc] 63)));obtain ⟨W,hW⟩ : ∃ W,W = wr.alloc (.cells #[.string v.n,.int .i64 v.c,.string v.z,.string v.k,.bool v.x,.string v.m,.bool v.y,.slice va vl vc] 63):=⟨_,rfl⟩;obtain ⟨gb,hgb⟩ : ∃ gb,gb = wr.heap.size:=⟨_,rfl⟩;rw [← hW] at KV GV BV TT;rw [← hgb] at GV
   go_wp2
   rw [← hW,← hgb];clear hW hgb HB Bk HTv c0 c1 c2 c3 c4 c5 c6 c7 hb pk pkl
   go_loopw [5] (fun i wr => ∃ kq : Nat,kq ≤ vl ∧ i = .int .i64 kq ∧ Hid (∀ (j : Nat) t,j < kq → v.zs[j]? = some t → ∃ (i : Nat) (n : Nd),c.ns[i]? = some n ∧ n.n = t ∧ n.z = v.z) ∧ Hid (Below W.heap.size W wr)) (fun i _ => vl - (intOf i).toNat)
   case atStart => exact ⟨0,by omega,rfl,fun _ _ h => absurd h (by omega),Below.refl _ _⟩
   case round =>
    obtain ⟨kq,hkq,rfl,HQ2,HBW⟩:=hrel;have HB:=hidK (BV.out.trans (HBW.out.mono BV.out.size));have Bk:=upK KV HBW.out;have Bv:=upK GV HBW.out;have pv : wr.cell? ⟨gb,7,none⟩ = some (.slice va vl vc):=cellK Bv.out 7
    by_cases hlt2 : kq < vl
    ·obtain ⟨b2,o2,t,rfl,hb,hx,hc,hsz⟩:=(TT.out.below HBW.out).at hlt2;have HXt:=hidK hx;clear hx hsz
     by_cases hnn : ∃ (i : Nat) (n : Nd),c.ns[i]? = some n ∧ n.n = t
     rotate_left
     ·have HH:=hidK hnn;clear hnn;have Gk:=Bk;have Gv:=Bv;have HW:=HB;obtain ⟨k0,k1,k2,k3,k4,k5⟩:=sl6 Gk;have v7:=fun q : Wd wr => q.slot (o:=7) Gv.out rfl;have tw:=fun q : Wd wr => (q.cell hb).trans hc;have hne0:=Wd.ne wr;have HC0:=hidK (fun q : Wd wr => sxnd_miss ⟨a1,l1,y1,a2,l2,y2,(some ⟨b,o,none⟩),l3,y3,a4,l4,y4,a5,l5,y5⟩ c.now c.ns t q.w (HR.out.n.below (HW.out.trans (q.b.mono HW.out.size))) (fun i n h1 h2 => HH.out ⟨i,n,h1,h2⟩));go_wp2_with fail;refine wp_region_wide (by kernel_rfl) (by kernel_rfl) ?_
      repeat (go_big_quiet_step (first | (go_at_call 126;exact Calls.wide (HC0.out _)) | fail))
      refine wpQuiet_nil ?_;rintro _ ⟨q1,rfl⟩;have HB1:=upB HW q1.b;have Ck:=upK Gk q1.b;have Cv:=upK Gv q1.b;clear hne0 HW HB HC0 k0 k1 k2 k3 k4 k5 v7 tw Gk Gv Bk Bv pv;have HB:=HB1;clear HB1;have Bk:=Ck;clear Ck;have Bv:=Cv;clear Cv;have Gk:=Bk;have Gv:=Bv;have HW:=HB;have k0:=fun q : Wd q1.w => q.slot (o:=0) Gk.out rfl;obtain ⟨v0,v1,v2,v3,v4,v5,v6,v7⟩:=sl8 Gv;have hne0:=Wd.ne q1.w;go_wp2_with fail;refine wp_region_wide (by kernel_rfl) (by kernel_rfl) ?_
      repeat (go_big_quiet_step (first | fail))
      refine wpQuiet_nil ?_;rintro _ ⟨q2,rfl⟩;have HB2:=upB HW q2.b;have Ck:=upK Gk q2.b;have Cv:=upK Gv q2.b;clear hne0 HW HB k0 v0 v1 v2 v3 v4 v5 v6 v7 Gk Gv Bk Bv;have HB:=HB2;clear HB2;have Bk:=Ck;clear Ck;have Bv:=Cv;clear Cv
      go_wp2
      go_ret;refine BoolB.f (fun h => ?_) HB.out;obtain ⟨i,n,h2,h3,_⟩:=(h.1 k v HXv.out) kq t HXt.out;exact HH.out ⟨i,n,h2,h3⟩
     obtain ⟨j1,n,h1,h2⟩:=hnn
     have hl1' : j1 < l1:=by have h3:=(List.getElem?_eq_some_iff.1 h1).1;omega
     obtain ⟨b1,o1,n',rfl,hb1n,hn',hat⟩:=nd_at HR.out.n hl1';rw [h1] at hn';obtain rfl:=Option.some.inj hn';obtain ⟨na,nl,nc,hnr,z0,z1,d0,d1,d2,d3,d4,d5,d6⟩:=nd_cells hat;have HJn:=hidK h1;have HNn:=hidK h2;have HCn:=hidK d1;have HBn:=hidK hb1n
     have hj11 : decide ((j1 : Int) < 0) = false:=by simp
     clear hn' hat hnr z0 z1 d0 d1 d2 d3 d4 d5 d6 h1 h2 hb1n;have Gk:=Bk;have Gv:=Bv;have HW:=HB;obtain ⟨k0,k1,k2,k3,k4,k5⟩:=sl6 Gk;have v7:=fun q : Wd wr => q.slot (o:=7) Gv.out rfl;have tw:=fun q : Wd wr => (q.cell hb).trans hc;have hne0:=Wd.ne wr;have HC0:=hidK (fun q : Wd wr => sxnd_hit ⟨(some ⟨b1,o1,none⟩),l1,y1,a2,l2,y2,(some ⟨b,o,none⟩),l3,y3,a4,l4,y4,a5,l5,y5⟩ c.now c.ns t q.w (HR.out.n.below (HW.out.trans (q.b.mono HW.out.size))) HNR.out HJn.out HNn.out);go_wp2_with fail;refine wp_region_wide (by kernel_rfl) (by kernel_rfl) ?_
     repeat (go_big_quiet_step (first | (go_at_call 126;exact Calls.wide (HC0.out _)) | fail))
     refine wpQuiet_nil ?_;rintro _ ⟨q1,rfl⟩;have HB1:=upB HW q1.b;have Ck:=upK Gk q1.b;have Cv:=upK Gv q1.b;clear hne0 HW HB HC0 k0 k1 k2 k3 k4 k5 v7 tw Gk Gv Bk Bv pv hb hc;have HB:=HB1;clear HB1;have Bk:=Ck;clear Ck;have Bv:=Cv;clear Cv;have HBW1:=upB HBW q1.b;have hbn : b1 < q1.w.heap.size:=Nat.lt_of_lt_of_le HBn.out HB.out.size;have n1:=(cell_below HB.out HBn.out).trans HCn.out;clear HBW
     by_cases hz : n.z = v.z
     ·have q8:=tl_yes hz;have HZ:=hidK hz;clear hz;have Gk:=Bk;have Gv:=Bv;have HW:=HB;have k0:=fun q : Wd q1.w => q.slot (o:=0) Gk.out rfl;obtain ⟨v0,v1,v2,v3,v4,v5,v6,v7⟩:=sl8 Gv;have nw:=fun q : Wd q1.w => (q.cell hbn).trans n1;have hne0:=Wd.ne q1.w;go_wp2_with fail;refine wp_region_wide (by kernel_rfl) (by kernel_rfl) ?_
      repeat (go_big_quiet_step (first | fail))
      refine wpQuiet_nil ?_;rintro _ ⟨q2,rfl⟩;have HB2:=upB HW q2.b;have Ck:=upK Gk q2.b;have Cv:=upK Gv q2.b;clear hne0 HW HB k0 v0 v1 v2 v3 v4 v5 v6 v7 nw Gk Gv Bk Bv hbn n1;have HB:=HB2;clear HB2;have Bk:=Ck;clear Ck;have Bv:=Cv;clear Cv;clear q8;go_wp2_with fail;refine ⟨⟨kq + 1,by omega,by go_num,fun j s hj hs => ?_,HBW1.out.trans (q2.b.mono HBW1.out.size)⟩,by simp [intOf];omega⟩
      by_cases e : j = kq
      ·subst e;rw [HXt.out] at hs;obtain rfl:=Option.some.inj hs;exact ⟨j1,n,HJn.out,HNn.out,HZ.out⟩
      ·exact HQ2.out j s (by omega) hs
     ·have q8:=tl_no hz;have HZ:=hidK hz;clear hz;have Gk:=Bk;have Gv:=Bv;have HW:=HB;have k0:=fun q : Wd q1.w => q.slot (o:=0) Gk.out rfl;obtain ⟨v0,v1,v2,v3,v4,v5,v6,v7⟩:=sl8 Gv;have nw:=fun q : Wd q1.w => (q.cell hbn).trans n1;have hne0:=Wd.ne q1.w;go_wp2_with fail;refine wp_region_wide (by kernel_rfl) (by kernel_rfl) ?_
      repeat (go_big_quiet_step (first | fail))
      refine wpQuiet_nil ?_;rintro _ ⟨q2,rfl⟩;have HB2:=upB HW q2.b;have Ck:=upK Gk q2.b;have Cv:=upK Gv q2.b;clear hne0 HW HB k0 v0 v1 v2 v3 v4 v5 v6 v7 nw Gk Gv Bk Bv hbn n1;have HB:=HB2;clear HB2;have Bk:=Ck;clear Ck;have Bv:=Cv;clear Cv
      go_wp2
      go_ret;refine BoolB.f (fun h => ?_) HB.out;obtain ⟨i,m2,e1,e2,e3⟩:=(h.1 k v HXv.out) kq t HXt.out;obtain ⟨_,rfl⟩:=HNR.out.inj e1 HJn.out (e2.trans HNn.out.symm);exact HZ.out e3
    ·obtain rfl : vl = kq:=by omega
     go_wp2_with fail;refine ⟨⟨k + 1,by omega,by go_num,fun j z hj hz => ?_,HB.out,Bk.out⟩,by simp [intOf];omega⟩
     by_cases e : j = k
     ·subst e;rw [HXv.out] at hz;obtain rfl:=Option.some.inj hz;exact fun j s hs => HQ2.out j s (by have h1:=(List.getElem?_eq_some_iff.1 hs).1;have h2:=HVL.out;omega) hs
     ·exact HQ.out j z (by omega) hz
  ·obtain rfl : l3 = k:=by omega
   have HQ1 : Hid (∀ (j : Nat) z,c.vs[j]? = some z → AQ1 c z):=fun j z hz => HQ.out j z (by have:=(List.getElem?_eq_some_iff.1 hz).1;omega) hz;clear HQ;have kc : wr.cell? ⟨w.heap.size,0,none⟩ = some (.slice a1 l1 y1):=cellK Bk.out 0
   go_wp2
   clear pk kc
   go_loopw [7] (fun i wr => ∃ k : Nat,k ≤ l1 ∧ i = .int .i64 k ∧ Hid (∀ (j : Nat) n,j < k → c.ns[j]? = some n → onOf n.n c.vs ≤ n.s) ∧ Hid (Below w.heap.size w wr) ∧ Hid (wr.heap[w.heap.size]? = some (.cells #[.slice a1 l1 y1,.slice a2 l2 y2,.slice a3 l3 y3,.slice a4 l4 y4,.slice a5 l5 y5,.int .i64 c.now] 36 (0,0)))) (fun i _ => l1 - (intOf i).toNat)
   case atStart => exact ⟨0,by omega,rfl,fun _ _ h => absurd h (by omega),HB.out,Bk.out⟩
   case round =>
    obtain ⟨k,hk,rfl,HQ,HB,Bk⟩:=hrel;have pk : wr.cell? ⟨w.heap.size,0,none⟩ = some (.slice a1 l1 y1):=cellK Bk.out 0
    by_cases hlt : k < l1
    ·obtain ⟨b,o,n,rfl,hb,hx,hat⟩:=nd_at (HR.out.n.below HB.out) hlt;obtain ⟨va,vl,vc,hvr,z0,z1,c0,c1,c2,c3,c4,c5,c6⟩:=nd_cells hat;have HXn:=hidK hx;have HTn:=hidK hvr;have HZn0:=hidK z0;have HZn1:=hidK z1;clear hat hx z0 z1 hvr;have Gk:=Bk;have HW:=HB;obtain ⟨k0,k1,k2,k3,k4,k5⟩:=sl6 Gk;have n0w:=fun q : Wd wr => (q.cell hb).trans c0;have n2w:=fun q : Wd wr => (q.cell hb).trans c3;have hne0:=Wd.ne wr;have HC0:=hidK (fun q : Wd wr => son_any ⟨(some ⟨b,o,none⟩),l1,y1,a2,l2,y2,a3,l3,y3,a4,l4,y4,a5,l5,y5⟩ c.now c.vs n.n q.w (HR.out.v.below (HW.out.trans (q.b.mono HW.out.size))) HL3.out);go_wp2_with fail;refine wp_region_wide (by kernel_rfl) (by kernel_rfl) ?_
     repeat (go_big_quiet_step (first | (go_at_call 129;exact Calls.wide (HC0.out _)) | fail))
     refine wpQuiet_nil ?_;rintro _ ⟨q1,rfl⟩;have HB1:=upB HW q1.b;have Ck:=upK Gk q1.b;clear hne0 HW HB HC0 k0 k1 k2 k3 k4 k5 n0w n2w Gk Bk pk c0 c1 c2 c3 c4 c5 c6 hb;have HB:=HB1;clear HB1;have Bk:=Ck;clear Ck
     by_cases hq : onOf n.n c.vs ≤ n.s
     ·have HCq:=hidK hq;go_wp2_with fail;refine ⟨⟨k + 1,by omega,by go_num,fun j z hj hz => ?_,HB.out,Bk.out⟩,by simp [intOf];omega⟩
      by_cases e : j = k
      ·subst e;rw [HXn.out] at hz;obtain rfl:=Option.some.inj hz;exact HCq.out
      ·exact HQ.out j z (by omega) hz
     ·have HCq:=hidK hq
      go_wp2
      go_ret;exact BoolB.f (fun h => by have h1 : onOf n.n c.vs ≤ n.s:=h.2 k n HXn.out;have h2:=HCq.out;omega) HB.out
    ·obtain rfl : l1 = k:=by omega
     go_wp2
     go_ret;exact BoolB.t ⟨HQ1.out,fun j n hz => HQ.out j n (by have:=(List.getElem?_eq_some_iff.1 hz).1;omega) hz⟩ HB.out

def FreshN (W : World) : Fact:=fun v w => ∃ g,v = .pointer (some ⟨g,0,none⟩) ∧ W.heap.size ≤ g ∧ w.heap[g]? = some (.cells #[.string ⟨#[]⟩,.string ⟨#[]⟩,.int .i64 0,.int .i64 0,.int .i64 0,.bool false,.slice none 0 0] 106 (0,0))
theorem FreshN.mono (W : World) : Fact.Mono (FreshN W):=by
 rintro v w w' ⟨g,h1,h2,h3⟩ hb;exact ⟨g,h1,h2,(hb.block g (lt_of_some h3)).trans h3⟩
theorem put7N {w : World} {g : Nat} {v0 v1 v2 v3 v4 v5 v6 : Value} (h : w.heap[g]? = some (.cells #[.string ⟨#[]⟩,.string ⟨#[]⟩,.int .i64 0,.int .i64 0,.int .i64 0,.bool false,.slice none 0 0] 106 (0,0))) :
  (((((((w.setCell ⟨g,0,none⟩ (v0)).setCell ⟨g,1,none⟩ (v1)).setCell ⟨g,2,none⟩ (v2)).setCell ⟨g,3,none⟩ (v3)).setCell ⟨g,4,none⟩ (v4)).setCell ⟨g,5,none⟩ (v5)).setCell ⟨g,6,none⟩ (v6)).heap[g]? = some (.cells #[v0,v1,v2,v3,v4,v5,v6] 106 (0,0)):=by
 have:=block_set (i:=6) (block_set (i:=5) (block_set (i:=4) (block_set (i:=3) (block_set (i:=2) (block_set (i:=1) (block_set (i:=0) h v0) v1) v2) v3) v4) v5) v6
 simpa using this
theorem set_below7 {W w : World} {g : Nat} {v0 v1 v2 v3 v4 v5 v6 : Value} (hg : W.heap.size ≤ g) (h : Below W.heap.size W w) : Below W.heap.size W (((((((w.setCell ⟨g,0,none⟩ (v0)).setCell ⟨g,1,none⟩ (v1)).setCell ⟨g,2,none⟩ (v2)).setCell ⟨g,3,none⟩ (v3)).setCell ⟨g,4,none⟩ (v4)).setCell ⟨g,5,none⟩ (v5)).setCell ⟨g,6,none⟩ (v6)) :=
 set_below hg (set_below hg (set_below hg (set_below hg (set_below hg (set_below hg (set_below hg h))))))
def AllS (c : Cl) (p : Pd) (n : Nd) : Prop:=∀ (j : Nat) t,p.zs[j]? = some t → ∃ v,IsBd c t v ∧ InL n.zs v.n

theorem sall_any (d : Ad) (c : Cl) (p : Pd) (pa : Option Addr) (pl pc : Nat) (j1 : Nat) (n : Nd) (w : World) (hr : ClRow w d c.raw) (hn : RisBy Nd.n c.ns) (hx : RisBy Xd.n c.xs) (hv : RisBy Vd.n c.vs) (hne : ∀ (j : Nat) v,c.vs[j]? = some v → ¬ v.n = ⟨#[]⟩) (hp : TxRow w pa pl pc p.zs) (hj1 : c.ns[j1]? = some n) (hnn : n.n = p.d) (hbd : ∀ (j : Nat) t,p.zs[j]? = some t → ∃ v,IsBd c t v) :
  Calls Tryz.prog 130 #[.agg #[.slice d.a1 d.l1 d.c1,.slice d.a2 d.l2 d.c2,.slice d.a3 d.l3 d.c3,.slice d.a4 d.l4 d.c4,.slice d.a5 d.l5 d.c5,.int .i64 c.now],.agg #[.string p.n,.int .i64 p.c,.string p.z,.slice pa pl pc,.string p.d,.int .i64 p.p]] w (BoolB (AllS c p n) w):=by
 obtain ⟨a1,l1,y1,a2,l2,y2,a3,l3,y3,a4,l4,y4,a5,l5,y5⟩:=d;dsimp only;have HR:=hidK hr
 have hl1 : c.ns.length = l1:=by simpa using (show (c.ns.map ndF).length = l1 from hr.n.1)
 have hm1 : l1 ≤ 9223372036854775807:=Nat.le_trans hr.n.2.1 hr.n.2.2.1
 have hl2 : c.ks.length = l2:=by simpa using (show (c.ks.map kdF).length = l2 from hr.k.1)
 have hm2 : l2 ≤ 9223372036854775807:=Nat.le_trans hr.k.2.1 hr.k.2.2.1
 have hl3 : c.vs.length = l3:=by simpa using (show (c.vs.map vdF).length = l3 from hr.v.1)
 have hm3 : l3 ≤ 9223372036854775807:=Nat.le_trans hr.v.2.1 hr.v.2.2.1
 have hl4 : c.xs.length = l4:=by simpa using (show (c.xs.map xdF).length = l4 from hr.x.1)
 have hm4 : l4 ≤ 9223372036854775807:=Nat.le_trans hr.x.2.1 hr.x.2.2.1
 have hl5 : c.ps.length = l5:=by simpa using (show (c.ps.map pdF).length = l5 from hr.p.1)
 have hm5 : l5 ≤ 9223372036854775807:=Nat.le_trans hr.p.2.1 hr.p.2.2.1;clear hr;have HNR:=hidK hn;have HX:=hidK hx;have HV:=hidK hv;have HNE:=hidK hne;have HP:=hidK hp;have HBD:=hidK hbd;have hlc : pl ≤ 9223372036854775807:=Nat.le_trans hp.2.1 hp.2.2.1;have hzl : p.zs.length = pl:=hp.1
 have hl1' : j1 < l1:=by have h3:=(List.getElem?_eq_some_iff.1 hj1).1;omega
 obtain ⟨b1,o1,n',rfl,hb1n,hn',hat⟩:=nd_at HR.out.n hl1';rw [hj1] at hn';obtain rfl:=Option.some.inj hn';obtain ⟨na,nl,nc,hnr,z0,z1,d0,d1,d2,d3,d4,d5,d6⟩:=nd_cells hat;have HJn:=hidK hj1;have HNn:=hidK hnn;have HTn:=hidK hnr;have HBn:=hidK hb1n;have HD : Hid (w.cell? ⟨b1,o1 + j1 * 7,none⟩ = some (.string n.n) ∧ w.cell? ⟨b1,o1 + j1 * 7 + 1,none⟩ = some (.string n.z) ∧ w.cell? ⟨b1,o1 + j1 * 7 + 2,none⟩ = some (.int .i64 n.c) ∧ w.cell? ⟨b1,o1 + j1 * 7 + 3,none⟩ = some (.int .i64 n.s) ∧ w.cell? ⟨b1,o1 + j1 * 7 + 4,none⟩ = some (.int .i64 n.u) ∧ w.cell? ⟨b1,o1 + j1 * 7 + 5,none⟩ = some (.bool n.d) ∧ w.cell? ⟨b1,o1 + j1 * 7 + 6,none⟩ = some (.slice na nl nc)):=⟨d0,d1,d2,d3,d4,d5,d6⟩;clear hn' hat hnr z0 z1 d0 d1 d2 d3 d4 d5 d6 hj1 hnn hb1n hn hx hv hne hp hbd;obtain ⟨W,hW0⟩ : ∃ W,W = (w.alloc (.cells #[.slice (some ⟨b1,o1,none⟩) l1 y1,.slice a2 l2 y2,.slice a3 l3 y3,.slice a4 l4 y4,.slice a5 l5 y5,.int .i64 c.now] 36)).alloc (.cells #[.string p.n,.int .i64 p.c,.string p.z,.slice pa pl pc,.string p.d,.int .i64 p.p] 58):=⟨_,rfl⟩
 have GK : Hid (W.heap[w.heap.size]? = some (.cells #[.slice (some ⟨b1,o1,none⟩) l1 y1,.slice a2 l2 y2,.slice a3 l3 y3,.slice a4 l4 y4,.slice a5 l5 y5,.int .i64 c.now] 36 (0,0))):=by rw [hW0];exact heap2_0 _ _ _
 have GP : Hid (W.heap[w.heap.size + 1]? = some (.cells #[.string p.n,.int .i64 p.c,.string p.z,.slice pa pl pc,.string p.d,.int .i64 p.p] 58 (0,0))):=by rw [hW0];exact heap2_1 _ _ _
 have BW : Hid (Below w.heap.size w W):=by rw [hW0];exact below2 _ _ _
 go_enter Tryz.func130,Tryz.ntmps130
 go_wp2_with fail;rw [← hW0];clear hW0;rename_i K0 hK0;refine wp_region_grow_last (by kernel_rfl) rfl rfl (by kernel_rfl) ?_;refine' Grow.stepC _ rfl ?_ ?_;rotate_left 1
 ·refine Obl.plain rfl ?_;intro ac wg K hsz hW hf hK;clear hsz;have e2:=hf 2 (by decide)
  simp [slotFact,List.lookup] at e2
  clear hf;go_simp;refine hK _ _ (Below.refl _ _) ?_;with_reducible rfl
 refine' Grow.stepC _ rfl ?_ ?_;rotate_left 1
 ·refine Obl.plain rfl ?_;intro ac wg K hsz hW hf hK;clear hsz;have e7:=hf 7 (by decide)
  simp [slotFact,List.lookup] at e7
  clear hf;obtain ⟨k0,k1,k2,k3,k4,k5⟩:=cs6 ((hW.block _ (lt_of_some GK.out)).trans GK.out);go_simp;refine hK _ _ (Below.refl _ _) ?_;with_reducible rfl
 refine' Grow.stepC _ rfl ?_ ?_;rotate_left 1
 ·refine Obl.plain rfl ?_;intro ac wg K hsz hW hf hK;clear hsz;have e2:=hf 2 (by decide)
  simp [slotFact,List.lookup] at e2
  clear hf;obtain ⟨k0,k1,k2,k3,k4,k5⟩:=cs6 ((hW.block _ (lt_of_some GK.out)).trans GK.out);go_simp;refine hK _ _ (Below.refl _ _) ?_;with_reducible rfl
 refine' Grow.stepC _ rfl ?_ ?_;rotate_left 1
 ·refine Obl.plain rfl ?_;intro ac wg K hsz hW hf hK;clear hsz;have e3:=hf 3 (by decide)
  simp [slotFact,List.lookup] at e3
  clear hf;go_simp;refine hK _ _ (Below.refl _ _) ?_;with_reducible rfl
 refine' Grow.stepC _ rfl ?_ ?_;rotate_left 1
 ·refine Obl.plain rfl ?_;intro ac wg K hsz hW hf hK;clear hsz;have e10:=hf 10 (by decide)
  simp [slotFact,List.lookup] at e10
  clear hf;obtain ⟨r0,r1,r2,r3,r4,r5⟩:=cs6 ((hW.block _ (lt_of_some GP.out)).trans GP.out);go_simp;refine hK _ _ (Below.refl _ _) ?_;with_reducible rfl
 refine' Grow.stepC (.int .i64 j1) rfl ?_ ?_
 ·refine Obl.plain rfl ?_;intro ac wg K hsz hW hf hK;clear hsz;have e9:=hf 9 (by decide)
  simp [slotFact,List.lookup] at e9
  have e11:=hf 11 (by decide)
  simp [slotFact,List.lookup] at e11
  clear hf;go_simp;refine (sxnd_hit ⟨(some ⟨b1,o1,none⟩),l1,y1,a2,l2,y2,a3,l3,y3,a4,l4,y4,a5,l5,y5⟩ c.now c.ns p.d _ (HR.out.n.below (BW.out.trans (hW.mono BW.out.size))) HNR.out HJn.out HNn.out).mono ?_;rintro e w5 ⟨rfl,hb5⟩;exact hK _ _ hb5 rfl
 refine' Grow.stepC _ rfl ?_ ?_;rotate_left 1
 ·refine Obl.plain rfl ?_;intro ac wg K hsz hW hf hK;clear hsz;have e8:=hf 8 (by decide)
  simp [slotFact,List.lookup] at e8
  have e12:=hf 12 (by decide)
  simp [slotFact,List.lookup] at e12
  clear hf;go_simp;refine hK _ _ (Below.refl _ _) ?_;with_reducible rfl
 refine' Grow.stepC _ rfl ?_ ?_;rotate_left 1
 ·refine Obl.plain rfl ?_;intro ac wg K hsz hW hf hK;clear hsz;have e13:=hf 13 (by decide)
  simp [slotFact,List.lookup] at e13
  clear hf;have hBg:=BW.out.trans (hW.mono BW.out.size);obtain ⟨d0,d1,d2,d3,d4,d5,d6⟩:=HD.out;have g0:=(cell_below hBg HBn.out).trans d0;have g1:=(cell_below hBg HBn.out).trans d1;have g2:=(cell_below hBg HBn.out).trans d2;have g3:=(cell_below hBg HBn.out).trans d3;have g4:=(cell_below hBg HBn.out).trans d4;have g5:=(cell_below hBg HBn.out).trans d5;have g6:=(cell_below hBg HBn.out).trans d6;clear d0 d1 d2 d3 d4 d5 d6 hBg;go_simp;refine hK _ _ (Below.refl _ _) ?_;with_reducible rfl
 refine Grow.step (FreshN W) rfl (FreshN.mono W) ?_ ?_
 ·refine Obl.plain rfl ?_;intro ac wg K hsz hW hf hK;clear hsz;clear hf;go_simp;exact hK _ _ (below1 _ _) ⟨_,rfl,hW.size,Array.getElem?_push_size⟩
 refine Grow.done ?_;intro q wz hW hf;simp only [List.forall_mem_cons] at hf;obtain ⟨⟨g5,h5,hbW,hgb⟩,h14,-⟩:=hf;have r0 : wz.cell? ⟨g5,0,none⟩ = some (.string ⟨#[]⟩):=cellK hgb 0;have r1 : wz.cell? ⟨g5,1,none⟩ = some (.string ⟨#[]⟩):=cellK hgb 1;have r2 : wz.cell? ⟨g5,2,none⟩ = some (.int .i64 0):=cellK hgb 2;have r3 : wz.cell? ⟨g5,3,none⟩ = some (.int .i64 0):=cellK hgb 3;have r4 : wz.cell? ⟨g5,4,none⟩ = some (.int .i64 0):=cellK hgb 4;have r5 : wz.cell? ⟨g5,5,none⟩ = some (.bool false):=cellK hgb 5;have r6 : wz.cell? ⟨g5,6,none⟩ = some (.slice none 0 0):=cellK hgb 6;have f0:=froK hgb 0;have f1:=froK hgb 1;have f2:=froK hgb 2;have f3:=froK hgb 3;have f4:=froK hgb 4;have f5:=froK hgb 5;have f6:=froK hgb 6;have GN:=hidK (put7N (v0:=.string n.n) (v1:=.string n.z) (v2:=.int .i64 n.c) (v3:=.int .i64 n.s) (v4:=.int .i64 n.u) (v5:=.bool n.d) (v6:=.slice na nl nc) hgb);have BN:=hidK (set_below7 (v0:=.string n.n) (v1:=.string n.z) (v2:=.int .i64 n.c) (v3:=.int .i64 n.s) (v4:=.int .i64 n.u) (v5:=.bool n.d) (v6:=.slice na nl nc) hbW hW);clear hgb hW;intro K hK;rw [if_pos (by rfl)];simp only [putsAll,List.foldr,Act.put,List.setIfInBounds_toArray,List.set_cons_zero,List.set_cons_succ,h5,h14];simp only [List.getLast];go_simp;refine hK _ _ ?_;refine hK0 _ _ ?_;clear hK hK0 K K0
 generalize (((((((wz.setCell ⟨g5,0,none⟩ (.string n.n)).setCell ⟨g5,1,none⟩ (.string n.z)).setCell ⟨g5,2,none⟩ (.int .i64 n.c)).setCell ⟨g5,3,none⟩ (.int .i64 n.s)).setCell ⟨g5,4,none⟩ (.int .i64 n.u)).setCell ⟨g5,5,none⟩ (.bool n.d)).setCell ⟨g5,6,none⟩ (.slice na nl nc)) = Y at GN BN ⊢
 clear r0 f0 r1 f1 r2 f2 r3 f3 r4 f4 r5 f5 r6 f6;have KV:=upK GK BN.out;have PVv:=upK GP BN.out;have BV:=hidK (BW.out.trans (BN.out.mono BW.out.size));clear GK GP BW BN hbW;have pp : Y.cell? ⟨w.heap.size + 1,3,none⟩ = some (.slice pa pl pc):=cellK PVv.out 3
 go_wp2
 clear pp
 go_loopw [6] (fun i wr => ∃ k : Nat,k ≤ pl ∧ i = .int .i64 k ∧ Hid (∀ (j : Nat) t,j < k → p.zs[j]? = some t → ∃ v,IsBd c t v ∧ InL n.zs v.n) ∧ Hid (Below Y.heap.size Y wr)) (fun i _ => pl - (intOf i).toNat)
 case atStart => exact ⟨0,by omega,rfl,fun _ _ h => absurd h (by omega),Below.refl _ _⟩
 case round =>
  obtain ⟨k,hk,rfl,HQ,HBY⟩:=hrel;have HB:=hidK (BV.out.trans (HBY.out.mono BV.out.size));have Bk:=upK KV HBY.out;have Bp:=upK PVv HBY.out;have Bn:=upK GN HBY.out;have pp : wr.cell? ⟨w.heap.size + 1,3,none⟩ = some (.slice pa pl pc):=cellK Bp.out 3
  by_cases hlt : k < pl
  ·obtain ⟨b,o,t,rfl,hb,hxt,hc,hsz⟩:=(HP.out.below HB.out).at hlt;have HXt:=hidK hxt;clear hxt hsz;obtain ⟨v,hbd⟩:=HBD.out k t HXt.out;obtain ⟨j3,hj3⟩:=hbd.at
   have hl3' : j3 < l3:=by have h1:=(List.getElem?_eq_some_iff.1 hj3).1;omega
   obtain ⟨b3,o3,v',rfl,hb3,hv',hat⟩:=vd_at HR.out.v hl3';rw [hj3] at hv';obtain rfl:=Option.some.inj hv';obtain ⟨xa,xl,xc,hvr,z0,z2,z3,z5,d0,d1,d2,d3,d4,d5,d6,d7⟩:=vd_cells hat;have HJ:=hidK hj3;have HDb:=hidK hbd;have hbv : b3 < wr.heap.size:=Nat.lt_of_lt_of_le hb3 HB.out.size;have v0:=(cell_below HB.out hb3).trans d0;clear hv' hat hvr z0 z2 z3 z5 d0 d1 d2 d3 d4 d5 d6 d7 hj3 hbd hb3
   by_cases hin : InL n.zs v.n
   ·have HIn:=hidK hin;clear hin;have Gk:=Bk;have Gp:=Bp;have Gn:=Bn;have HW:=HB;obtain ⟨k0,k1,k2,k3,k4,k5⟩:=sl6 Gk;have p3:=fun q : Wd wr => q.slot (o:=3) Gp.out rfl;have n6:=fun q : Wd wr => q.slot (o:=6) Gn.out rfl;have tw:=fun q : Wd wr => (q.cell hb).trans hc;have vw:=fun q : Wd wr => (q.cell hbv).trans v0;have hne0:=Wd.ne wr;have HC0:=hidK (fun q : Wd wr => sbind_hit ⟨(some ⟨b1,o1,none⟩),l1,y1,a2,l2,y2,(some ⟨b3,o3,none⟩),l3,y3,a4,l4,y4,a5,l5,y5⟩ c t q.w (HR.out.below (HW.out.trans (q.b.mono HW.out.size))) HX.out HV.out HNE.out HJ.out HDb.out);have HC1:=hidK (fun q : Wd wr => (shas_any na nl nc n.zs v.n q.w (HTn.out.below (HW.out.trans (q.b.mono HW.out.size)))).mono (fun _ _ h => BoolB.yes h HIn.out));go_wp2_with fail;refine wp_region_wide (by kernel_rfl) (by kernel_rfl) ?_
    repeat (go_big_quiet_step (first | (go_at_call 24;exact Calls.wide (HC0.out _)) | (go_at_call 26;exact Calls.wide (HC1.out _)) | fail))
    refine wpQuiet_nil ?_;rintro _ ⟨q2,rfl⟩;have HB1:=upB HW q2.b;have Ck:=upK Gk q2.b;have Cp:=upK Gp q2.b;have Cn:=upK Gn q2.b;clear hne0 HW HB HC0 HC1 k0 k1 k2 k3 k4 k5 p3 n6 tw vw Gk Gp Gn Bk Bp Bn pp hb hc hbv v0;have HB:=HB1;clear HB1;have Bk:=Ck;clear Ck;have Bp:=Cp;clear Cp;have Bn:=Cn;clear Cn;go_wp2_with fail;refine ⟨⟨k + 1,by omega,by go_num,fun j s hj hs => ?_,HBY.out.trans (q2.b.mono HBY.out.size)⟩,by simp [intOf];omega⟩
    by_cases e : j = k
    ·subst e;rw [HXt.out] at hs;obtain rfl:=Option.some.inj hs;exact ⟨v,HDb.out,HIn.out⟩
    ·exact HQ.out j s (by omega) hs
   ·have HIn:=hidK hin;clear hin;have Gk:=Bk;have Gp:=Bp;have Gn:=Bn;have HW:=HB;obtain ⟨k0,k1,k2,k3,k4,k5⟩:=sl6 Gk;have p3:=fun q : Wd wr => q.slot (o:=3) Gp.out rfl;have n6:=fun q : Wd wr => q.slot (o:=6) Gn.out rfl;have tw:=fun q : Wd wr => (q.cell hb).trans hc;have vw:=fun q : Wd wr => (q.cell hbv).trans v0;have hne0:=Wd.ne wr;have HC0:=hidK (fun q : Wd wr => sbind_hit ⟨(some ⟨b1,o1,none⟩),l1,y1,a2,l2,y2,(some ⟨b3,o3,none⟩),l3,y3,a4,l4,y4,a5,l5,y5⟩ c t q.w (HR.out.below (HW.out.trans (q.b.mono HW.out.size))) HX.out HV.out HNE.out HJ.out HDb.out);have HC1:=hidK (fun q : Wd wr => (shas_any na nl nc n.zs v.n q.w (HTn.out.below (HW.out.trans (q.b.mono HW.out.size)))).mono (fun _ _ h => BoolB.no h HIn.out));go_wp2_with fail;refine wp_region_wide (by kernel_rfl) (by kernel_rfl) ?_
    repeat (go_big_quiet_step (first | (go_at_call 24;exact Calls.wide (HC0.out _)) | (go_at_call 26;exact Calls.wide (HC1.out _)) | fail))
    refine wpQuiet_nil ?_;rintro _ ⟨q2,rfl⟩;have HB1:=upB HW q2.b;have Ck:=upK Gk q2.b;have Cp:=upK Gp q2.b;have Cn:=upK Gn q2.b;clear hne0 HW HB HC0 HC1 k0 k1 k2 k3 k4 k5 p3 n6 tw vw Gk Gp Gn Bk Bp Bn pp hb hc hbv v0;have HB:=HB1;clear HB1;have Bk:=Ck;clear Ck;have Bp:=Cp;clear Cp;have Bn:=Cn;clear Cn
    go_wp2
    go_ret;refine BoolB.f (fun h => ?_) HB.out;obtain ⟨v2,e1,e2⟩:=h k t HXt.out;obtain rfl:=IsBd.inj HX.out HV.out HDb.out e1;exact HIn.out e2
  ·obtain rfl : pl = k:=by omega
   go_wp2
   go_ret;exact BoolB.t (fun j t ht => HQ.out j t (by have:=(List.getElem?_eq_some_iff.1 ht).1;omega) ht) HB.out

theorem smounted_any (d : Ad) (c : Cl) (w : World) (hr : ClRow w d c.raw) (hn : RisBy Nd.n c.ns) (hx : RisBy Xd.n c.xs) (hv : RisBy Vd.n c.vs) (hne : ∀ (j : Nat) v,c.vs[j]? = some v → ¬ v.n = ⟨#[]⟩) (hrun : ∀ (j : Nat) p,c.ps[j]? = some p → p.p = 2 → (∃ (i : Nat) (n : Nd),c.ns[i]? = some n ∧ n.n = p.d) ∧ ∀ (j : Nat) t,p.zs[j]? = some t → ∃ v,IsBd c t v) :
  Calls Tryz.prog 101 #[.agg #[.slice d.a1 d.l1 d.c1,.slice d.a2 d.l2 d.c2,.slice d.a3 d.l3 d.c3,.slice d.a4 d.l4 d.c4,.slice d.a5 d.l5 d.c5,.int .i64 c.now]] w (BoolB (MountedI c) w):=by
 obtain ⟨a1,l1,y1,a2,l2,y2,a3,l3,y3,a4,l4,y4,a5,l5,y5⟩:=d;dsimp only;have HR:=hidK hr
 have hl1 : c.ns.length = l1:=by simpa using (show (c.ns.map ndF).length = l1 from hr.n.1)
 have hm1 : l1 ≤ 9223372036854775807:=Nat.le_trans hr.n.2.1 hr.n.2.2.1
 have hl2 : c.ks.length = l2:=by simpa using (show (c.ks.map kdF).length = l2 from hr.k.1)
 have hm2 : l2 ≤ 9223372036854775807:=Nat.le_trans hr.k.2.1 hr.k.2.2.1
 have hl3 : c.vs.length = l3:=by simpa using (show (c.vs.map vdF).length = l3 from hr.v.1)
 have hm3 : l3 ≤ 9223372036854775807:=Nat.le_trans hr.v.2.1 hr.v.2.2.1
 have hl4 : c.xs.length = l4:=by simpa using (show (c.xs.map xdF).length = l4 from hr.x.1)
 have hm4 : l4 ≤ 9223372036854775807:=Nat.le_trans hr.x.2.1 hr.x.2.2.1
 have hl5 : c.ps.length = l5:=by simpa using (show (c.ps.map pdF).length = l5 from hr.p.1)
 have hm5 : l5 ≤ 9223372036854775807:=Nat.le_trans hr.p.2.1 hr.p.2.2.1;clear hr;have HNR:=hidK hn;have HX:=hidK hx;have HV:=hidK hv;have HNE:=hidK hne;have HRun:=hidK hrun;clear hn hx hv hne hrun
 go_enter Tryz.func101,Tryz.ntmps101
 go_wp2
 go_loopw [3] (fun i wr => ∃ k : Nat,k ≤ l1 ∧ i = .int .i64 k ∧ Hid (∀ (j : Nat) z,j < k → c.ns[j]? = some z → MntI c z) ∧ Hid (Below w.heap.size w wr) ∧ Hid (wr.heap[w.heap.size]? = some (.cells #[.slice a1 l1 y1,.slice a2 l2 y2,.slice a3 l3 y3,.slice a4 l4 y4,.slice a5 l5 y5,.int .i64 c.now] 36 (0,0)))) (fun i _ => l1 - (intOf i).toNat)
 case atStart => exact ⟨0,by omega,rfl,fun _ _ h => absurd h (by omega),below1 _ _,Array.getElem?_push_size⟩
 case round =>
  obtain ⟨k,hk,rfl,HQ,HB,Bk⟩:=hrel;have pk : wr.cell? ⟨w.heap.size,0,none⟩ = some (.slice a1 l1 y1):=cellK Bk.out 0;have pkl : w.heap.size < wr.heap.size:=lt_of_some Bk.out
  by_cases hlt : k < l1
  ·obtain ⟨b,o,n,rfl,hb,hx,hat⟩:=nd_at (HR.out.n.below HB.out) hlt;obtain ⟨va,vl,vc,hvr,z0,z1,c0,c1,c2,c3,c4,c5,c6⟩:=nd_cells hat;have HXn:=hidK hx;have HTn:=hidK hvr;have HZn0:=hidK z0;have HZn1:=hidK z1;clear hat hx z0 z1 hvr;have hvl : n.zs.length = vl:=HTn.out.1;have hvc : vl ≤ 9223372036854775807:=Nat.le_trans HTn.out.2.1 HTn.out.2.2.1;have HVL:=hidK hvl;clear hvl;have KV : Hid ((wr.alloc (.cells #[.string n.n,.string n.z,.int .i64 n.c,.int .i64 n.s,.int .i64 n.u,.bool n.d,.slice va vl vc] 106)).heap[w.heap.size]? = some (.cells #[.slice (some ⟨b,o,none⟩) l1 y1,.slice a2 l2 y2,.slice a3 l3 y3,.slice a4 l4 y4,.slice a5 l5 y5,.int .i64 c.now] 36 (0,0))):=(Below.heap_alloc wr (.cells #[.string n.n,.string n.z,.int .i64 n.c,.int .i64 n.s,.int .i64 n.u,.bool n.d,.slice va vl vc] 106) _ (lt_of_some Bk.out)).trans Bk.out;have GV : Hid ((wr.alloc (.cells #[.string n.n,.string n.z,.int .i64 n.c,.int .i64 n.s,.int .i64 n.u,.bool n.d,.slice va vl vc] 106)).heap[wr.heap.size]? = some (.cells #[.string n.n,.string n.z,.int .i64 n.c,.int .i64 n.s,.int .i64 n.u,.bool n.d,.slice va vl vc] 106 (0,0))):=Array.getElem?_push_size;have BV:=hidK (HB.out.trans ((below1 wr (.cells #[.string n.n,.string n.z,.int .i64 n.c,.int .i64 n.s,.int .i64 n.u,.bool n.d,.slice va vl vc] 106)).mono HB.out.size));have TT:=hidK (HTn.out.below (below1 wr (.cells #[.string n.n,.string n.z,.int .i64 n.c,.int .i64 n.s,.int .i64 n.u,.bool n.d,.slice va vl vc] 106)));obtain ⟨W,hW⟩ : ∃ W,W = wr.alloc (.cells #[.string n.n,.string n.z,.int .i64 n.c,.int .i64 n.s,.int .i64 n.u,.bool n.d,.slice va vl vc] 106):=⟨_,rfl⟩;obtain ⟨gb,hgb⟩ : ∃ gb,gb = wr.heap.size:=⟨_,rfl⟩;rw [← hW] at KV GV BV TT;rw [← hgb] at GV
   go_wp2
   rw [← hW,← hgb];clear hW hgb HB Bk HTn c0 c1 c2 c3 c4 c5 c6 hb pk pkl
   go_loopw [5] (fun i wr => ∃ kq : Nat,kq ≤ vl ∧ i = .int .i64 kq ∧ Hid (∀ (j : Nat) t,j < kq → n.zs[j]? = some t → ∃ (i : Nat) (v : Vd),c.vs[i]? = some v ∧ v.n = t ∧ (n.d = true ∨ InL v.zs n.n)) ∧ Hid (Below W.heap.size W wr)) (fun i _ => vl - (intOf i).toNat)
   case atStart => exact ⟨0,by omega,rfl,fun _ _ h => absurd h (by omega),Below.refl _ _⟩
   case round =>
    obtain ⟨kq,hkq,rfl,HQ2,HBW⟩:=hrel;have HB:=hidK (BV.out.trans (HBW.out.mono BV.out.size));have Bk:=upK KV HBW.out;have Bv:=upK GV HBW.out;have pv : wr.cell? ⟨gb,6,none⟩ = some (.slice va vl vc):=cellK Bv.out 6
    by_cases hlt2 : kq < vl
    ·obtain ⟨b2,o2,t,rfl,hb,hx,hc,hsz⟩:=(TT.out.below HBW.out).at hlt2;have HXt:=hidK hx;clear hx hsz
     by_cases hnn : ∃ (i : Nat) (v : Vd),c.vs[i]? = some v ∧ v.n = t
     rotate_left
     ·have HH:=hidK hnn;clear hnn;have Gk:=Bk;have Gv:=Bv;have HW:=HB;obtain ⟨k0,k1,k2,k3,k4,k5⟩:=sl6 Gk;have v6:=fun q : Wd wr => q.slot (o:=6) Gv.out rfl;have tw:=fun q : Wd wr => (q.cell hb).trans hc;have hne0:=Wd.ne wr;have HC0:=hidK (fun q : Wd wr => sxvd_miss ⟨(some ⟨b,o,none⟩),l1,y1,a2,l2,y2,a3,l3,y3,a4,l4,y4,a5,l5,y5⟩ c.now c.vs t q.w (HR.out.v.below (HW.out.trans (q.b.mono HW.out.size))) (fun i v h1 h2 => HH.out ⟨i,v,h1,h2⟩));go_wp2_with fail;refine wp_region_wide (by kernel_rfl) (by kernel_rfl) ?_
      repeat (go_big_quiet_step (first | (go_at_call 53;exact Calls.wide (HC0.out _)) | fail))
      refine wpQuiet_nil ?_;rintro _ ⟨q1,rfl⟩;have HB1:=upB HW q1.b;have Ck:=upK Gk q1.b;have Cv:=upK Gv q1.b;clear hne0 HW HB HC0 k0 k1 k2 k3 k4 k5 v6 tw Gk Gv Bk Bv pv;have HB:=HB1;clear HB1;have Bk:=Ck;clear Ck;have Bv:=Cv;clear Cv;have Gk:=Bk;have Gv:=Bv;have HW:=HB;have k2:=fun q : Wd q1.w => q.slot (o:=2) Gk.out rfl;obtain ⟨v0,v1,v2,v3,v4,v5,v6⟩:=sl7 Gv;have hne0:=Wd.ne q1.w;go_wp2_with fail;refine wp_region_wide (by kernel_rfl) (by kernel_rfl) ?_
      repeat (go_big_quiet_step (first | fail))
      refine wpQuiet_nil ?_;rintro _ ⟨q2,rfl⟩;have HB2:=upB HW q2.b;have Ck:=upK Gk q2.b;have Cv:=upK Gv q2.b;clear hne0 HW HB k2 v0 v1 v2 v3 v4 v5 v6 Gk Gv Bk Bv;have HB:=HB2;clear HB2;have Bk:=Ck;clear Ck;have Bv:=Cv;clear Cv
      go_wp2
      go_ret;refine BoolB.f (fun h => ?_) HB.out;obtain ⟨i,v,h2,h3,_⟩:=(h.1 k n HXn.out) kq t HXt.out;exact HH.out ⟨i,v,h2,h3⟩
     obtain ⟨j3,v,h1,h2⟩:=hnn
     have hl3' : j3 < l3:=by have h3:=(List.getElem?_eq_some_iff.1 h1).1;omega
     obtain ⟨b3,o3,v',rfl,hb3,hv',hat⟩:=vd_at HR.out.v hl3';rw [h1] at hv';obtain rfl:=Option.some.inj hv';obtain ⟨xa,xl,xc,hvr,z0,z2,z3,z5,d0,d1,d2,d3,d4,d5,d6,d7⟩:=vd_cells hat;have HJ:=hidK h1;have HNv:=hidK h2;have HTx:=hidK hvr;have HC7:=hidK d7;have HB3:=hidK hb3
     have hj31 : decide ((j3 : Int) < 0) = false:=by simp
     clear hv' hat hvr z0 z2 z3 z5 d0 d1 d2 d3 d4 d5 d6 d7 h1 h2 hb3;have Gk:=Bk;have Gv:=Bv;have HW:=HB;obtain ⟨k0,k1,k2,k3,k4,k5⟩:=sl6 Gk;have v6:=fun q : Wd wr => q.slot (o:=6) Gv.out rfl;have tw:=fun q : Wd wr => (q.cell hb).trans hc;have hne0:=Wd.ne wr;have HC0:=hidK (fun q : Wd wr => sxvd_hit ⟨(some ⟨b,o,none⟩),l1,y1,a2,l2,y2,(some ⟨b3,o3,none⟩),l3,y3,a4,l4,y4,a5,l5,y5⟩ c.now c.vs t q.w (HR.out.v.below (HW.out.trans (q.b.mono HW.out.size))) HV.out HJ.out HNv.out);go_wp2_with fail;refine wp_region_wide (by kernel_rfl) (by kernel_rfl) ?_
     repeat (go_big_quiet_step (first | (go_at_call 53;exact Calls.wide (HC0.out _)) | fail))
     refine wpQuiet_nil ?_;rintro _ ⟨q1,rfl⟩;have HB1:=upB HW q1.b;have Ck:=upK Gk q1.b;have Cv:=upK Gv q1.b;clear hne0 HW HB HC0 k0 k1 k2 k3 k4 k5 v6 tw Gk Gv Bk Bv pv hb hc;have HB:=HB1;clear HB1;have Bk:=Ck;clear Ck;have Bv:=Cv;clear Cv;have HBW1:=upB HBW q1.b;have hbv : b3 < q1.w.heap.size:=Nat.lt_of_lt_of_le HB3.out HB.out.size;have v7:=(cell_below HB.out HB3.out).trans HC7.out;clear HBW
     rcases Bool.eq_false_or_eq_true n.d with hd | hd
     ·have HDd:=hidK hd;clear hd
      have Bv2 : Hid (q1.w.heap[gb]? = some (.cells #[.string n.n,.string n.z,.int .i64 n.c,.int .i64 n.s,.int .i64 n.u,.bool true,.slice (some ⟨b2,o2,none⟩) vl vc] 106 (0,0))):=by have:=Bv.out;rw [HDd.out] at this;exact this
      clear Bv;have Bv:=Bv2;clear Bv2;have Gk:=Bk;have Gv:=Bv;have HW:=HB;have k2:=fun q : Wd q1.w => q.slot (o:=2) Gk.out rfl;obtain ⟨v0,v1,v2,v3,v4,v5,v6⟩:=sl7 Gv;have vw:=fun q : Wd q1.w => (q.cell hbv).trans v7;have hne0:=Wd.ne q1.w;go_wp2_with fail;refine wp_region_wide (by kernel_rfl) (by kernel_rfl) ?_
      repeat (go_big_quiet_step (first | fail))
      refine wpQuiet_nil ?_;rintro _ ⟨q2,rfl⟩;have HB2:=upB HW q2.b;have Ck:=upK Gk q2.b;have Cv:=upK Gv q2.b;clear hne0 HW HB k2 v0 v1 v2 v3 v4 v5 v6 vw Gk Gv Bk Bv hbv v7;have HB:=HB2;clear HB2;have Bk:=Ck;clear Ck;have Bv:=Cv;clear Cv;go_wp2_with fail;refine ⟨⟨kq + 1,by omega,by go_num,fun j s hj hs => ?_,HBW1.out.trans (q2.b.mono HBW1.out.size)⟩,by simp [intOf];omega⟩
      by_cases e : j = kq
      ·subst e;rw [HXt.out] at hs;obtain rfl:=Option.some.inj hs;exact ⟨j3,v,HJ.out,HNv.out,.inl HDd.out⟩
      ·exact HQ2.out j s (by omega) hs
     ·have HDd:=hidK hd;clear hd
      have Bv2 : Hid (q1.w.heap[gb]? = some (.cells #[.string n.n,.string n.z,.int .i64 n.c,.int .i64 n.s,.int .i64 n.u,.bool false,.slice (some ⟨b2,o2,none⟩) vl vc] 106 (0,0))):=by have:=Bv.out;rw [HDd.out] at this;exact this
      clear Bv;have Bv:=Bv2;clear Bv2
      by_cases hin : InL v.zs n.n
      ·have HIn:=hidK hin;clear hin;have Gk:=Bk;have Gv:=Bv;have HW:=HB;have k2:=fun q : Wd q1.w => q.slot (o:=2) Gk.out rfl;obtain ⟨v0,v1,v2,v3,v4,v5,v6⟩:=sl7 Gv;have vw:=fun q : Wd q1.w => (q.cell hbv).trans v7;have hne0:=Wd.ne q1.w;have HC0:=hidK (fun q : Wd q1.w => (shas_any xa xl xc v.zs n.n q.w (HTx.out.below (HW.out.trans (q.b.mono HW.out.size)))).mono (fun _ _ h => BoolB.yes h HIn.out));go_wp2_with fail;refine wp_region_wide (by kernel_rfl) (by kernel_rfl) ?_
       repeat (go_big_quiet_step (first | (go_at_call 26;exact Calls.wide (HC0.out _)) | fail))
       refine wpQuiet_nil ?_;rintro _ ⟨q2,rfl⟩;have HB2:=upB HW q2.b;have Ck:=upK Gk q2.b;have Cv:=upK Gv q2.b;clear hne0 HW HB HC0 k2 v0 v1 v2 v3 v4 v5 v6 vw Gk Gv Bk Bv hbv v7;have HB:=HB2;clear HB2;have Bk:=Ck;clear Ck;have Bv:=Cv;clear Cv;go_wp2_with fail;refine ⟨⟨kq + 1,by omega,by go_num,fun j s hj hs => ?_,HBW1.out.trans (q2.b.mono HBW1.out.size)⟩,by simp [intOf];omega⟩
       by_cases e : j = kq
       ·subst e;rw [HXt.out] at hs;obtain rfl:=Option.some.inj hs;exact ⟨j3,v,HJ.out,HNv.out,.inr HIn.out⟩
       ·exact HQ2.out j s (by omega) hs
      ·have HIn:=hidK hin;clear hin;have Gk:=Bk;have Gv:=Bv;have HW:=HB;have k2:=fun q : Wd q1.w => q.slot (o:=2) Gk.out rfl;obtain ⟨v0,v1,v2,v3,v4,v5,v6⟩:=sl7 Gv;have vw:=fun q : Wd q1.w => (q.cell hbv).trans v7;have hne0:=Wd.ne q1.w;have HC0:=hidK (fun q : Wd q1.w => (shas_any xa xl xc v.zs n.n q.w (HTx.out.below (HW.out.trans (q.b.mono HW.out.size)))).mono (fun _ _ h => BoolB.no h HIn.out));go_wp2_with fail;refine wp_region_wide (by kernel_rfl) (by kernel_rfl) ?_
       repeat (go_big_quiet_step (first | (go_at_call 26;exact Calls.wide (HC0.out _)) | fail))
       refine wpQuiet_nil ?_;rintro _ ⟨q2,rfl⟩;have HB2:=upB HW q2.b;have Ck:=upK Gk q2.b;have Cv:=upK Gv q2.b;clear hne0 HW HB HC0 k2 v0 v1 v2 v3 v4 v5 v6 vw Gk Gv Bk Bv hbv v7;have HB:=HB2;clear HB2;have Bk:=Ck;clear Ck;have Bv:=Cv;clear Cv
       go_wp2
       go_ret;refine BoolB.f (fun h => ?_) HB.out;obtain ⟨i,v2,e1,e2,e3⟩:=(h.1 k n HXn.out) kq t HXt.out;obtain ⟨_,rfl⟩:=HV.out.inj e1 HJ.out (e2.trans HNv.out.symm)
       rcases e3 with e3 | e3
       ·rw [HDd.out] at e3;cases e3
       ·exact HIn.out e3
    ·obtain rfl : vl = kq:=by omega
     go_wp2_with fail;refine ⟨⟨k + 1,by omega,by go_num,fun j z hj hz => ?_,HB.out,Bk.out⟩,by simp [intOf];omega⟩
     by_cases e : j = k
     ·subst e;rw [HXn.out] at hz;obtain rfl:=Option.some.inj hz;exact fun j s hs => HQ2.out j s (by have h1:=(List.getElem?_eq_some_iff.1 hs).1;have h2:=HVL.out;omega) hs
     ·exact HQ.out j z (by omega) hz
  ·obtain rfl : l1 = k:=by omega
   have HQ1 : Hid (∀ (j : Nat) z,c.ns[j]? = some z → MntI c z):=fun j z hz => HQ.out j z (by have:=(List.getElem?_eq_some_iff.1 hz).1;omega) hz;clear HQ;have kc : wr.cell? ⟨w.heap.size,4,none⟩ = some (.slice a5 l5 y5):=cellK Bk.out 4
   go_wp2
   clear pk pkl kc
   go_loopw [7] (fun i wr => ∃ k : Nat,k ≤ l5 ∧ i = .int .i64 k ∧ Hid (∀ (j : Nat) z,j < k → c.ps[j]? = some z → MQ2 c z) ∧ Hid (Below w.heap.size w wr) ∧ Hid (wr.heap[w.heap.size]? = some (.cells #[.slice a1 l1 y1,.slice a2 l2 y2,.slice a3 l3 y3,.slice a4 l4 y4,.slice a5 l5 y5,.int .i64 c.now] 36 (0,0)))) (fun i _ => l5 - (intOf i).toNat)
   case atStart => exact ⟨0,by omega,rfl,fun _ _ h => absurd h (by omega),HB.out,Bk.out⟩
   case round =>
    obtain ⟨k,hk,rfl,HQ,HB,Bk⟩:=hrel;have pk : wr.cell? ⟨w.heap.size,4,none⟩ = some (.slice a5 l5 y5):=cellK Bk.out 4;have pkl : w.heap.size < wr.heap.size:=lt_of_some Bk.out
    by_cases hlt : k < l5
    ·obtain ⟨b,o,p,rfl,hb,hx,hat⟩:=pd_at (HR.out.p.below HB.out) hlt;obtain ⟨va,vl,vc,hvr,z0,z2,z4,c0,c1,c2,c3,c4,c5⟩:=pd_cells hat;have HXp:=hidK hx;have HTp:=hidK hvr;have HZp0:=hidK z0;have HZp2:=hidK z2;have HZp4:=hidK z4;clear hat hx z0 z2 z4 hvr
     by_cases hp2 : p.p = 2
     rotate_left
     ·have HP2:=hidK hp2
      have hp3 : (p.p == 2) = false:=by simpa using hp2
      have hszv1 : (wr.alloc (.cells #[.string p.n,.int .i64 p.c,.string p.z,.slice va vl vc,.string p.d,.int .i64 p.p] 58)).heap.size = wr.heap.size + 1:=by simp
      have Gk : Hid ((wr.alloc (.cells #[.string p.n,.int .i64 p.c,.string p.z,.slice va vl vc,.string p.d,.int .i64 p.p] 58)).heap[w.heap.size]? = some (.cells #[.slice a1 l1 y1,.slice a2 l2 y2,.slice a3 l3 y3,.slice a4 l4 y4,.slice (some ⟨b,o,none⟩) l5 y5,.int .i64 c.now] 36 (0,0))):=(Below.heap_alloc _ _ _ (lt_of_some Bk.out)).trans (Bk.out);have Gr : Hid ((wr.alloc (.cells #[.string p.n,.int .i64 p.c,.string p.z,.slice va vl vc,.string p.d,.int .i64 p.p] 58)).heap[wr.heap.size]? = some (.cells #[.string p.n,.int .i64 p.c,.string p.z,.slice va vl vc,.string p.d,.int .i64 p.p] 58 (0,0))):=Array.getElem?_push_size;have HW : Hid (Below w.heap.size w (wr.alloc (.cells #[.string p.n,.int .i64 p.c,.string p.z,.slice va vl vc,.string p.d,.int .i64 p.p] 58))):=(HB.out.trans ((below1 _ _).mono HB.out.size));obtain ⟨k0,k1,k2,k3,k4,k5⟩:=sl6 Gk;obtain ⟨r0,r1,r2,r3,r4,r5⟩:=sl6 Gr;have hne0:=Wd.ne (wr.alloc (.cells #[.string p.n,.int .i64 p.c,.string p.z,.slice va vl vc,.string p.d,.int .i64 p.p] 58));go_wp2_with fail;refine wp_region_wide (by kernel_rfl) (by kernel_rfl) ?_
      repeat (go_big_quiet_step (first | fail))
      refine wpQuiet_nil ?_;rintro _ ⟨q1,rfl⟩;have HB1:=upB HW q1.b;have Ck:=upK Gk q1.b;have Cr:=upK Gr q1.b;clear hne0 HW HB k0 k1 k2 k3 k4 k5 r0 r1 r2 r3 r4 r5 Gk Gr Bk hszv1 pk pkl hb c0 c1 c2 c3 c4 c5;have HB:=HB1;clear HB1;have Bk:=Ck;clear Ck;have Br:=Cr;clear Cr;clear hp2 hp3;go_wp2_with fail;refine ⟨⟨k + 1,by omega,by go_num,fun j z hj hz => ?_,HB.out,Bk.out⟩,by simp [intOf];omega⟩
      by_cases e : j = k
      ·subst e;rw [HXp.out] at hz;obtain rfl:=Option.some.inj hz;exact fun h => absurd h HP2.out
      ·exact HQ.out j z (by omega) hz
     have HP2:=hidK hp2;obtain ⟨⟨j1,n,h1,h2⟩,hbd⟩:=HRun.out k p HXp.out hp2;rw [hp2] at c5;clear hp2;have HBD:=hidK hbd
     have hl1' : j1 < l1:=by have h3:=(List.getElem?_eq_some_iff.1 h1).1;omega
     obtain ⟨b1,o1,n',rfl,hb1n,hn',hat⟩:=nd_at HR.out.n hl1';rw [h1] at hn';obtain rfl:=Option.some.inj hn';obtain ⟨na,nl,nc,hnr,z0,z1,d0,d1,d2,d3,d4,d5,d6⟩:=nd_cells hat;have HJn:=hidK h1;have HNn:=hidK h2;have e5:=(cell_below HB.out hb1n).trans d5;have hbn : b1 < wr.heap.size:=Nat.lt_of_lt_of_le hb1n HB.out.size;clear hn' hat hnr z0 z1 d0 d1 d2 d3 d4 d5 d6 h1 h2 hb1n hbd
     rcases Bool.eq_false_or_eq_true n.d with hd | hd
     ·have HDd:=hidK hd;rw [hd] at e5;clear hd
      have hbnv : b1 < (wr.alloc (.cells #[.string p.n,.int .i64 p.c,.string p.z,.slice va vl vc,.string p.d,.int .i64 2] 58)).heap.size:=by simp;omega
      have e5v:=(cell_below (below1 wr (.cells #[.string p.n,.int .i64 p.c,.string p.z,.slice va vl vc,.string p.d,.int .i64 2] 58)) hbn).trans e5
      have hszv1 : (wr.alloc (.cells #[.string p.n,.int .i64 p.c,.string p.z,.slice va vl vc,.string p.d,.int .i64 2] 58)).heap.size = wr.heap.size + 1:=by simp
      have Gk : Hid ((wr.alloc (.cells #[.string p.n,.int .i64 p.c,.string p.z,.slice va vl vc,.string p.d,.int .i64 2] 58)).heap[w.heap.size]? = some (.cells #[.slice (some ⟨b1,o1,none⟩) l1 y1,.slice a2 l2 y2,.slice a3 l3 y3,.slice a4 l4 y4,.slice (some ⟨b,o,none⟩) l5 y5,.int .i64 c.now] 36 (0,0))):=(Below.heap_alloc _ _ _ (lt_of_some Bk.out)).trans (Bk.out);have Gr : Hid ((wr.alloc (.cells #[.string p.n,.int .i64 p.c,.string p.z,.slice va vl vc,.string p.d,.int .i64 2] 58)).heap[wr.heap.size]? = some (.cells #[.string p.n,.int .i64 p.c,.string p.z,.slice va vl vc,.string p.d,.int .i64 2] 58 (0,0))):=Array.getElem?_push_size;have HW : Hid (Below w.heap.size w (wr.alloc (.cells #[.string p.n,.int .i64 p.c,.string p.z,.slice va vl vc,.string p.d,.int .i64 2] 58))):=(HB.out.trans ((below1 _ _).mono HB.out.size));obtain ⟨k0,k1,k2,k3,k4,k5⟩:=sl6 Gk;obtain ⟨r0,r1,r2,r3,r4,r5⟩:=sl6 Gr;have nw:=fun q : Wd (wr.alloc (.cells #[.string p.n,.int .i64 p.c,.string p.z,.slice va vl vc,.string p.d,.int .i64 2] 58)) => (q.cell hbnv).trans e5v;have hne0:=Wd.ne (wr.alloc (.cells #[.string p.n,.int .i64 p.c,.string p.z,.slice va vl vc,.string p.d,.int .i64 2] 58));have HC0:=hidK (fun q : Wd (wr.alloc (.cells #[.string p.n,.int .i64 p.c,.string p.z,.slice va vl vc,.string p.d,.int .i64 2] 58)) => sxnd_hit ⟨(some ⟨b1,o1,none⟩),l1,y1,a2,l2,y2,a3,l3,y3,a4,l4,y4,(some ⟨b,o,none⟩),l5,y5⟩ c.now c.ns p.d q.w (HR.out.n.below (HW.out.trans (q.b.mono HW.out.size))) HNR.out HJn.out HNn.out);go_wp2_with fail;refine wp_region_wide (by kernel_rfl) (by kernel_rfl) ?_
      repeat (go_big_quiet_step (first | (go_at_call 126;exact Calls.wide (HC0.out _)) | fail))
      refine wpQuiet_nil ?_;rintro _ ⟨q1,rfl⟩;have HB1:=upB HW q1.b;have Ck:=upK Gk q1.b;have Cr:=upK Gr q1.b;clear hne0 HW HB HC0 k0 k1 k2 k3 k4 k5 r0 r1 r2 r3 r4 r5 nw Gk Gr Bk hszv1 pk pkl hb hbn e5 hbnv e5v c0 c1 c2 c3 c4 c5;have HB:=HB1;clear HB1;have Bk:=Ck;clear Ck;have Br:=Cr;clear Cr
      go_wp2
      go_ret;refine BoolB.f (fun h => ?_) HB.out;obtain ⟨i,m,e1,e2,e3,_⟩:=(h.2 k p HXp.out) HP2.out;obtain ⟨_,rfl⟩:=HNR.out.inj e1 HJn.out (e2.trans HNn.out.symm);rw [HDd.out] at e3
      cases e3
     ·by_cases hal : AllS c p n
      ·have HAl:=hidK hal;clear hal;have HDd:=hidK hd;rw [hd] at e5;clear hd
       have hbnv : b1 < (wr.alloc (.cells #[.string p.n,.int .i64 p.c,.string p.z,.slice va vl vc,.string p.d,.int .i64 2] 58)).heap.size:=by simp;omega
       have e5v:=(cell_below (below1 wr (.cells #[.string p.n,.int .i64 p.c,.string p.z,.slice va vl vc,.string p.d,.int .i64 2] 58)) hbn).trans e5
       have HCA : Hid (∀ q : Wd (wr.alloc (.cells #[.string p.n,.int .i64 p.c,.string p.z,.slice va vl vc,.string p.d,.int .i64 2] 58)),Calls Tryz.prog 130 #[.agg #[.slice (some ⟨b1,o1,none⟩) l1 y1,.slice a2 l2 y2,.slice a3 l3 y3,.slice a4 l4 y4,.slice (some ⟨b,o,none⟩) l5 y5,.int .i64 c.now],.agg #[.string p.n,.int .i64 p.c,.string p.z,.slice va vl vc,.string p.d,.int .i64 2]] q.w fun e w' => e = .returned (.bool true) ∧ Below q.w.heap.size q.w w'):=by
        intro q;have h0:=(sall_any ⟨(some ⟨b1,o1,none⟩),l1,y1,a2,l2,y2,a3,l3,y3,a4,l4,y4,(some ⟨b,o,none⟩),l5,y5⟩ c p va vl vc j1 n q.w (HR.out.below (HB.out.trans (((below1 wr _).trans (q.b.mono (by simp))).mono HB.out.size))) HNR.out HX.out HV.out HNE.out (HTp.out.below ((below1 wr _).trans (q.b.mono (by simp)))) HJn.out HNn.out HBD.out).mono (fun _ _ h => BoolB.yes h HAl.out);rw [HP2.out] at h0;exact h0
       have hszv1 : (wr.alloc (.cells #[.string p.n,.int .i64 p.c,.string p.z,.slice va vl vc,.string p.d,.int .i64 2] 58)).heap.size = wr.heap.size + 1:=by simp
       have Gk : Hid ((wr.alloc (.cells #[.string p.n,.int .i64 p.c,.string p.z,.slice va vl vc,.string p.d,.int .i64 2] 58)).heap[w.heap.size]? = some (.cells #[.slice (some ⟨b1,o1,none⟩) l1 y1,.slice a2 l2 y2,.slice a3 l3 y3,.slice a4 l4 y4,.slice (some ⟨b,o,none⟩) l5 y5,.int .i64 c.now] 36 (0,0))):=(Below.heap_alloc _ _ _ (lt_of_some Bk.out)).trans (Bk.out);have Gr : Hid ((wr.alloc (.cells #[.string p.n,.int .i64 p.c,.string p.z,.slice va vl vc,.string p.d,.int .i64 2] 58)).heap[wr.heap.size]? = some (.cells #[.string p.n,.int .i64 p.c,.string p.z,.slice va vl vc,.string p.d,.int .i64 2] 58 (0,0))):=Array.getElem?_push_size;have HW : Hid (Below w.heap.size w (wr.alloc (.cells #[.string p.n,.int .i64 p.c,.string p.z,.slice va vl vc,.string p.d,.int .i64 2] 58))):=(HB.out.trans ((below1 _ _).mono HB.out.size));obtain ⟨k0,k1,k2,k3,k4,k5⟩:=sl6 Gk;obtain ⟨r0,r1,r2,r3,r4,r5⟩:=sl6 Gr;have nw:=fun q : Wd (wr.alloc (.cells #[.string p.n,.int .i64 p.c,.string p.z,.slice va vl vc,.string p.d,.int .i64 2] 58)) => (q.cell hbnv).trans e5v;have hne0:=Wd.ne (wr.alloc (.cells #[.string p.n,.int .i64 p.c,.string p.z,.slice va vl vc,.string p.d,.int .i64 2] 58));have HC0:=hidK (fun q : Wd (wr.alloc (.cells #[.string p.n,.int .i64 p.c,.string p.z,.slice va vl vc,.string p.d,.int .i64 2] 58)) => sxnd_hit ⟨(some ⟨b1,o1,none⟩),l1,y1,a2,l2,y2,a3,l3,y3,a4,l4,y4,(some ⟨b,o,none⟩),l5,y5⟩ c.now c.ns p.d q.w (HR.out.n.below (HW.out.trans (q.b.mono HW.out.size))) HNR.out HJn.out HNn.out);have HC1:=hidK (fun q : Wd (wr.alloc (.cells #[.string p.n,.int .i64 p.c,.string p.z,.slice va vl vc,.string p.d,.int .i64 2] 58)) => HCA.out q);go_wp2_with fail;refine wp_region_wide (by kernel_rfl) (by kernel_rfl) ?_
       repeat (go_big_quiet_step (first | (go_at_call 126;exact Calls.wide (HC0.out _)) | (go_at_call 130;exact Calls.wide (HC1.out _)) | fail))
       refine wpQuiet_nil ?_;rintro _ ⟨q1,rfl⟩;have HB1:=upB HW q1.b;have Ck:=upK Gk q1.b;have Cr:=upK Gr q1.b;clear hne0 HW HB HC0 HC1 k0 k1 k2 k3 k4 k5 r0 r1 r2 r3 r4 r5 nw Gk Gr Bk hszv1 pk pkl hb hbn e5 hbnv e5v c0 c1 c2 c3 c4 c5;have HB:=HB1;clear HB1;have Bk:=Ck;clear Ck;have Br:=Cr;clear Cr;go_wp2_with fail;refine ⟨⟨k + 1,by omega,by go_num,fun j z hj hz => ?_,HB.out,Bk.out⟩,by simp [intOf];omega⟩
       by_cases e : j = k
       ·subst e;rw [HXp.out] at hz;obtain rfl:=Option.some.inj hz;exact fun _ => ⟨j1,n,HJn.out,HNn.out,HDd.out,HAl.out⟩
       ·exact HQ.out j z (by omega) hz
      ·have HAl:=hidK hal;clear hal;have HDd:=hidK hd;rw [hd] at e5;clear hd
       have hbnv : b1 < (wr.alloc (.cells #[.string p.n,.int .i64 p.c,.string p.z,.slice va vl vc,.string p.d,.int .i64 2] 58)).heap.size:=by simp;omega
       have e5v:=(cell_below (below1 wr (.cells #[.string p.n,.int .i64 p.c,.string p.z,.slice va vl vc,.string p.d,.int .i64 2] 58)) hbn).trans e5
       have HCA : Hid (∀ q : Wd (wr.alloc (.cells #[.string p.n,.int .i64 p.c,.string p.z,.slice va vl vc,.string p.d,.int .i64 2] 58)),Calls Tryz.prog 130 #[.agg #[.slice (some ⟨b1,o1,none⟩) l1 y1,.slice a2 l2 y2,.slice a3 l3 y3,.slice a4 l4 y4,.slice (some ⟨b,o,none⟩) l5 y5,.int .i64 c.now],.agg #[.string p.n,.int .i64 p.c,.string p.z,.slice va vl vc,.string p.d,.int .i64 2]] q.w fun e w' => e = .returned (.bool false) ∧ Below q.w.heap.size q.w w'):=by
        intro q;have h0:=(sall_any ⟨(some ⟨b1,o1,none⟩),l1,y1,a2,l2,y2,a3,l3,y3,a4,l4,y4,(some ⟨b,o,none⟩),l5,y5⟩ c p va vl vc j1 n q.w (HR.out.below (HB.out.trans (((below1 wr _).trans (q.b.mono (by simp))).mono HB.out.size))) HNR.out HX.out HV.out HNE.out (HTp.out.below ((below1 wr _).trans (q.b.mono (by simp)))) HJn.out HNn.out HBD.out).mono (fun _ _ h => BoolB.no h HAl.out);rw [HP2.out] at h0;exact h0
       have hszv1 : (wr.alloc (.cells #[.string p.n,.int .i64 p.c,.string p.z,.slice va vl vc,.string p.d,.int .i64 2] 58)).heap.size = wr.heap.size + 1:=by simp
       have Gk : Hid ((wr.alloc (.cells #[.string p.n,.int .i64 p.c,.string p.z,.slice va vl vc,.string p.d,.int .i64 2] 58)).heap[w.heap.size]? = some (.cells #[.slice (some ⟨b1,o1,none⟩) l1 y1,.slice a2 l2 y2,.slice a3 l3 y3,.slice a4 l4 y4,.slice (some ⟨b,o,none⟩) l5 y5,.int .i64 c.now] 36 (0,0))):=(Below.heap_alloc _ _ _ (lt_of_some Bk.out)).trans (Bk.out);have Gr : Hid ((wr.alloc (.cells #[.string p.n,.int .i64 p.c,.string p.z,.slice va vl vc,.string p.d,.int .i64 2] 58)).heap[wr.heap.size]? = some (.cells #[.string p.n,.int .i64 p.c,.string p.z,.slice va vl vc,.string p.d,.int .i64 2] 58 (0,0))):=Array.getElem?_push_size;have HW : Hid (Below w.heap.size w (wr.alloc (.cells #[.string p.n,.int .i64 p.c,.string p.z,.slice va vl vc,.string p.d,.int .i64 2] 58))):=(HB.out.trans ((below1 _ _).mono HB.out.size));obtain ⟨k0,k1,k2,k3,k4,k5⟩:=sl6 Gk;obtain ⟨r0,r1,r2,r3,r4,r5⟩:=sl6 Gr;have nw:=fun q : Wd (wr.alloc (.cells #[.string p.n,.int .i64 p.c,.string p.z,.slice va vl vc,.string p.d,.int .i64 2] 58)) => (q.cell hbnv).trans e5v;have hne0:=Wd.ne (wr.alloc (.cells #[.string p.n,.int .i64 p.c,.string p.z,.slice va vl vc,.string p.d,.int .i64 2] 58));have HC0:=hidK (fun q : Wd (wr.alloc (.cells #[.string p.n,.int .i64 p.c,.string p.z,.slice va vl vc,.string p.d,.int .i64 2] 58)) => sxnd_hit ⟨(some ⟨b1,o1,none⟩),l1,y1,a2,l2,y2,a3,l3,y3,a4,l4,y4,(some ⟨b,o,none⟩),l5,y5⟩ c.now c.ns p.d q.w (HR.out.n.below (HW.out.trans (q.b.mono HW.out.size))) HNR.out HJn.out HNn.out);have HC1:=hidK (fun q : Wd (wr.alloc (.cells #[.string p.n,.int .i64 p.c,.string p.z,.slice va vl vc,.string p.d,.int .i64 2] 58)) => HCA.out q);go_wp2_with fail;refine wp_region_wide (by kernel_rfl) (by kernel_rfl) ?_
       repeat (go_big_quiet_step (first | (go_at_call 126;exact Calls.wide (HC0.out _)) | (go_at_call 130;exact Calls.wide (HC1.out _)) | fail))
       refine wpQuiet_nil ?_;rintro _ ⟨q1,rfl⟩;have HB1:=upB HW q1.b;have Ck:=upK Gk q1.b;have Cr:=upK Gr q1.b;clear hne0 HW HB HC0 HC1 k0 k1 k2 k3 k4 k5 r0 r1 r2 r3 r4 r5 nw Gk Gr Bk hszv1 pk pkl hb hbn e5 hbnv e5v c0 c1 c2 c3 c4 c5;have HB:=HB1;clear HB1;have Bk:=Ck;clear Ck;have Br:=Cr;clear Cr
       go_wp2
       go_ret;refine BoolB.f (fun h => ?_) HB.out;obtain ⟨i,m,e1,e2,e3,e4⟩:=(h.2 k p HXp.out) HP2.out;obtain ⟨_,rfl⟩:=HNR.out.inj e1 HJn.out (e2.trans HNn.out.symm);exact HAl.out e4
    ·obtain rfl : l5 = k:=by omega
     go_wp2
     go_ret;exact BoolB.t ⟨HQ1.out,fun j z hz => HQ.out j z (by have:=(List.getElem?_eq_some_iff.1 hz).1;omega) hz⟩ HB.out

theorem hit_iff {α : Type} {nm : α → ByteArray} {xs : List α} {t : ByteArray} (h : RisBy nm xs) : hit nm xs t = true ↔ ∃ (i : Nat) (x : α),xs[i]? = some x ∧ nm x = t:=by
 constructor
 ·intro e;obtain ⟨x,h1,h2⟩:=hit_yes e;exact ⟨_,x,h1,h2⟩
 ·rintro ⟨i,x,h1,h2⟩;exact (hit_at h h1 h2).2
theorem bound_iff {c : Cl} (h : RowsOk c) : BoundI c ↔ BoundS c:=by
 have hk:=h.2.1.2.2;have hv:=h.2.2.1.2.2;have hx:=h.2.2.2.1.2.2
 constructor
 ·rintro ⟨h1,h2⟩;refine ⟨fun j v e => ?_,fun j x e => ?_⟩
  ·obtain ⟨a,b⟩:=h1 j v e;refine ⟨(hit_iff hk).1 a,b.imp id ?_⟩;rintro ⟨i,j',x,v',e1,e2,e3,e4,e5,e6,_⟩;exact ⟨i,x,e1,e2,e5⟩
  ·obtain ⟨a,b⟩:=h2 j x e;refine ⟨(hit_iff hk).1 a,b.imp id ?_⟩;rintro ⟨i,j',x',v',e1,e2,e3,e4,e5,e6,e7,e8,e9⟩;obtain ⟨_,rfl⟩:=hx.inj e1 e e2;exact ⟨j',v',e3,e4,e6,e7,e8,e9⟩
 ·rintro ⟨h1,h2⟩;refine ⟨fun j v e => ?_,fun j x e => ?_⟩
  ·obtain ⟨a,b⟩:=h1 j v e;refine ⟨(hit_iff hk).2 a,b.imp id ?_⟩;rintro ⟨i,x,e1,e2,e3⟩;have hne : ¬ x.v = ⟨#[]⟩:=fun q => h.ne j v e (e3.symm.trans q);obtain ⟨_,b2⟩:=h2 i x e1
   rcases b2 with b2 | ⟨j',v',f1,f2,f3,f4,f5,f6⟩
   ·exact absurd b2 hne
   obtain ⟨_,rfl⟩:=hv.inj f1 e (f2.trans e3);exact ⟨i,j,x,v',e1,e2,e,rfl,e3,rfl,f4,f5,f6⟩
  ·obtain ⟨a,b⟩:=h2 j x e;refine ⟨(hit_iff hk).2 a,b.imp id ?_⟩;rintro ⟨j',v,e1,e2,e3,e4,e5,e6⟩;exact ⟨j,j',x,v,e,rfl,e1,e2,rfl,e3,e4,e5,e6⟩
theorem placed_iff {c : Cl} (h : RowsOk c) (hb : BoundS c) : PlacedI c ↔ PlacedS c:=by
 have hn:=h.1.2.2;have hv:=h.2.2.1.2.2;have hx:=h.2.2.2.1.2.2
 have one : (∀ (j : Nat) z,c.vs[j]? = some z → PQ3 c z) ↔ ∀ (k : Nat) p,c.ps[k]? = some p → PSc c k p:=by
  constructor
  ·intro h3 k p hp j q hj hq
   by_cases e1 : q.d = ⟨#[]⟩
   ·exact .inl e1
   by_cases e2 : p.d = ⟨#[]⟩
   ·exact .inr (.inl e2)
   by_cases e3 : q.d = p.d
   ·exact .inr (.inr (.inl e3))
   refine .inr (.inr (.inr fun i t ht v hbd hs hin => e3 ?_));obtain ⟨i1,j1,x,f1,f2,f3,f4⟩:=hbd;have hxv : ¬ x.v = ⟨#[]⟩:=fun z => h.ne j1 v f3 (f4.trans z)
   have hvm : v.m = t:=by
    rcases (hb.2 i1 x f1).2 with z | ⟨j2,v2,g1,g2,g3,_⟩
    ·exact absurd z hxv
    ·obtain ⟨_,rfl⟩:=hv.inj g1 f3 (g2.trans f4.symm);rw [g3,f2]
   have ht0 : ¬ v.m = ⟨#[]⟩:=fun z => by
    have h1:=(h.2.2.2.1.2.1 i1 x f1).1.1;rw [f2,← hvm,z] at h1;exact absurd h1 (by decide)
   have:=h3 j1 v f3 hs ht0;rw [hvm] at this;exact this j k q p hq hp e1 e2 ⟨i,ht⟩ hin
  ·intro h3 j v hj hs hm i1 i2 p q hp hq d1 d2 in1 in2;obtain ⟨i4,x,f1,f2,f3⟩:=(hb.1 j v hj).2.resolve_left hm;have hbd : IsBd c v.m v:=⟨i4,j,x,f1,f2,hj,f3.symm⟩
   rcases Nat.lt_trichotomy i1 i2 with k | k | k
   ·obtain ⟨r,hr⟩:=in1
    rcases h3 i2 q hq i1 p k hp with z | z | z | z
    ·exact absurd z d1
    ·exact absurd z d2
    ·exact z
    ·exact absurd in2 (z r v.m hr v hbd hs)
   ·subst k;rw [hp] at hq;rw [Option.some.inj hq]
   ·obtain ⟨r,hr⟩:=in2
    rcases h3 i1 p hp i2 q k hq with z | z | z | z
    ·exact absurd z d2
    ·exact absurd z d1
    ·exact z.symm
    ·exact absurd in1 (z r v.m hr v hbd hs)
 constructor
 ·rintro ⟨h1,h2,h3⟩;refine ⟨fun k p hp => ⟨?_,?_,one.1 h3 k p hp⟩,h2⟩
  ·rcases (h1 k p hp).2 with z | ⟨i,n,e1,e2,e3,e4⟩
   ·exact .inl z
   ·exact .inr ⟨i,n,e1,e2,e3.imp id Eq.symm⟩
  ·intro j t ht;refine ⟨(hit_iff hx).1 ((h1 k p hp).1 j t ht),?_⟩
   rcases (h1 k p hp).2 with z | ⟨i,n,e1,e2,e3,e4⟩
   ·exact .inl z
   ·obtain ⟨v,f1,f2⟩:=e4 j t ht;exact .inr ⟨v,i,n,f1,e1,e2,f2⟩
 ·rintro ⟨h1,h2⟩;refine ⟨fun k p hp => ⟨fun j t ht => (hit_iff hx).2 ((h1 k p hp).2.1 j t ht).1,?_⟩,h2,one.2 (fun k p hp => (h1 k p hp).2.2)⟩
  rcases (h1 k p hp).1 with z | ⟨i,n,e1,e2,e3⟩
  ·exact .inl z
  by_cases z : p.d = ⟨#[]⟩
  ·exact .inl z
  refine .inr ⟨i,n,e1,e2,e3.imp id Eq.symm,fun j t ht => ?_⟩;obtain ⟨v,i',n',f1,f2,f3,f4⟩:=((h1 k p hp).2.1 j t ht).2.resolve_left z;obtain ⟨_,rfl⟩:=hn.inj f2 e1 (f3.trans e2.symm);exact ⟨v,f1,f4⟩
theorem running {c : Cl} (h : RowsOk c) (hp : PlacedS c) (j : Nat) (p : Pd) (hj : c.ps[j]? = some p) (h2 : p.p = 2) : (∃ (i : Nat) (n : Nd),c.ns[i]? = some n ∧ n.n = p.d) ∧ ∀ (j : Nat) t,p.zs[j]? = some t → ∃ v,IsBd c t v:=by
 have hd : ¬ p.d = ⟨#[]⟩:=fun e => by
  have h1:=(h.2.2.2.2.2.1 j p hj).2.2.2.2
  rcases h1 with ⟨h3,_⟩ | ⟨_,h3⟩
  ·rw [h2] at h3;cases h3
  ·have h4:=h3.1;rw [e] at h4;exact absurd h4 (by decide)
 obtain ⟨a,b,_⟩:=hp.1 j p hj;obtain ⟨i,n,e1,e2,_⟩:=a.resolve_left hd;refine ⟨⟨i,n,e1,e2⟩,fun k t ht => ?_⟩;obtain ⟨v,_,_,e3,_⟩:=(b k t ht).2.resolve_left hd;exact ⟨v,e3⟩

theorem sright_any (d : Ad) (c : Cl) (w : World) (hr : ClRow w d c.raw) :
  Calls Tryz.prog 61 #[.agg #[.slice d.a1 d.l1 d.c1,.slice d.a2 d.l2 d.c2,.slice d.a3 d.l3 d.c3,.slice d.a4 d.l4 d.c4,.slice d.a5 d.l5 d.c5,.int .i64 c.now]] w (BoolB (RightI c) w):=by
 have HR:=hidK hr;have HB:=hidK (Below.refl w.heap.size w);clear hr
 go_enter Tryz.func61,Tryz.ntmps61
 go_wp2_with fail;refine (ktime_any c.now _).mono ?_;rintro e w1 ⟨r,rfl,hi,hw⟩
 have hb : Below (w.alloc (.cells #[.slice d.a1 d.l1 d.c1,.slice d.a2 d.l2 d.c2,.slice d.a3 d.l3 d.c3,.slice d.a4 d.l4 d.c4,.slice d.a5 d.l5 d.c5,.int .i64 c.now] 36)).heap.size (w.alloc (.cells #[.slice d.a1 d.l1 d.c1,.slice d.a2 d.l2 d.c2,.slice d.a3 d.l3 d.c3,.slice d.a4 d.l4 d.c4,.slice d.a5 d.l5 d.c5,.int .i64 c.now] 36)) w1:=by first | (rw [hw];exact Below.refl _ _) | (rw [← hw];exact Below.refl _ _)
 clear hw;obtain ⟨HA0,hbx⟩:=slots1 hb;have Bk:=hidK HA0;replace HB:=upB HB hbx;clear hb hbx HA0;have HI1:=hidK hi;clear hi
 cases r
 ·obtain ⟨k0,k1,k2,k3,k4,k5⟩:=cs6 Bk.out;have ltk_1:=lt_of_some Bk.out
  go_wp2
  go_ret;exact BoolB.f (fun h => by have:=HI1.out.2 h.1;cases this) HB.out
 obtain ⟨k0,k1,k2,k3,k4,k5⟩:=cs6 Bk.out;have ltk_1:=lt_of_some Bk.out;go_wp2_with fail;refine (seach_any d c _ (HR.out.below HB.out)).mono ?_;rintro e w2 ⟨r,rfl,hi,hb⟩;clear k0 k1 k2 k3 k4 k5 ltk_1;replace Bk:=upK Bk hb;replace HB:=upB HB hb;clear hb;have HI2:=hidK hi;clear hi
 cases r
 ·obtain ⟨k0,k1,k2,k3,k4,k5⟩:=cs6 Bk.out;have ltk_2:=lt_of_some Bk.out
  go_wp2
  go_ret;exact BoolB.f (fun h => by have:=HI2.out.2 h.2.1;cases this) HB.out
 have HOK:=hidK (HI2.out.1 (by first | trivial | rfl));obtain ⟨k0,k1,k2,k3,k4,k5⟩:=cs6 Bk.out;have ltk_2:=lt_of_some Bk.out;go_wp2_with fail;refine (sbound_any d c _ (HR.out.below HB.out) HOK.out.2.1.2.2 HOK.out.2.2.2.1.2.2 HOK.out.2.2.1.2.2).mono ?_;rintro e w3 ⟨r,rfl,hi,hb⟩;clear k0 k1 k2 k3 k4 k5 ltk_2;replace Bk:=upK Bk hb;replace HB:=upB HB hb;clear hb;have HI3:=hidK hi;clear hi
 cases r
 ·obtain ⟨k0,k1,k2,k3,k4,k5⟩:=cs6 Bk.out;have ltk_3:=lt_of_some Bk.out
  go_wp2
  go_ret;exact BoolB.f (fun h => by have:=HI3.out.2 ((bound_iff HOK.out).1 h.2.2.1);cases this) HB.out
 have HBd:=hidK (HI3.out.1 (by first | trivial | rfl));obtain ⟨k0,k1,k2,k3,k4,k5⟩:=cs6 Bk.out;have ltk_3:=lt_of_some Bk.out;go_wp2_with fail;refine (splaced_any d c _ (HR.out.below HB.out) HOK.out.1.2.2 HOK.out.2.2.2.1.2.2 HOK.out.2.2.1.2.2 HOK.out.ne (by have:=HOK.out.2.2.2.2.1;omega) HOK.out.cpu).mono ?_;rintro e w4 ⟨r,rfl,hi,hb⟩;clear k0 k1 k2 k3 k4 k5 ltk_3;replace Bk:=upK Bk hb;replace HB:=upB HB hb;clear hb;have HI4:=hidK hi;clear hi
 cases r
 ·obtain ⟨k0,k1,k2,k3,k4,k5⟩:=cs6 Bk.out;have ltk_4:=lt_of_some Bk.out
  go_wp2
  go_ret;exact BoolB.f (fun h => by have:=HI4.out.2 ((placed_iff HOK.out HBd.out).1 h.2.2.2.1);cases this) HB.out
 have HPl:=hidK (HI4.out.1 (by first | trivial | rfl));obtain ⟨k0,k1,k2,k3,k4,k5⟩:=cs6 Bk.out;have ltk_4:=lt_of_some Bk.out;go_wp2_with fail;refine (sattached_any d c _ (HR.out.below HB.out) HOK.out.1.2.2 (by have:=HOK.out.2.2.1.1;omega)).mono ?_;rintro e w5 ⟨r,rfl,hi,hb⟩;clear k0 k1 k2 k3 k4 k5 ltk_4;replace Bk:=upK Bk hb;replace HB:=upB HB hb;clear hb;have HI5:=hidK hi;clear hi
 cases r
 ·obtain ⟨k0,k1,k2,k3,k4,k5⟩:=cs6 Bk.out;have ltk_5:=lt_of_some Bk.out
  go_wp2
  go_ret;exact BoolB.f (fun h => by have:=HI5.out.2 h.2.2.2.2.1;cases this) HB.out
 obtain ⟨k0,k1,k2,k3,k4,k5⟩:=cs6 Bk.out;have ltk_5:=lt_of_some Bk.out;go_wp2_with fail;refine (smounted_any d c _ (HR.out.below HB.out) HOK.out.1.2.2 HOK.out.2.2.2.1.2.2 HOK.out.2.2.1.2.2 HOK.out.ne (running HOK.out HPl.out)).mono ?_;rintro e w6 ⟨r,rfl,hi,hb⟩;clear k0 k1 k2 k3 k4 k5 ltk_5;replace Bk:=upK Bk hb;replace HB:=upB HB hb;clear hb;have HI6:=hidK hi;clear hi
 cases r
 ·obtain ⟨k0,k1,k2,k3,k4,k5⟩:=cs6 Bk.out;have ltk_6:=lt_of_some Bk.out
  go_wp2
  go_ret;exact BoolB.f (fun h => by have:=HI6.out.2 h.2.2.2.2.2;cases this) HB.out
 go_wp2
 go_ret;exact BoolB.t ⟨HI1.out.1 (by first | trivial | rfl),HOK.out,(bound_iff HOK.out).2 HBd.out,(placed_iff HOK.out HBd.out).2 HPl.out,HI5.out.1 (by first | trivial | rfl),HI6.out.1 (by first | trivial | rfl)⟩ HB.out

end Rc
end Go.Proofs.YtkecljccapjkpaaGreatDoor

namespace Go.Proofs.YtkecljccapjkpaaGreatDoor
open Go.RowKit Go.Extern.Stop Go.Stop Go.Extern
namespace Rc

structure Ers (w : World) (E : Nat → Addr) : Prop where
 v0 : w.cell? ⟨0,0,none⟩ = some (.iface 190 (.pointer (some (E 0))))
 v1 : w.cell? ⟨1,0,none⟩ = some (.iface 190 (.pointer (some (E 1))))
 v2 : w.cell? ⟨2,0,none⟩ = some (.iface 190 (.pointer (some (E 2))))
 v3 : w.cell? ⟨5,0,none⟩ = some (.iface 190 (.pointer (some (E 3))))
 v4 : w.cell? ⟨7,0,none⟩ = some (.iface 190 (.pointer (some (E 4))))
 v5 : w.cell? ⟨3,0,none⟩ = some (.iface 190 (.pointer (some (E 5))))
 v6 : w.cell? ⟨6,0,none⟩ = some (.iface 190 (.pointer (some (E 6))))
 v7 : w.cell? ⟨8,0,none⟩ = some (.iface 190 (.pointer (some (E 7))))
 v8 : w.cell? ⟨9,0,none⟩ = some (.iface 190 (.pointer (some (E 8))))
 v9 : w.cell? ⟨4,0,none⟩ = some (.iface 190 (.pointer (some (E 9))))
 blk : ∀ i,i < 10 → ∃ cs T,w.heap[(E i).block]? = some (.cells cs T (0,0))
 inj : ∀ i j,i < 10 → j < 10 → E i = E j → i = j
theorem cell_lt {w : World} {b o : Nat} {v : Value} (h : w.cell? ⟨b,o,none⟩ = some v) : b < w.heap.size:=World.block_lt_of_cell? w _ h
theorem Ers.below {w w' : World} {E : Nat → Addr} (h : Ers w E) (hb : Below w.heap.size w w') : Ers w' E :=
 ⟨(cell_below hb (cell_lt h.v0)).trans h.v0,(cell_below hb (cell_lt h.v1)).trans h.v1,(cell_below hb (cell_lt h.v2)).trans h.v2,(cell_below hb (cell_lt h.v3)).trans h.v3,(cell_below hb (cell_lt h.v4)).trans h.v4,(cell_below hb (cell_lt h.v5)).trans h.v5,(cell_below hb (cell_lt h.v6)).trans h.v6,(cell_below hb (cell_lt h.v7)).trans h.v7,(cell_below hb (cell_lt h.v8)).trans h.v8,(cell_below hb (cell_lt h.v9)).trans h.v9,fun i hi => by
  obtain ⟨cs,T,h1⟩:=h.blk i hi
  exact ⟨cs,T,(hb.block _ (lt_of_some h1)).trans h1⟩,h.inj⟩
theorem Ers.ens {w : World} {E : Nat → Addr} (h : Ers w E) : ens w:=⟨_,_,h.v2⟩

theorem isTypeOf (v : Value) (w : World) : (Extern.ReflectliteType.typeOf #[.iface 190 v]).run Tryz.prog w = .ok (.iface 179 (.agg #[.pointer (some ⟨10,190,none⟩)])) w:=by kernel_rfl
def cmpF : Array Value → Sem Value:=Extern.ReflectliteType.method fun t => do Rtype.noPackHeld "Comparable" t;pure (.bool (← typeInfo t).comparable)
theorem isComparable (w : World) : (cmpF #[.agg #[.pointer (some ⟨10,190,none⟩)]]).run Tryz.prog w = .ok (.bool true) w:=by kernel_rfl
theorem isMethodComparable (v : Value) (w : World) : (Go.method 337 179 v "Comparable").run Tryz.prog w = .ok (211,v) w:=by kernel_rfl
theorem isComp : (Tryz.prog.info? 190).map (·.comparable) = some true:=by kernel_rfl
theorem isSize : (Tryz.prog.info? 225).map (·.size) = some 1:=by kernel_rfl
theorem noIsE (v : Value) (xT : TypeId) (w : World) : (Instr.typeAssert (.iface 190 v) xT 181 true).run Tryz.prog w = .ok (.tuple #[.nilIface,.bool false]) w:=run_typeAssert_lacksB Tryz.underlying181 (by kernel_rfl) (by kernel_rfl) v xT w
theorem noUnwrapE (v : Value) (xT : TypeId) (w : World) : (Instr.typeAssert (.iface 190 v) xT 184 true).run Tryz.prog w = .ok (.tuple #[.nilIface,.bool false]) w:=run_typeAssert_lacksB Tryz.underlying184 (by kernel_rfl) (by kernel_rfl) v xT w
theorem noUnwrapsE (v : Value) (xT : TypeId) (w : World) : (Instr.typeAssert (.iface 190 v) xT 186 true).run Tryz.prog w = .ok (.tuple #[.nilIface,.bool false]) w:=run_typeAssert_lacksB Tryz.underlying186 (by kernel_rfl) (by kernel_rfl) v xT w

theorem is_same (a : Addr) (w : World)  :
  Calls Tryz.prog 111 #[.iface 190 (.pointer (some (a))),.iface 190 (.pointer (some (a)))] w fun e w' => e = .returned (.bool true) ∧ w' = w:=by
 obtain ⟨i,hi,hcmp⟩:=Option.map_eq_some_iff.1 isComp;obtain ⟨j,hj,hjs⟩:=Option.map_eq_some_iff.1 isSize;have h8:=@run_callFunc_extern Tryz.prog 148 _ Extern.ReflectliteType.typeOf Tryz.func148 (by kernel_rfl) (by kernel_rfl) (by kernel_rfl) (by kernel_rfl);have h32:=@run_callFunc_extern Tryz.prog 211 _ cmpF Tryz.func211 (by kernel_rfl) (by kernel_rfl) (by kernel_rfl) (by kernel_rfl);have tT:=isTypeOf;have cT:=isComparable;have mR:=isMethodComparable;have heq:=run_eql_iface_ptr_same (P:=Tryz.prog) w a Tryz.underlying71 Tryz.underlying190 hi hcmp hj
 go_enter Tryz.func111,Tryz.ntmps111
 go_wp2
 refine wp_loop_rounds 1 ?_;rw [rounds_succ]
 go_wp2
 go_ret;exact ⟨rfl,rfl⟩

theorem is_other (a b : Addr) (ca cb : Array Value) (ta tb : TypeId) (w : World) (hne : a ≠ b) (ha : w.heap[a.block]? = some (.cells ca ta (0,0))) (hb : w.heap[b.block]? = some (.cells cb tb (0,0))) :
  Calls Tryz.prog 111 #[.iface 190 (.pointer (some (a))),.iface 190 (.pointer (some (b)))] w fun e w' => e = .returned (.bool false) ∧ w' = w:=by
 obtain ⟨i,hi,hcmp⟩:=Option.map_eq_some_iff.1 isComp;obtain ⟨j,hj,hjs⟩:=Option.map_eq_some_iff.1 isSize;have h8:=@run_callFunc_extern Tryz.prog 148 _ Extern.ReflectliteType.typeOf Tryz.func148 (by kernel_rfl) (by kernel_rfl) (by kernel_rfl) (by kernel_rfl);have h32:=@run_callFunc_extern Tryz.prog 211 _ cmpF Tryz.func211 (by kernel_rfl) (by kernel_rfl) (by kernel_rfl) (by kernel_rfl);have tT:=isTypeOf;have cT:=isComparable;have mR:=isMethodComparable;have nE:=noIsE;have uE:=noUnwrapE;have vE:=noUnwrapsE;have heq:=run_eql_iface_ptr_other (P:=Tryz.prog) w Tryz.underlying71 Tryz.underlying190 hi hcmp hj (by rw [hjs];decide) hne ha hb
 go_enter Tryz.func111,Tryz.ntmps111
 go_wp2
 refine wp_loop_rounds 1 ?_;rw [rounds_succ]
 go_wp2
 go_ret;exact ⟨rfl,rfl⟩

theorem is_words {w : World} {E : Nat → Addr} (h : Ers w E) (i j : Nat) (hi : i < 10) (hj : j < 10) (hne : ¬ i = j) :
  Calls Tryz.prog 111 #[.iface 190 (.pointer (some (E i))),.iface 190 (.pointer (some (E j)))] w fun e w' => e = .returned (.bool false) ∧ w' = w:=by
 obtain ⟨ca,ta,h1⟩:=h.blk i hi;obtain ⟨cb,tb,h2⟩:=h.blk j hj;exact is_other (E i) (E j) ca cb ta tb w (fun e => hne (h.inj i j hi hj e)) h1 h2

def codeOf : Nat → Int
 | 0 => 2
 | 1 => 1
 | 2 => 6
 | 3 => 7
 | 4 => 9
 | 5 => 11
 | 6 => 7
 | 7 => 11
 | 8 => 10
 | 9 => 3
 | _ => 0

theorem why0 (E : Nat → Addr) (w : World) (h : Ers w E) : Calls Tryz.prog 72 #[.iface 190 (.pointer (some (E 0)))] w fun e w' => e = .returned (.int .i64 2) ∧ w' = w:=by
 have HE:=hidK h;have v0:=h.v0;have v1:=h.v1;have v2:=h.v2;have v3:=h.v3;have v4:=h.v4;have v5:=h.v5;have v6:=h.v6;have v7:=h.v7;have v8:=h.v8;have v9:=h.v9;clear h
 go_enter Tryz.func72,Tryz.ntmps72
 go_wp2_with fail;refine (is_same (E 0) _).mono ?_;rintro e w' ⟨rfl,rfl⟩
 go_wp2
 go_ret;exact ⟨rfl,rfl⟩

theorem why1 (E : Nat → Addr) (w : World) (h : Ers w E) : Calls Tryz.prog 72 #[.iface 190 (.pointer (some (E 1)))] w fun e w' => e = .returned (.int .i64 1) ∧ w' = w:=by
 have HE:=hidK h;have v0:=h.v0;have v1:=h.v1;have v2:=h.v2;have v3:=h.v3;have v4:=h.v4;have v5:=h.v5;have v6:=h.v6;have v7:=h.v7;have v8:=h.v8;have v9:=h.v9;clear h
 go_enter Tryz.func72,Tryz.ntmps72
 go_wp2_with fail;refine (is_words HE.out 1 0 (by decide) (by decide) (by decide)).mono ?_;rintro e w' ⟨rfl,rfl⟩;go_wp2_with fail;refine (is_words HE.out 1 9 (by decide) (by decide) (by decide)).mono ?_;rintro e w' ⟨rfl,rfl⟩;go_wp2_with fail;refine (is_words HE.out 1 2 (by decide) (by decide) (by decide)).mono ?_;rintro e w' ⟨rfl,rfl⟩;go_wp2_with fail;refine (is_words HE.out 1 3 (by decide) (by decide) (by decide)).mono ?_;rintro e w' ⟨rfl,rfl⟩;go_wp2_with fail;refine (is_words HE.out 1 6 (by decide) (by decide) (by decide)).mono ?_;rintro e w' ⟨rfl,rfl⟩;go_wp2_with fail;refine (is_words HE.out 1 4 (by decide) (by decide) (by decide)).mono ?_;rintro e w' ⟨rfl,rfl⟩;go_wp2_with fail;refine (is_words HE.out 1 5 (by decide) (by decide) (by decide)).mono ?_;rintro e w' ⟨rfl,rfl⟩;go_wp2_with fail;refine (is_words HE.out 1 7 (by decide) (by decide) (by decide)).mono ?_;rintro e w' ⟨rfl,rfl⟩;go_wp2_with fail;refine (is_words HE.out 1 8 (by decide) (by decide) (by decide)).mono ?_;rintro e w' ⟨rfl,rfl⟩
 go_wp2
 go_ret;exact ⟨rfl,rfl⟩

theorem why2 (E : Nat → Addr) (w : World) (h : Ers w E) : Calls Tryz.prog 72 #[.iface 190 (.pointer (some (E 2)))] w fun e w' => e = .returned (.int .i64 6) ∧ w' = w:=by
 have HE:=hidK h;have v0:=h.v0;have v1:=h.v1;have v2:=h.v2;have v3:=h.v3;have v4:=h.v4;have v5:=h.v5;have v6:=h.v6;have v7:=h.v7;have v8:=h.v8;have v9:=h.v9;clear h
 go_enter Tryz.func72,Tryz.ntmps72
 go_wp2_with fail;refine (is_words HE.out 2 0 (by decide) (by decide) (by decide)).mono ?_;rintro e w' ⟨rfl,rfl⟩;go_wp2_with fail;refine (is_words HE.out 2 9 (by decide) (by decide) (by decide)).mono ?_;rintro e w' ⟨rfl,rfl⟩;go_wp2_with fail;refine (is_same (E 2) _).mono ?_;rintro e w' ⟨rfl,rfl⟩
 go_wp2
 go_ret;exact ⟨rfl,rfl⟩

theorem why3 (E : Nat → Addr) (w : World) (h : Ers w E) : Calls Tryz.prog 72 #[.iface 190 (.pointer (some (E 3)))] w fun e w' => e = .returned (.int .i64 7) ∧ w' = w:=by
 have HE:=hidK h;have v0:=h.v0;have v1:=h.v1;have v2:=h.v2;have v3:=h.v3;have v4:=h.v4;have v5:=h.v5;have v6:=h.v6;have v7:=h.v7;have v8:=h.v8;have v9:=h.v9;clear h
 go_enter Tryz.func72,Tryz.ntmps72
 go_wp2_with fail;refine (is_words HE.out 3 0 (by decide) (by decide) (by decide)).mono ?_;rintro e w' ⟨rfl,rfl⟩;go_wp2_with fail;refine (is_words HE.out 3 9 (by decide) (by decide) (by decide)).mono ?_;rintro e w' ⟨rfl,rfl⟩;go_wp2_with fail;refine (is_words HE.out 3 2 (by decide) (by decide) (by decide)).mono ?_;rintro e w' ⟨rfl,rfl⟩;go_wp2_with fail;refine (is_same (E 3) _).mono ?_;rintro e w' ⟨rfl,rfl⟩
 go_wp2
 go_ret;exact ⟨rfl,rfl⟩

theorem why4 (E : Nat → Addr) (w : World) (h : Ers w E) : Calls Tryz.prog 72 #[.iface 190 (.pointer (some (E 4)))] w fun e w' => e = .returned (.int .i64 9) ∧ w' = w:=by
 have HE:=hidK h;have v0:=h.v0;have v1:=h.v1;have v2:=h.v2;have v3:=h.v3;have v4:=h.v4;have v5:=h.v5;have v6:=h.v6;have v7:=h.v7;have v8:=h.v8;have v9:=h.v9;clear h
 go_enter Tryz.func72,Tryz.ntmps72
 go_wp2_with fail;refine (is_words HE.out 4 0 (by decide) (by decide) (by decide)).mono ?_;rintro e w' ⟨rfl,rfl⟩;go_wp2_with fail;refine (is_words HE.out 4 9 (by decide) (by decide) (by decide)).mono ?_;rintro e w' ⟨rfl,rfl⟩;go_wp2_with fail;refine (is_words HE.out 4 2 (by decide) (by decide) (by decide)).mono ?_;rintro e w' ⟨rfl,rfl⟩;go_wp2_with fail;refine (is_words HE.out 4 3 (by decide) (by decide) (by decide)).mono ?_;rintro e w' ⟨rfl,rfl⟩;go_wp2_with fail;refine (is_words HE.out 4 6 (by decide) (by decide) (by decide)).mono ?_;rintro e w' ⟨rfl,rfl⟩;go_wp2_with fail;refine (is_same (E 4) _).mono ?_;rintro e w' ⟨rfl,rfl⟩
 go_wp2
 go_ret;exact ⟨rfl,rfl⟩

theorem why5 (E : Nat → Addr) (w : World) (h : Ers w E) : Calls Tryz.prog 72 #[.iface 190 (.pointer (some (E 5)))] w fun e w' => e = .returned (.int .i64 11) ∧ w' = w:=by
 have HE:=hidK h;have v0:=h.v0;have v1:=h.v1;have v2:=h.v2;have v3:=h.v3;have v4:=h.v4;have v5:=h.v5;have v6:=h.v6;have v7:=h.v7;have v8:=h.v8;have v9:=h.v9;clear h
 go_enter Tryz.func72,Tryz.ntmps72
 go_wp2_with fail;refine (is_words HE.out 5 0 (by decide) (by decide) (by decide)).mono ?_;rintro e w' ⟨rfl,rfl⟩;go_wp2_with fail;refine (is_words HE.out 5 9 (by decide) (by decide) (by decide)).mono ?_;rintro e w' ⟨rfl,rfl⟩;go_wp2_with fail;refine (is_words HE.out 5 2 (by decide) (by decide) (by decide)).mono ?_;rintro e w' ⟨rfl,rfl⟩;go_wp2_with fail;refine (is_words HE.out 5 3 (by decide) (by decide) (by decide)).mono ?_;rintro e w' ⟨rfl,rfl⟩;go_wp2_with fail;refine (is_words HE.out 5 6 (by decide) (by decide) (by decide)).mono ?_;rintro e w' ⟨rfl,rfl⟩;go_wp2_with fail;refine (is_words HE.out 5 4 (by decide) (by decide) (by decide)).mono ?_;rintro e w' ⟨rfl,rfl⟩;go_wp2_with fail;refine (is_same (E 5) _).mono ?_;rintro e w' ⟨rfl,rfl⟩
 go_wp2
 go_ret;exact ⟨rfl,rfl⟩

theorem why6 (E : Nat → Addr) (w : World) (h : Ers w E) : Calls Tryz.prog 72 #[.iface 190 (.pointer (some (E 6)))] w fun e w' => e = .returned (.int .i64 7) ∧ w' = w:=by
 have HE:=hidK h;have v0:=h.v0;have v1:=h.v1;have v2:=h.v2;have v3:=h.v3;have v4:=h.v4;have v5:=h.v5;have v6:=h.v6;have v7:=h.v7;have v8:=h.v8;have v9:=h.v9;clear h
 go_enter Tryz.func72,Tryz.ntmps72
 go_wp2_with fail;refine (is_words HE.out 6 0 (by decide) (by decide) (by decide)).mono ?_;rintro e w' ⟨rfl,rfl⟩;go_wp2_with fail;refine (is_words HE.out 6 9 (by decide) (by decide) (by decide)).mono ?_;rintro e w' ⟨rfl,rfl⟩;go_wp2_with fail;refine (is_words HE.out 6 2 (by decide) (by decide) (by decide)).mono ?_;rintro e w' ⟨rfl,rfl⟩;go_wp2_with fail;refine (is_words HE.out 6 3 (by decide) (by decide) (by decide)).mono ?_;rintro e w' ⟨rfl,rfl⟩;go_wp2_with fail;refine (is_same (E 6) _).mono ?_;rintro e w' ⟨rfl,rfl⟩
 go_wp2
 go_ret;exact ⟨rfl,rfl⟩

theorem why7 (E : Nat → Addr) (w : World) (h : Ers w E) : Calls Tryz.prog 72 #[.iface 190 (.pointer (some (E 7)))] w fun e w' => e = .returned (.int .i64 11) ∧ w' = w:=by
 have HE:=hidK h;have v0:=h.v0;have v1:=h.v1;have v2:=h.v2;have v3:=h.v3;have v4:=h.v4;have v5:=h.v5;have v6:=h.v6;have v7:=h.v7;have v8:=h.v8;have v9:=h.v9;clear h
 go_enter Tryz.func72,Tryz.ntmps72
 go_wp2_with fail;refine (is_words HE.out 7 0 (by decide) (by decide) (by decide)).mono ?_;rintro e w' ⟨rfl,rfl⟩;go_wp2_with fail;refine (is_words HE.out 7 9 (by decide) (by decide) (by decide)).mono ?_;rintro e w' ⟨rfl,rfl⟩;go_wp2_with fail;refine (is_words HE.out 7 2 (by decide) (by decide) (by decide)).mono ?_;rintro e w' ⟨rfl,rfl⟩;go_wp2_with fail;refine (is_words HE.out 7 3 (by decide) (by decide) (by decide)).mono ?_;rintro e w' ⟨rfl,rfl⟩;go_wp2_with fail;refine (is_words HE.out 7 6 (by decide) (by decide) (by decide)).mono ?_;rintro e w' ⟨rfl,rfl⟩;go_wp2_with fail;refine (is_words HE.out 7 4 (by decide) (by decide) (by decide)).mono ?_;rintro e w' ⟨rfl,rfl⟩;go_wp2_with fail;refine (is_words HE.out 7 5 (by decide) (by decide) (by decide)).mono ?_;rintro e w' ⟨rfl,rfl⟩;go_wp2_with fail;refine (is_same (E 7) _).mono ?_;rintro e w' ⟨rfl,rfl⟩
 go_wp2
 go_ret;exact ⟨rfl,rfl⟩

theorem why8 (E : Nat → Addr) (w : World) (h : Ers w E) : Calls Tryz.prog 72 #[.iface 190 (.pointer (some (E 8)))] w fun e w' => e = .returned (.int .i64 10) ∧ w' = w:=by
 have HE:=hidK h;have v0:=h.v0;have v1:=h.v1;have v2:=h.v2;have v3:=h.v3;have v4:=h.v4;have v5:=h.v5;have v6:=h.v6;have v7:=h.v7;have v8:=h.v8;have v9:=h.v9;clear h
 go_enter Tryz.func72,Tryz.ntmps72
 go_wp2_with fail;refine (is_words HE.out 8 0 (by decide) (by decide) (by decide)).mono ?_;rintro e w' ⟨rfl,rfl⟩;go_wp2_with fail;refine (is_words HE.out 8 9 (by decide) (by decide) (by decide)).mono ?_;rintro e w' ⟨rfl,rfl⟩;go_wp2_with fail;refine (is_words HE.out 8 2 (by decide) (by decide) (by decide)).mono ?_;rintro e w' ⟨rfl,rfl⟩;go_wp2_with fail;refine (is_words HE.out 8 3 (by decide) (by decide) (by decide)).mono ?_;rintro e w' ⟨rfl,rfl⟩;go_wp2_with fail;refine (is_words HE.out 8 6 (by decide) (by decide) (by decide)).mono ?_;rintro e w' ⟨rfl,rfl⟩;go_wp2_with fail;refine (is_words HE.out 8 4 (by decide) (by decide) (by decide)).mono ?_;rintro e w' ⟨rfl,rfl⟩;go_wp2_with fail;refine (is_words HE.out 8 5 (by decide) (by decide) (by decide)).mono ?_;rintro e w' ⟨rfl,rfl⟩;go_wp2_with fail;refine (is_words HE.out 8 7 (by decide) (by decide) (by decide)).mono ?_;rintro e w' ⟨rfl,rfl⟩;go_wp2_with fail;refine (is_same (E 8) _).mono ?_;rintro e w' ⟨rfl,rfl⟩
 go_wp2
 go_ret;exact ⟨rfl,rfl⟩

theorem whyCode_any (E : Nat → Addr) (i : Nat) (w : World) (h : Ers w E) (hi : i < 9) : Calls Tryz.prog 72 #[.iface 190 (.pointer (some (E i)))] w fun e w' => e = .returned (.int .i64 (codeOf i)) ∧ w' = w:=by
 match i,hi with
 | 0,_ => exact why0 E w h
 | 1,_ => exact why1 E w h
 | 2,_ => exact why2 E w h
 | 3,_ => exact why3 E w h
 | 4,_ => exact why4 E w h
 | 5,_ => exact why5 E w h
 | 6,_ => exact why6 E w h
 | 7,_ => exact why7 E w h
 | 8,_ => exact why8 E w h

theorem refused_any (E : Nat → Addr) (i : Nat) (cc : Int) (hcc : cc = codeOf i) (w : World) (h : Ers w E) (hi : i < 9) : Calls Tryz.prog 37 #[.iface 190 (.pointer (some (E i)))] w fun e w' => e = .returned (.agg #[.slice none 0 0,.slice none 0 0,.slice none 0 0,.slice none 0 0,.slice none 0 0,.int .i64 0,.string ⟨#[]⟩,.int .i64 cc]) ∧ Below w.heap.size w w':=by
 have HE:=hidK (h.below (below1 w (.cells #[.slice none 0 0,.slice none 0 0,.slice none 0 0,.slice none 0 0,.slice none 0 0,.int .i64 0,.string ⟨#[]⟩,.int .i64 0] 38)));clear h
 go_enter Tryz.func37,Tryz.ntmps37
 go_wp2_with fail;refine (whyCode_any E i _ HE.out hi).mono ?_;rintro e w' ⟨rfl,rfl⟩;rw [← hcc];clear hcc
 go_wp2
 exact bodyPost_ret (v:=.agg #[.slice none 0 0,.slice none 0 0,.slice none 0 0,.slice none 0 0,.slice none 0 0,.int .i64 0,.string ⟨#[]⟩,.int .i64 cc]) (by simp [results,Tryz.results37,go_sem]) rfl ⟨rfl,below1 _ _⟩

end Rc
end Go.Proofs.YtkecljccapjkpaaGreatDoor

namespace Go.Proofs.YtkecljccapjkpaaGreatDoor
open Go.RowKit

theorem long_any (s : ByteArray) (w : World) :
  Calls Tryz.prog 68 #[.string s] w fun e w' => e = .returned (.bool (decide (8000 < s.size))) ∧ w = w':=by
 go_enter Tryz.func68,Tryz.ntmps68
 go_wp2
 go_ret;exact ⟨by simp;omega,rfl⟩
theorem long_yes (s : ByteArray) (w : World) (h : 8000 < s.size) :
  Calls Tryz.prog 68 #[.string s] w fun e w' => e = .returned (.bool true) ∧ w = w':=by
 have:=long_any s w;rw [decide_eq_true h] at this;exact this
theorem long_no (s : ByteArray) (w : World) (h : ¬ 8000 < s.size) :
  Calls Tryz.prog 68 #[.string s] w fun e w' => e = .returned (.bool false) ∧ w = w':=by
 have:=long_any s w;rw [decide_eq_false h] at this;exact this

end Go.Proofs.YtkecljccapjkpaaGreatDoor

namespace Go.Proofs.YtkecljccapjkpaaGreatDoor
open Go.RowKit
namespace Rc
open Mk

theorem Below.drewn {B : Nat} {w w' : World} (h : Below B w w') : Below B w w'.drew:=⟨h.os,h.tape,h.output,h.size,h.block⟩
def HasX (c : Cl) (t : ByteArray) : Prop:=∃ (i : Nat) (x : Xd),c.xs[i]? = some x ∧ x.n = t
theorem HasX.no {c : Cl} {t : ByteArray} (hr : RightI c) (h : hit Xd.n c.xs t = false) : ¬ HasX c t:=fun ⟨i,x,h1,h2⟩ => by
 have:=(hit_at hr.2.1.2.2.2.1.2.2 h1 h2).2;rw [h] at this
 cases this
def AskWhy (c : Cl) (t : ByteArray) : Nat → Prop
 | 0 => 8000 < t.size
 | 1 => ¬ 8000 < t.size ∧ ¬ RightI c
 | 2 => ¬ 8000 < t.size ∧ RightI c ∧ ¬ HasX c t
 | _ => False
def BegIs (c : Cl) (t : ByteArray) (p : Int) : Prop:=(8000 < t.size ∧ p = 2) ∨ (¬ 8000 < t.size ∧ ¬ RightI c ∧ p = 1) ∨ (¬ 8000 < t.size ∧ RightI c ∧ p = 0)

theorem sbeg_any (d : Ad) (c : Cl) (t : ByteArray) (w : World) (hr : ClRow w d c.raw) :
  Calls Tryz.prog 21 #[.agg #[.slice d.a1 d.l1 d.c1,.slice d.a2 d.l2 d.c2,.slice d.a3 d.l3 d.c3,.slice d.a4 d.l4 d.c4,.slice d.a5 d.l5 d.c5,.int .i64 c.now],.string t] w fun e w' => ∃ p : Int,e = .returned (.int .i64 p) ∧ BegIs c t p ∧ Below w.heap.size w w':=by
 have HR:=hidK hr;have HB:=hidK (Below.refl w.heap.size w);clear hr
 by_cases hl : 8000 < t.size
 ·go_enter Tryz.func21,Tryz.ntmps21
  go_wp2
  go_ret;exact ⟨2,rfl,.inl ⟨hl,rfl⟩,below1 _ _⟩
 go_enter Tryz.func21,Tryz.ntmps21
 go_wp2_with fail;refine (sright_any d c _ (HR.out.below (HB.out.trans ((below1 _ _).mono HB.out.size)))).mono ?_;rintro e w1 ⟨r,rfl,hi,hb⟩;obtain ⟨HA0,hbx⟩:=slots1 hb;have Bk:=hidK HA0;replace HB:=upB HB hbx;clear hb hbx HA0;have HI:=hidK hi;clear hi
 cases r
 ·go_wp2
  go_ret;exact ⟨1,rfl,.inr (.inl ⟨hl,fun h => (by have:=HI.out.2 h;cases this),rfl⟩),HB.out⟩
 ·go_wp2
  go_ret;exact ⟨0,rfl,.inr (.inr ⟨hl,HI.out.1 (by first | trivial | rfl),rfl⟩),HB.out⟩

structure Co where
 c : Cl
 n : ByteArray
 p : Int
def cl0 : Cl:=⟨[],[],[],[],[],0⟩
def co0 (p : Int) : Co:=⟨cl0,⟨#[]⟩,p⟩
def ad0 : Ad:=⟨none,0,0,none,0,0,none,0,0,none,0,0,none,0,0⟩
theorem own0 (w : World) (S : Nat → Prop) : ClOwn w ad0 cl0.raw S:=⟨fun _ => 1,ROwn.nil _ _ _ _ _ (by decide),ROwn.nil _ _ _ _ _ (by decide),ROwn.nil _ _ _ _ _ (by decide),ROwn.nil _ _ _ _ _ (by decide),ROwn.nil _ _ _ _ _ (by decide)⟩
def OutI (Is : Co → Prop) (w : World) (e : Ending) (w' : World) : Prop:=∃ g o,e = .returned (.agg #[.slice g.a1 g.l1 g.c1,.slice g.a2 g.l2 g.c2,.slice g.a3 g.l3 g.c3,.slice g.a4 g.l4 g.c4,.slice g.a5 g.l5 g.c5,.int .i64 o.c.now,.string o.n,.int .i64 o.p]) ∧ Is o ∧ ClOwn w' g o.c.raw (fun k => w.heap.size ≤ k) ∧ Below w.heap.size w w'
def OutS (Is : Co → Prop) (w : World) (e : Ending) (w' : World) : Prop:=∃ g o,e = .returned (.agg #[.slice g.a1 g.l1 g.c1,.slice g.a2 g.l2 g.c2,.slice g.a3 g.l3 g.c3,.slice g.a4 g.l4 g.c4,.slice g.a5 g.l5 g.c5,.int .i64 o.c.now,.string o.n,.int .i64 o.p]) ∧ Is o ∧ ClRow w' g o.c.raw ∧ Below w.heap.size w w'

theorem eqCout_any (g g' : Ad) (o : Co) (w : World) (hr : ClRow w g o.c.raw) (hr' : ClRow w g' o.c.raw) :
  Calls Tryz.prog 9 #[.agg #[.slice g.a1 g.l1 g.c1,.slice g.a2 g.l2 g.c2,.slice g.a3 g.l3 g.c3,.slice g.a4 g.l4 g.c4,.slice g.a5 g.l5 g.c5,.int .i64 o.c.now,.string o.n,.int .i64 o.p],.agg #[.slice g'.a1 g'.l1 g'.c1,.slice g'.a2 g'.l2 g'.c2,.slice g'.a3 g'.l3 g'.c3,.slice g'.a4 g'.l4 g'.c4,.slice g'.a5 g'.l5 g'.c5,.int .i64 o.c.now,.string o.n,.int .i64 o.p]] w fun e w' => e = .returned (.bool true) ∧ Below w.heap.size w w':=by
 have HR:=hidK hr;have HR':=hidK hr';have HB:=hidK (Below.refl w.heap.size w);clear hr hr'
 go_enter Tryz.func9,Tryz.ntmps9
 go_wp2_with fail;refine (eqCluster_any g g' o.c _ (HR.out.below (HB.out.trans ((below2 _ _ _).mono HB.out.size))) (HR'.out.below (HB.out.trans ((below2 _ _ _).mono HB.out.size)))).mono ?_;rintro e w1 ⟨rfl,hb⟩;obtain ⟨HA0,HA1,hbx⟩:=slots2 hb;have Ba:=hidK HA0;have Bb:=hidK HA1;replace HB:=upB HB hbx;clear hb hbx HA0 HA1;obtain ⟨a0,a1,a2,a3,a4,a5,a6,a7⟩:=cs8 Ba.out;have lta_1:=lt_of_some Ba.out;obtain ⟨b0,b1,b2,b3,b4,b5,b6,b7⟩:=cs8 Bb.out;have ltb_1:=lt_of_some Bb.out
 go_wp2
 go_ret;exact ⟨rfl,HB.out⟩

theorem markCout_any (g : Ad) (o : Co) (N : Int) (S : Nat → Prop) (w : World) (ho : ClOwn w g o.c.raw S) (hS : ∀ k,S k → k < w.heap.size) (hN : 0 < N) (hb : mkCn N o.c.raw ≤ 1152921504606846976) :
  Calls Tryz.prog 12 #[.agg #[.slice g.a1 g.l1 g.c1,.slice g.a2 g.l2 g.c2,.slice g.a3 g.l3 g.c3,.slice g.a4 g.l4 g.c4,.slice g.a5 g.l5 g.c5,.int .i64 o.c.now,.string o.n,.int .i64 o.p],.int .i64 N] w fun e w' => e = .returned (.int .i64 (mkCn N o.c.raw)) ∧ ClOwn w' g (mkC N o.c.raw) S ∧ KeptS S w w':=by
 have HO:=hidK (ho.below (below1 w (.cells #[.slice g.a1 g.l1 g.c1,.slice g.a2 g.l2 g.c2,.slice g.a3 g.l3 g.c3,.slice g.a4 g.l4 g.c4,.slice g.a5 g.l5 g.c5,.int .i64 o.c.now,.string o.n,.int .i64 o.p] 38)));have HS:=hidK hS;clear ho hS
 go_enter Tryz.func12,Tryz.ntmps12
 go_wp2_with fail;refine (markCluster_any g o.c N S _ HO.out (fun k s => by have:=HS.out k s;simp;omega) hN hb).mono ?_;rintro e w1 ⟨rfl,ho,hk⟩;have HO1:=hidK ho;have HK:=hidK ((KeptS.of_below (S:=S) (below1 w (.cells #[.slice g.a1 g.l1 g.c1,.slice g.a2 g.l2 g.c2,.slice g.a3 g.l3 g.c3,.slice g.a4 g.l4 g.c4,.slice g.a5 g.l5 g.c5,.int .i64 o.c.now,.string o.n,.int .i64 o.p] 38))).trans hk);clear ho hk
 go_wp2
 go_ret;exact ⟨rfl,HO1.out,HK.out⟩

theorem heldCout_any (g : Ad) (o : Co) (N : Int) (w : World) (hr : ClRow w g (mkC N o.c.raw)) (hN : 0 < N) (hb : mkCn N o.c.raw ≤ 1152921504606846976) :
  Calls Tryz.prog 13 #[.agg #[.slice g.a1 g.l1 g.c1,.slice g.a2 g.l2 g.c2,.slice g.a3 g.l3 g.c3,.slice g.a4 g.l4 g.c4,.slice g.a5 g.l5 g.c5,.int .i64 o.c.now,.string o.n,.int .i64 o.p],.int .i64 N] w fun e w' => e = .returned (.int .i64 (mkCn N o.c.raw)) ∧ Below w.heap.size w w':=by
 have HR:=hidK (hr.below (below1 w (.cells #[.slice g.a1 g.l1 g.c1,.slice g.a2 g.l2 g.c2,.slice g.a3 g.l3 g.c3,.slice g.a4 g.l4 g.c4,.slice g.a5 g.l5 g.c5,.int .i64 o.c.now,.string o.n,.int .i64 o.p] 38)));clear hr;obtain ⟨M,hM⟩ : ∃ M,M = mkCn N o.c.raw:=⟨_,rfl⟩
 have hM0 : ¬ M < 0:=by rw [hM];have:=mkCn_ge N o.c.raw;omega
 have HM:=hidK hM;clear hM
 go_enter Tryz.func13,Tryz.ntmps13
 go_wp2_with fail;refine (heldCluster_any g o.c o.c.now N _ HR.out hN hb).mono ?_;rintro e w1 ⟨rfl,hb1⟩;rw [← HM.out];have HB:=hidK (slots1 hb1).2;clear hb1
 go_wp2
 go_ret;exact ⟨by rw [← HM.out];rfl,HB.out⟩

def wo {α : Type} (nm : α → ByteArray) (t : ByteArray) (xs : List α) : List α:=xs.filter fun x => !((nm x).toList == t.toList)
theorem wo_yes {α : Type} {nm : α → ByteArray} {t : ByteArray} {xs : List α} {k : Nat} {x : α} (h : xs[k]? = some x) (hn : ((nm x).toList == t.toList) = false) : wo nm t (xs.take (k + 1)) = wo nm t (xs.take k) ++ [x]:=by
 unfold wo;rw [List.take_add_one,h,List.filter_append]
 simp [hn]
theorem wo_no {α : Type} {nm : α → ByteArray} {t : ByteArray} {xs : List α} {k : Nat} {x : α} (h : xs[k]? = some x) (hn : ((nm x).toList == t.toList) = true) : wo nm t (xs.take (k + 1)) = wo nm t (xs.take k):=by
 unfold wo;rw [List.take_add_one,h,List.filter_append]
 simp [hn]
theorem wo_le {α : Type} (nm : α → ByteArray) (t : ByteArray) (xs : List α) : (wo nm t xs).length ≤ xs.length:=List.length_filter_le _ _
structure Sel {α β : Type} (xs ys : List α) (vss ws : List β) (k : Nat) (f : Nat → Nat) : Prop where
 len : ws.length = ys.length
 y : ∀ j,j < ys.length → ys[j]? = xs[f j]?
 v : ∀ j,j < ys.length → ws[j]? = vss[f j]?
 lt : ∀ j,j < ys.length → f j < k
 inj : ∀ i j,i < ys.length → j < ys.length → f i = f j → i = j
theorem Sel.nil {α β : Type} (xs : List α) (vss : List β) (k : Nat) (f : Nat → Nat) : Sel xs [] vss [] k f:=⟨rfl,fun j h => by simp at h,fun j h => by simp at h,fun j h => by simp at h,fun i j h => by simp at h⟩
theorem Sel.up {α β : Type} {xs ys : List α} {vss ws : List β} {k : Nat} {f : Nat → Nat} (h : Sel xs ys vss ws k f) : Sel xs ys vss ws (k + 1) f:=⟨h.len,h.y,h.v,fun j hj => Nat.lt_succ_of_lt (h.lt j hj),h.inj⟩
theorem Sel.push {α β : Type} {xs ys : List α} {vss ws : List β} {k : Nat} {f : Nat → Nat} (h : Sel xs ys vss ws k f) {x : α} {u : β} (hx : xs[k]? = some x) (hu : vss[k]? = some u) : Sel xs (ys ++ [x]) vss (ws ++ [u]) (k + 1) (fun j => if j = ys.length then k else f j):=by
 have hl:=h.len;refine ⟨by simp [hl],fun j hj => ?_,fun j hj => ?_,fun j hj => ?_,fun i j hi hj e => ?_⟩
 ·by_cases e : j = ys.length
  ·subst e;simp [hx]
  ·have hj' : j < ys.length:=by simp at hj;omega
   rw [List.getElem?_append_left hj',if_neg e];exact h.y j hj'
 ·by_cases e : j = ys.length
  ·subst e;rw [if_pos rfl,hu,List.getElem?_append_right (by omega),hl,Nat.sub_self]
   rfl
  ·have hj' : j < ys.length:=by simp at hj;omega
   rw [List.getElem?_append_left (by omega),if_neg e];exact h.v j hj'
 ·by_cases e : j = ys.length
  ·simp only [if_pos e];omega
  ·have hj' : j < ys.length:=by simp at hj;omega
   simp only [if_neg e];have:=h.lt j hj'
   omega
 ·by_cases e1 : i = ys.length <;> by_cases e2 : j = ys.length
  ·omega
  ·have hj' : j < ys.length:=by simp at hj;omega
   simp only [if_pos e1,if_neg e2] at e;have:=h.lt j hj'
   omega
  ·have hi' : i < ys.length:=by simp at hi;omega
   simp only [if_pos e2,if_neg e1] at e;have:=h.lt i hi'
   omega
  ·simp only [if_neg e1,if_neg e2] at e;exact h.inj i j (by simp at hi;omega) (by simp at hj;omega) e
theorem Sel.recs {w : World} {S : Nat → Prop} {m k : Nat} {α : Type} {F : α → List Fv} {xs ys : List α} {vss ws : List (List Value)} {H : Nat → Nat → Nat} {f : Nat → Nat} (h : Sel xs ys vss ws k f) (hv : VRecs w S m (xs.map F) vss H) : VRecs w S m (ys.map F) ws (fun j => H (f j)) :=
 hv.sel f (by rw [h.len,List.length_map]) (fun j hj => by rw [List.length_map] at hj;rw [List.getElem?_map,List.getElem?_map,h.y j hj]) (fun j hj => by rw [List.length_map] at hj;exact h.v j hj) (fun i j hi hj e => h.inj i j (by simpa using hi) (by simpa using hj) e)
theorem vals_eq5 {vs : List Value} {a0 a1 a2 a3 a4 : Value} (hl : vs.length = 5) (h0 : vs[0]? = some a0) (h1 : vs[1]? = some a1) (h2 : vs[2]? = some a2) (h3 : vs[3]? = some a3) (h4 : vs[4]? = some a4) : vs = [a0,a1,a2,a3,a4]:=by
 apply List.ext_getElem?
 intro i
 rcases i with _ | _ | _ | _ | _ | i
 ·exact h0
 ·exact h1
 ·exact h2
 ·exact h3
 ·exact h4
 ·rw [List.getElem?_eq_none (by omega),List.getElem?_eq_none (by simp)]
theorem vals_eq8 {vs : List Value} {a0 a1 a2 a3 a4 a5 a6 a7 : Value} (hl : vs.length = 8) (h0 : vs[0]? = some a0) (h1 : vs[1]? = some a1) (h2 : vs[2]? = some a2) (h3 : vs[3]? = some a3) (h4 : vs[4]? = some a4) (h5 : vs[5]? = some a5) (h6 : vs[6]? = some a6) (h7 : vs[7]? = some a7) : vs = [a0,a1,a2,a3,a4,a5,a6,a7]:=by
 apply List.ext_getElem?
 intro i
 rcases i with _ | _ | _ | _ | _ | _ | _ | _ | i
 ·exact h0
 ·exact h1
 ·exact h2
 ·exact h3
 ·exact h4
 ·exact h5
 ·exact h6
 ·exact h7
 ·rw [List.getElem?_eq_none (by omega),List.getElem?_eq_none (by simp)]
theorem recs_at {w : World} {S : Nat → Prop} {m g : Nat} {rs : List (List Fv)} {vss : List (List Value)} {H : Nat → Nat → Nat} (hV : VRecs w S m rs vss H) (hc : ∀ (k : Nat) u,vss.flatten[k]? = some u → w.cell? ⟨g,k,none⟩ = some u) {k : Nat} {vs : List Value} (hk : vss[k]? = some vs) {i : Nat} {u : Value} (hi : i < m) (hu : w.cell? ⟨g,k * m + i,none⟩ = some u) : vs[i]? = some u:=by
 have hl:=hV.all k vs hk;have h1 : vs[i]? = some (vs[i]'(by omega)):=List.getElem?_eq_getElem _;have h2:=hc _ _ (flat_at hV.all hk h1);rw [hu] at h2;rw [h1];exact h2.symm

theorem iwoxd_any (a : Option Addr) (len cap : Nat) (xs : List Xd) (t : ByteArray) (Q : Nat → Prop) (w : World) (ho : ROwn w a len cap 5 78 (xs.map xdF) Q) (hl : len ≤ 8) :
  Calls Tryz.prog 39 #[.slice a len cap,.string t] w fun e w' => ∃ a' l' c',e = .returned (.slice a' l' c') ∧ ROwn w' a' l' c' 5 78 ((wo Xd.n t xs).map xdF) (fun k => Q k ∨ w.heap.size ≤ k) ∧ Below w.heap.size w w':=by
 have HR:=hidK ho.row
 have hxl : xs.length = len:=by simpa using ho.1
 obtain ⟨vss,H,hV,hcell⟩:=ho.recs;have HV:=hidK hV;have HC:=hidK hcell
 have hvl : vss.length = xs.length:=by rw [hV.len,List.length_map]
 clear ho hV hcell;obtain ⟨i0,hi,hz0,hz1,hz2⟩:=info_parts infoxd;have HI0:=hidK (And.intro hi (And.intro hz0 (And.intro hz1 hz2)));clear hi hz0 hz1 hz2
 have hmcalled : ∀ (v : Value) (w : World),(method 337 78 v "loop.example/g00571/impl.called").run Tryz.prog w = .ok (194,v) w:=fun _ _ => by kernel_rfl
 go_enter Tryz.func39,Tryz.ntmps39
 go_wp2
 go_loopw [5,10] (fun vo vi wr => ∃ (k : Nat) (ws : List (List Value)) (f : Nat → Nat),k ≤ len ∧ vi = .int .i64 k ∧ Hid (wr.ownsRow w.heap.size 78 5 vo (wo Xd.n t (xs.take k)).length ws.flatten) ∧ Hid (Sel xs (wo Xd.n t (xs.take k)) vss ws k f) ∧ Hid (Below w.heap.size w wr)) (fun _ vi _ => len - (intOf vi).toNat)
 case atStart => exact ⟨0,[],fun _ => 0,by omega,rfl,World.ownsRow_nil _ _ _ _,Sel.nil _ _ _ _,Below.refl _ _⟩
 case round =>
  obtain ⟨k,ws,f,hk,rfl,HO,HF,HB⟩:=hrel;have hBs:=HB.out.size
  by_cases hlt : k < len
  ·obtain ⟨b,o,x,rfl,hb,hx,hat⟩:=xd_at HR.out hlt;obtain ⟨z0,z2,z4,c0,c1,c2,c3,c4⟩:=xd_cells hat
   have hvk : vss[k]? = some [.string x.n,.int .i64 x.z,.string x.k,.bool x.x,.string x.v]:=by
    have hkv : k < vss.length:=by omega
    have h1:=List.getElem?_eq_getElem hkv
    have hoz : o = 0:=by
     have h2 : 0 < (vss[k]).length:=by rw [HV.out.all k _ h1];decide
     obtain ⟨g,e,_,_⟩:=HC.out _ _ (flat_at HV.out.all h1 (List.getElem?_eq_getElem h2))
     cases e
     rfl
    subst hoz
    have hc2 : ∀ (j : Nat) u,vss.flatten[j]? = some u → w.cell? ⟨b,j,none⟩ = some u:=fun j u hj => by
     obtain ⟨g,e,_,h3⟩:=HC.out j u hj
     cases e
     exact h3
    rw [h1];refine congrArg some (vals_eq5 (HV.out.all k _ h1) (recs_at HV.out hc2 h1 (by decide) (by simpa using c0)) (recs_at HV.out hc2 h1 (by decide) (by simpa using c1)) (recs_at HV.out hc2 h1 (by decide) (by simpa using c2)) (recs_at HV.out hc2 h1 (by decide) (by simpa using c3)) (recs_at HV.out hc2 h1 (by decide) (by simpa using c4)))
   have HX:=hidK hx;have HVK:=hidK hvk;replace c0:=(cell_below HB.out hb).trans c0;replace c1:=(cell_below HB.out hb).trans c1;replace c2:=(cell_below HB.out hb).trans c2;replace c3:=(cell_below HB.out hb).trans c3;replace c4:=(cell_below HB.out hb).trans c4;have hbr : b < wr.heap.size:=Nat.lt_of_lt_of_le hb hBs;clear hat hx hvk z0 z2 z4;have hn8:=wo_le Xd.n t (xs.take k)
   have hn9 : (wo Xd.n t (xs.take k)).length ≤ k:=by rw [List.length_take] at hn8;omega
   go_wp2_with fail;refine (calledxd_any x _).mono ?_;rintro e w1 ⟨rfl,hb1⟩;obtain ⟨hn1,hbx⟩:=slots1 hb1;obtain ⟨n0,n1,n2,n3,n4⟩:=cs5 hn1;have hs1:=lt_of_some hn1;have HO1:=hidK (owns_below HO.out hbx);have HB1:=hidK (HB.out.trans (hbx.mono hBs));clear hb1 hbx hn1 c0 c1 c2 c3 c4
   cases hq : (x.n.toList == t.toList)
   ·have hq2 : (x.n.toList != t.toList) = true:=by simp [bne,hq]
    go_wp2_with (first | (at_builtin;refine wpList_append_own _ rfl _ _ 75 rfl w.heap.size 78 i0 (.agg #[.string ⟨#[]⟩,.int .i64 0,.string ⟨#[]⟩,.bool false,.string ⟨#[]⟩]) 5 64 Tryz.underlying75 HI0.out.1 HI0.out.2.1 HI0.out.2.2.1 HI0.out.2.2.2 rfl (by decide) _ _ _ rfl (HO1.out.alloc _) ⟨w1.heap.size,0,none⟩ 1 1 [.string x.n,.int .i64 x.z,.string x.k,.bool x.x,.string x.v] rfl rfl ?c1 ?c2 ?c3 ?c4 ?c5 ?_))
    case c1 => exact news_alloc _ _ _
    case c2 => intro u hu;simp only [List.mem_cons,List.not_mem_nil,or_false] at hu;rcases hu with rfl | rfl | rfl | rfl | rfl <;> rfl
    case c3 => unfold maxLen;omega
    case c4 => omega
    case c5 => simp;omega
    rintro v' w3 hown3 hgrow -
    have HO3 : Hid (w3.ownsRow w.heap.size 78 5 v' (wo Xd.n t (xs.take (k + 1))).length (ws ++ ([[.string x.n,.int .i64 x.z,.string x.k,.bool x.x,.string x.v]] : List (List Value))).flatten):=by
     show World.ownsRow _ _ _ _ _ _ _
     rw [wo_yes HX.out hq,List.length_append,List.flatten_append]
     simpa using hown3
    have hF:=HF.out.push HX.out HVK.out;rw [← wo_yes HX.out hq] at hF;have HF3:=hidK hF;have HB3:=hidK ((HB1.out.trans ((below1 _ _).mono HB1.out.size)).grown hgrow (by simp;omega) (fun g hg => (HO1.out.lt g hg).1));clear hown3 hgrow hF
    go_wp2
    exact ⟨⟨k + 1,_,_,by omega,by go_num,HO3,HF3,HB3⟩,by simp [intOf];omega⟩
   ·have hq2 : (x.n.toList != t.toList) = false:=by simp [bne,hq]
    have HF3:=hidK HF.out.up;rw [← wo_no HX.out hq] at HF3 HO1
    go_wp2
    exact ⟨⟨k + 1,ws,f,by omega,by go_num,HO1,HF3,HB1⟩,by simp [intOf];omega⟩
  ·obtain rfl : len = k:=by omega
   have h5:=HF.out;have HO5:=HO;rw [List.take_of_length_le (by omega)] at h5 HO5;have h6:=(h5.recs (HV.out.below HB.out)).keep (w':=wr) (S':=fun k => Q k ∨ w.heap.size ≤ k) (fun _ _ _ _ => rfl) (fun _ _ s => .inl s);obtain ⟨a',c',e,hR⟩:=h6.own HO5.out (by simp) (by decide) (fun g hg => .inr (HO5.out.lt g hg).1);subst e;have HR5:=hidK hR;clear h5 h6 hR HF HO HO5
   go_wp2
   go_ret;exact ⟨a',_,c',rfl,by simpa using HR5.out,HB.out⟩

theorem iwovd_any (a : Option Addr) (len cap : Nat) (xs : List Vd) (t : ByteArray) (Q : Nat → Prop) (w : World) (ho : ROwn w a len cap 8 63 (xs.map vdF) Q) (hl : len ≤ 8) :
  Calls Tryz.prog 55 #[.slice a len cap,.string t] w fun e w' => ∃ a' l' c',e = .returned (.slice a' l' c') ∧ ROwn w' a' l' c' 8 63 ((wo Vd.n t xs).map vdF) (fun k => Q k ∨ w.heap.size ≤ k) ∧ Below w.heap.size w w':=by
 have HR:=hidK ho.row
 have hxl : xs.length = len:=by simpa using ho.1
 obtain ⟨vss,H,hV,hcell⟩:=ho.recs;have HV:=hidK hV;have HC:=hidK hcell
 have hvl : vss.length = xs.length:=by rw [hV.len,List.length_map]
 clear ho hV hcell;obtain ⟨i0,hi,hz0,hz1,hz2⟩:=info_parts infovd;have HI0:=hidK (And.intro hi (And.intro hz0 (And.intro hz1 hz2)));clear hi hz0 hz1 hz2
 have hmcalled : ∀ (v : Value) (w : World),(method 337 63 v "loop.example/g00571/impl.called").run Tryz.prog w = .ok (189,v) w:=fun _ _ => by kernel_rfl
 go_enter Tryz.func55,Tryz.ntmps55
 go_wp2
 go_loopw [5,10] (fun vo vi wr => ∃ (k : Nat) (ws : List (List Value)) (f : Nat → Nat),k ≤ len ∧ vi = .int .i64 k ∧ Hid (wr.ownsRow w.heap.size 63 8 vo (wo Vd.n t (xs.take k)).length ws.flatten) ∧ Hid (Sel xs (wo Vd.n t (xs.take k)) vss ws k f) ∧ Hid (Below w.heap.size w wr)) (fun _ vi _ => len - (intOf vi).toNat)
 case atStart => exact ⟨0,[],fun _ => 0,by omega,rfl,World.ownsRow_nil _ _ _ _,Sel.nil _ _ _ _,Below.refl _ _⟩
 case round =>
  obtain ⟨k,ws,f,hk,rfl,HO,HF,HB⟩:=hrel;have hBs:=HB.out.size
  by_cases hlt : k < len
  ·obtain ⟨b,o,x,rfl,hb,hx,hat⟩:=vd_at HR.out hlt;obtain ⟨va,vl,vc,hvr,z0,z2,z3,z5,c0,c1,c2,c3,c4,c5,c6,c7⟩:=vd_cells hat
   have hvk : vss[k]? = some [.string x.n,.int .i64 x.c,.string x.z,.string x.k,.bool x.x,.string x.m,.bool x.y,.slice va vl vc]:=by
    have hkv : k < vss.length:=by omega
    have h1:=List.getElem?_eq_getElem hkv
    have hoz : o = 0:=by
     have h2 : 0 < (vss[k]).length:=by rw [HV.out.all k _ h1];decide
     obtain ⟨g,e,_,_⟩:=HC.out _ _ (flat_at HV.out.all h1 (List.getElem?_eq_getElem h2))
     cases e
     rfl
    subst hoz
    have hc2 : ∀ (j : Nat) u,vss.flatten[j]? = some u → w.cell? ⟨b,j,none⟩ = some u:=fun j u hj => by
     obtain ⟨g,e,_,h3⟩:=HC.out j u hj
     cases e
     exact h3
    rw [h1];refine congrArg some (vals_eq8 (HV.out.all k _ h1) (recs_at HV.out hc2 h1 (by decide) (by simpa using c0)) (recs_at HV.out hc2 h1 (by decide) (by simpa using c1)) (recs_at HV.out hc2 h1 (by decide) (by simpa using c2)) (recs_at HV.out hc2 h1 (by decide) (by simpa using c3)) (recs_at HV.out hc2 h1 (by decide) (by simpa using c4)) (recs_at HV.out hc2 h1 (by decide) (by simpa using c5)) (recs_at HV.out hc2 h1 (by decide) (by simpa using c6)) (recs_at HV.out hc2 h1 (by decide) (by simpa using c7)))
   have HX:=hidK hx;have HVK:=hidK hvk;replace c0:=(cell_below HB.out hb).trans c0;replace c1:=(cell_below HB.out hb).trans c1;replace c2:=(cell_below HB.out hb).trans c2;replace c3:=(cell_below HB.out hb).trans c3;replace c4:=(cell_below HB.out hb).trans c4;replace c5:=(cell_below HB.out hb).trans c5;replace c6:=(cell_below HB.out hb).trans c6;replace c7:=(cell_below HB.out hb).trans c7;have hbr : b < wr.heap.size:=Nat.lt_of_lt_of_le hb hBs;clear hat hx hvk hvr z0 z2 z3 z5;have hn8:=wo_le Vd.n t (xs.take k)
   have hn9 : (wo Vd.n t (xs.take k)).length ≤ k:=by rw [List.length_take] at hn8;omega
   go_wp2_with fail;refine (calledvd_any x va vl vc _).mono ?_;rintro e w1 ⟨rfl,hb1⟩;obtain ⟨hn1,hbx⟩:=slots1 hb1;obtain ⟨n0,n1,n2,n3,n4,n5,n6,n7⟩:=cs8 hn1;have hs1:=lt_of_some hn1;have HO1:=hidK (owns_below HO.out hbx);have HB1:=hidK (HB.out.trans (hbx.mono hBs));clear hb1 hbx hn1 c0 c1 c2 c3 c4 c5 c6 c7
   cases hq : (x.n.toList == t.toList)
   ·have hq2 : (x.n.toList != t.toList) = true:=by simp [bne,hq]
    go_wp2_with (first | (at_builtin;refine wpList_append_own _ rfl _ _ 92 rfl w.heap.size 63 i0 (.agg #[.string ⟨#[]⟩,.int .i64 0,.string ⟨#[]⟩,.string ⟨#[]⟩,.bool false,.string ⟨#[]⟩,.bool false,.slice none 0 0]) 8 112 Tryz.underlying92 HI0.out.1 HI0.out.2.1 HI0.out.2.2.1 HI0.out.2.2.2 rfl (by decide) _ _ _ rfl (HO1.out.alloc _) ⟨w1.heap.size,0,none⟩ 1 1 [.string x.n,.int .i64 x.c,.string x.z,.string x.k,.bool x.x,.string x.m,.bool x.y,.slice va vl vc] rfl rfl ?c1 ?c2 ?c3 ?c4 ?c5 ?_))
    case c1 => exact news_alloc _ _ _
    case c2 => intro u hu;simp only [List.mem_cons,List.not_mem_nil,or_false] at hu;rcases hu with rfl | rfl | rfl | rfl | rfl | rfl | rfl | rfl <;> rfl
    case c3 => unfold maxLen;omega
    case c4 => omega
    case c5 => simp;omega
    rintro v' w3 hown3 hgrow -
    have HO3 : Hid (w3.ownsRow w.heap.size 63 8 v' (wo Vd.n t (xs.take (k + 1))).length (ws ++ ([[.string x.n,.int .i64 x.c,.string x.z,.string x.k,.bool x.x,.string x.m,.bool x.y,.slice va vl vc]] : List (List Value))).flatten):=by
     show World.ownsRow _ _ _ _ _ _ _
     rw [wo_yes HX.out hq,List.length_append,List.flatten_append]
     simpa using hown3
    have hF:=HF.out.push HX.out HVK.out;rw [← wo_yes HX.out hq] at hF;have HF3:=hidK hF;have HB3:=hidK ((HB1.out.trans ((below1 _ _).mono HB1.out.size)).grown hgrow (by simp;omega) (fun g hg => (HO1.out.lt g hg).1));clear hown3 hgrow hF
    go_wp2
    exact ⟨⟨k + 1,_,_,by omega,by go_num,HO3,HF3,HB3⟩,by simp [intOf];omega⟩
   ·have hq2 : (x.n.toList != t.toList) = false:=by simp [bne,hq]
    have HF3:=hidK HF.out.up;rw [← wo_no HX.out hq] at HF3 HO1
    go_wp2
    exact ⟨⟨k + 1,ws,f,by omega,by go_num,HO1,HF3,HB1⟩,by simp [intOf];omega⟩
  ·obtain rfl : len = k:=by omega
   have h5:=HF.out;have HO5:=HO;rw [List.take_of_length_le (by omega)] at h5 HO5;have h6:=(h5.recs (HV.out.below HB.out)).keep (w':=wr) (S':=fun k => Q k ∨ w.heap.size ≤ k) (fun _ _ _ _ => rfl) (fun _ _ s => .inl s);obtain ⟨a',c',e,hR⟩:=h6.own HO5.out (by simp) (by decide) (fun g hg => .inr (HO5.out.lt g hg).1);subst e;have HR5:=hidK hR;clear h5 h6 hR HF HO HO5
   go_wp2
   go_ret;exact ⟨a',_,c',rfl,by simpa using HR5.out,HB.out⟩

def DwWhy (c : Cl) (t : ByteArray) (St : Nat → Prop) : Nat → Prop
 | 0 => 8000 < t.size
 | 1 => ¬ 8000 < t.size ∧ ¬ RightI c
 | i + 2 => ¬ 8000 < t.size ∧ RightI c ∧ St (i + 2)
def WhyI (E : Nat → Addr) (Why : Nat → Prop) (ok : Prop) (w : World) (e : Ending) (w' : World) : Prop:=Below w.heap.size w w' ∧ ((∃ i,i < 9 ∧ Why i ∧ e = .returned (.iface 190 (.pointer (some (E i))))) ∨ (ok ∧ e = .returned .nilIface))
def DwOk (c : Cl) (t : ByteArray) (ok : Prop) : Prop:=¬ 8000 < t.size ∧ RightI c ∧ ok
def DropIs (c : Cl) (t : ByteArray) (St : Nat → Prop) (ok : Prop) (r : Cl) (o : Co) : Prop:=(∃ i,DwWhy c t St i ∧ o = co0 (codeOf i)) ∨ (¬ 8000 < t.size ∧ RightI c ∧ ok ∧ o = ⟨r,⟨#[]⟩,0⟩)
theorem DropIs.same {c : Cl} {t : ByteArray} {St : Nat → Prop} {ok : Prop} {r : Cl} (h1 : ∀ i j,St i → St j → i = j) (h2 : ∀ i,St i → ¬ ok) {o o' : Co} (h : DropIs c t St ok r o) (h' : DropIs c t St ok r o') : o = o':=by
 rcases h with ⟨i,a,rfl⟩ | ⟨a1,a2,a3,rfl⟩ <;> rcases h' with ⟨j,b,rfl⟩ | ⟨b1,b2,b3,rfl⟩
 ·have : i = j:=by
   rcases i with _ | _ | i <;> rcases j with _ | _ | j <;> simp only [DwWhy] at a b
   ·rfl
   ·exact absurd a b.1
   ·exact absurd a b.1
   ·exact absurd b a.1
   ·rfl
   ·exact absurd b.2.1 a.2
   ·exact absurd b a.1
   ·exact absurd a.2.1 b.2
   ·exact h1 _ _ a.2.2 b.2.2
  rw [this]
 ·rcases i with _ | _ | i <;> simp only [DwWhy] at a
  ·exact absurd a b1
  ·exact absurd b2 a.2
  ·exact absurd b3 (h2 _ a.2.2)
 ·rcases j with _ | _ | j <;> simp only [DwWhy] at b
  ·exact absurd b a1
  ·exact absurd a2 b.2
  ·exact absurd a3 (h2 _ b.2.2)
 ·rfl
theorem co0_marks (p : Int) : mkCn 1 (co0 p).c.raw ≤ 1152921504606846976:=by simp [co0,cl0,Cl.raw,mkCn,mkNs]
theorem wo_fit {α : Type} {nm : α → ByteArray} {t : ByteArray} {xs : List α} {j : Nat} {x : α} (h : (wo nm t xs)[j]? = some x) : ∃ i : Nat,xs[i]? = some x:=List.getElem?_of_mem (List.mem_filter.1 (List.mem_of_getElem? h)).1

theorem idwX_any (d : Ad) (c : Cl) (t : ByteArray) (E : Nat → Addr) (St : Nat → Prop) (ok : Prop) (w : World) (hr : ClRow w d c.raw) (hG : Ers w E) (hst : ∀ W,ClRow W d c.raw → RightI c → Ers W E → Calls Tryz.prog 36 #[.agg #[.slice d.a1 d.l1 d.c1,.slice d.a2 d.l2 d.c2,.slice d.a3 d.l3 d.c3,.slice d.a4 d.l4 d.c4,.slice d.a5 d.l5 d.c5,.int .i64 c.now],.string t] W (WhyI E (fun i => 2 ≤ i ∧ St i) ok W)) :
  Calls Tryz.prog 35 #[.agg #[.slice d.a1 d.l1 d.c1,.slice d.a2 d.l2 d.c2,.slice d.a3 d.l3 d.c3,.slice d.a4 d.l4 d.c4,.slice d.a5 d.l5 d.c5,.int .i64 c.now],.string t,.func (.func 36) #[] #[]] w (WhyI E (DwWhy c t St) (DwOk c t ok) w):=by
 have HR:=hidK hr;have HE:=hidK hG;have HST:=hidK hst;have HB:=hidK (Below.refl w.heap.size w);clear hr hG hst
 by_cases hl : 8000 < t.size
 ·have ev:=(HE.out.below (below1 w (.cells #[.slice d.a1 d.l1 d.c1,.slice d.a2 d.l2 d.c2,.slice d.a3 d.l3 d.c3,.slice d.a4 d.l4 d.c4,.slice d.a5 d.l5 d.c5,.int .i64 c.now] 36))).v0;have evl:=cell_lt HE.out.v0
  go_enter Tryz.func35,Tryz.ntmps35
  go_wp2_with fail;refine (long_yes t _ hl).mono ?_;rintro e w1 ⟨rfl,rfl⟩
  go_wp2
  go_ret;exact ⟨below1 _ _,.inl ⟨0,by decide,hl,rfl⟩⟩
 go_enter Tryz.func35,Tryz.ntmps35
 go_wp2_with fail;refine (long_no t _ hl).mono ?_;rintro e w1 ⟨rfl,rfl⟩;go_wp2_with fail;refine (iright_any d c _ (HR.out.below (HB.out.trans ((below1 _ _).mono HB.out.size))) (HE.out.below (HB.out.trans ((below1 _ _).mono HB.out.size))).ens).mono ?_;rintro e w1 ⟨r,rfl,hi,hb⟩;obtain ⟨HA0,hbx⟩:=slots1 hb;have Bk:=hidK HA0;replace HB:=upB HB hbx;clear hb hbx HA0;have HI:=hidK hi;clear hi
 cases r
 ·obtain ⟨k0,k1,k2,k3,k4,k5⟩:=cs6 Bk.out;have ltk_1:=lt_of_some Bk.out;have ev:=(HE.out.below HB.out).v1
  go_wp2
  go_ret;exact ⟨HB.out,.inl ⟨1,by decide,⟨hl,fun h => (by have:=HI.out.2 h;cases this)⟩,rfl⟩⟩
 have HT:=hidK (HI.out.1 (by first | trivial | rfl));clear HI;obtain ⟨k0,k1,k2,k3,k4,k5⟩:=cs6 Bk.out;have ltk_1:=lt_of_some Bk.out;go_wp2_with fail;refine (HST.out _ (HR.out.below HB.out) HT.out (HE.out.below HB.out)).mono ?_;rintro e w2 ⟨hb,hf⟩;clear k0 k1 k2 k3 k4 k5 ltk_1;replace Bk:=upK Bk hb;replace HB:=upB HB hb;clear hb
 rcases hf with ⟨i,hi8,⟨hi2,hs⟩,rfl⟩ | ⟨hok,rfl⟩
 ·obtain ⟨j,rfl⟩ : ∃ j,i = j + 2:=⟨i - 2,by omega⟩
  go_wp2
  go_ret;exact ⟨HB.out,.inl ⟨j + 2,hi8,⟨hl,HT.out,hs⟩,rfl⟩⟩
 ·go_wp2
  go_ret;exact ⟨HB.out,.inr ⟨⟨hl,HT.out,hok⟩,rfl⟩⟩

def Busy (c : Cl) (v : Vd) : Prop:=¬ v.zs = [] ∨ ∃ (j : Nat) (n : Nd),c.ns[j]? = some n ∧ InL n.zs v.n

theorem ul_ne (k : Int) (hk : k = 1 ∨ k = 3) (s t : ByteArray) : ¬ Um.ul k s = Um.ul 2 t:=by
 intro h
 have h1:=congrArg (fun l : Lit => match l with | .string b => b[7]? | _ => none) h
 rcases hk with rfl | rfl
 all_goals
  simp only [Um.ul,keyBytes,Lit.keyBytes,bytesBE,IntKind.bits,List.flatMap_cons,List.flatMap_nil,List.append_nil] at h1;rw [List.getElem?_append_left (by decide),List.getElem?_append_left (by decide)] at h1
  revert h1
  decide
theorem ul_wf1 : (Lit.int .i64 1).wf = true:=by decide
def PoU (ps : List Pd) (t : ByteArray) (k : Nat) (l : Lit) : Prop:=∃ (i : Nat) (p : Pd),i < k ∧ ps[i]? = some p ∧ InL p.zs t ∧ l = Um.ul 1 p.n
theorem PoU.yes {ps : List Pd} {t : ByteArray} {k : Nat} {p : Pd} {l : Lit} (h : ps[k]? = some p) (hy : InL p.zs t) : PoU ps t (k + 1) l ↔ PoU ps t k l ∨ l = Um.ul 1 p.n:=by
 constructor
 ·rintro ⟨i,s,hi,hs,a,e⟩
  by_cases hik : i = k
  ·subst hik;rw [h] at hs;obtain rfl:=Option.some.inj hs;exact .inr e
  ·exact .inl ⟨i,s,by omega,hs,a,e⟩
 ·rintro (⟨i,s,hi,hs,a,e⟩ | e)
  ·exact ⟨i,s,by omega,hs,a,e⟩
  ·exact ⟨k,p,by omega,h,hy,e⟩
theorem PoU.no {ps : List Pd} {t : ByteArray} {k : Nat} {p : Pd} {l : Lit} (h : ps[k]? = some p) (hy : ¬ InL p.zs t) : PoU ps t (k + 1) l ↔ PoU ps t k l:=by
 constructor
 ·rintro ⟨i,s,hi,hs,a,e⟩
  by_cases hik : i = k
  ·subst hik;rw [h] at hs;obtain rfl:=Option.some.inj hs;exact absurd a hy
  ·exact ⟨i,s,by omega,hs,a,e⟩
 ·rintro ⟨i,s,hi,hs,a,e⟩;exact ⟨i,s,by omega,hs,a,e⟩
def XBusy (c : Cl) (t : ByteArray) : Prop:=(∃ v,IsBd c t v ∧ Busy c v) ∨ ∃ (j : Nat) (p : Pd),c.ps[j]? = some p ∧ InL p.zs t
theorem IsBd.back {c : Cl} {t : ByteArray} {v : Vd} (hT : RightI c) (h : IsBd c t v) : v.m = t:=by
 obtain ⟨i,j,x,h1,h2,h3,h4⟩:=h
 rcases (hT.2.2.1.2 i x h1).2 with e | ⟨i',j',x',v',a1,a2,a3,a4,a5,a6,-⟩
 ·exact absurd (h4.trans e) (RowsOk.ne hT.2.1 j v h3)
 ·obtain ⟨-,rfl⟩:=hT.2.1.2.2.1.2.2.inj h3 a3 (h4.trans a4.symm);exact a6.trans h2
theorem use_bd {c : Cl} {t : ByteArray} {v : Vd} (hT : RightI c) (h : IsBd c t v) : (∀ l,¬ (UseS c v l ∧ ¬ l = Um.ul 2 t)) ↔ ¬ ∃ u,IsBd c t u ∧ Busy c u:=by
 have hm:=h.back hT
 constructor
 ·rintro hno ⟨u,hu,hb⟩;obtain rfl:=IsBd.inj hT.2.1.2.2.2.1.2.2 hT.2.1.2.2.1.2.2 hu h
  rcases hb with hz | ⟨j,n,hj,hi⟩
  ·rcases hzs : u.zs with _ | ⟨s,zs⟩
   ·exact hz hzs
   ·exact hno _ ⟨.inl (.inr ⟨0,s,by rw [hzs];simp,by rw [hzs];rfl,rfl⟩),ul_ne 3 (.inr rfl) _ _⟩
  ·exact hno _ ⟨.inr ⟨j,n,(List.getElem?_eq_some_iff.1 hj).1,hj,hi,rfl⟩,ul_ne 3 (.inr rfl) _ _⟩
 ·rintro hno l ⟨(⟨-,e⟩ | ⟨i,s,-,hs,-⟩) | ⟨j,n,-,hj,hi,-⟩,hne⟩
  ·exact hne (by rw [e,hm])
  ·exact hno ⟨v,h,.inl (fun e => by rw [e] at hs;cases hs)⟩
  ·exact hno ⟨v,h,.inr ⟨j,n,hj,hi⟩⟩
def vd0 : Vd:=⟨⟨#[]⟩,0,⟨#[]⟩,⟨#[]⟩,false,⟨#[]⟩,false,[]⟩
theorem use_no {c : Cl} {t : ByteArray} (hT : RightI c) (h : ∀ v,¬ IsBd c t v) : (∀ l,¬ (UseS c vd0 l ∧ ¬ l = Um.ul 2 t)) ↔ ¬ ∃ u,IsBd c t u ∧ Busy c u:=by
 refine ⟨fun _ ⟨u,hu,_⟩ => h u hu,?_⟩;rintro - l ⟨(⟨hm,-⟩ | ⟨i,s,-,hs,-⟩) | ⟨j,n,-,hj,⟨q,hq⟩,-⟩,-⟩
 ·exact hm rfl
 ·cases hs
 ·have h1:=((hT.2.1.1.2.1 j n hj).2.2.2.2.2).2;exact absurd (h1 q _ hq).1.1 (by decide)
theorem use_pods {c : Cl} {t : ByteArray} {S : Lit → Prop} (h : (∀ l,¬ S l) ↔ ¬ ∃ u,IsBd c t u ∧ Busy c u) : (∀ l,¬ (S l ∨ PoU c.ps t c.ps.length l)) ↔ ¬ XBusy c t:=by
 constructor
 ·rintro hno (hb | ⟨j,p,hj,hi⟩)
  ·exact h.1 (fun l hl => hno l (.inl hl)) hb
  ·exact hno _ (.inr ⟨j,p,(List.getElem?_eq_some_iff.1 hj).1,hj,hi,rfl⟩)
 ·rintro hno l (hl | ⟨j,p,-,hj,hi,-⟩)
  ·exact h.2 (fun hb => hno (.inl hb)) l hl
  ·exact hno (.inr ⟨j,p,hj,hi⟩)

theorem icu_any (d : Ad) (c : Cl) (t : ByteArray) (w : World) (hr : ClRow w d c.raw) (hT : RightI c) (ht : t.size ≤ 1048576) :
  Calls Tryz.prog 71 #[.agg #[.slice d.a1 d.l1 d.c1,.slice d.a2 d.l2 d.c2,.slice d.a3 d.l3 d.c3,.slice d.a4 d.l4 d.c4,.slice d.a5 d.l5 d.c5,.int .i64 c.now],.string t] w fun e w' => ∃ b n S,e = .returned (.map (some b)) ∧ Um.Has w' b n S ∧ ((∀ l,¬ S l) ↔ ¬ XBusy c t) ∧ Below w.heap.size w w':=by
 obtain ⟨a1,l1,y1,a2,l2,y2,a3,l3,y3,a4,l4,y4,a5,l5,y5⟩:=d;dsimp only;have HR:=hidK hr
 have hl1 : c.ns.length = l1:=by simpa using (show (c.ns.map ndF).length = l1 from hr.n.1)
 have hm1 : l1 ≤ 9223372036854775807:=Nat.le_trans hr.n.2.1 hr.n.2.2.1
 have hl2 : c.ks.length = l2:=by simpa using (show (c.ks.map kdF).length = l2 from hr.k.1)
 have hm2 : l2 ≤ 9223372036854775807:=Nat.le_trans hr.k.2.1 hr.k.2.2.1
 have hl3 : c.vs.length = l3:=by simpa using (show (c.vs.map vdF).length = l3 from hr.v.1)
 have hm3 : l3 ≤ 9223372036854775807:=Nat.le_trans hr.v.2.1 hr.v.2.2.1
 have hl4 : c.xs.length = l4:=by simpa using (show (c.xs.map xdF).length = l4 from hr.x.1)
 have hm4 : l4 ≤ 9223372036854775807:=Nat.le_trans hr.x.2.1 hr.x.2.2.1
 have hl5 : c.ps.length = l5:=by simpa using (show (c.ps.map pdF).length = l5 from hr.p.1)
 have hm5 : l5 ≤ 9223372036854775807:=Nat.le_trans hr.p.2.1 hr.p.2.2.1;clear hr;have HT:=hidK hT;clear hT;have HB:=hidK (Below.refl w.heap.size w)
 have h58 : l5 ≤ 8:=by have:=HT.out.sm.p;omega
 go_enter Tryz.func71,Tryz.ntmps71
 go_wp2_with fail;refine (ibd_any ⟨a1,l1,y1,a2,l2,y2,a3,l3,y3,a4,l4,y4,a5,l5,y5⟩ c t w _ HR.out (below1 _ _) HT.out.2.1.2.2.2.1.2.2 HT.out.2.1.2.2.1.2.2 (RowsOk.ne HT.out.2.1)).mono ?_;rintro e w1 ⟨hb,hf⟩;obtain ⟨HA0,hbx⟩:=slots1 hb;have Bk:=hidK HA0;replace HB:=upB HB hbx;clear hb hbx HA0
 have hf2 : ∃ (v : Vd) (ea : Option Addr) (el ec : Nat) (r : Bool),e = .returned (.tuple #[.agg #[.string v.n,.int .i64 v.c,.string v.z,.string v.k,.bool v.x,.string v.m,.bool v.y,.slice ea el ec],.bool r]) ∧ TxRow w ea el ec v.zs ∧ el ≤ 8 ∧ v.m.size ≤ 9223372036854775807 ∧ ((∀ l,¬ (UseS c v l ∧ ¬ l = Um.ul 2 t)) ↔ ¬ ∃ u,IsBd c t u ∧ Busy c u):=by
  rcases hf with ⟨v,va,vl,vc,hbd,rfl,z0,z2,hvr⟩ | ⟨hno,rfl⟩
  ·obtain ⟨j,hj⟩:=hbd.at;have hok:=HT.out.2.1.2.2.1.2.1 j v hj;refine ⟨v,va,vl,vc,true,rfl,hvr,?_,?_,use_bd HT.out hbd⟩
   ·have h8 : v.zs.length = vl:=hvr.1;have h9:=(names_six hok.2.2.2.2.2.2).1
    omega
   ·rcases hok.2.2.2.2.1 with e | e
    ·rw [e];decide
    ·have:=e.2.1;omega
  ·exact ⟨vd0,none,0,0,false,rfl,⟨rfl,Nat.le_refl _,by omega,fun j x h => by simp [vd0] at h,.inl rfl⟩,by omega,by decide,use_no HT.out hno⟩
 obtain ⟨v,ea,el,ec,r,rfl,hvr,hv8,hm9,hu⟩:=hf2;have HVR:=hidK hvr;have HU:=hidK hu;clear hf hvr hu;obtain ⟨k0,k1,k2,k3,k4,k5⟩:=cs6 Bk.out;have ltk_1:=lt_of_some Bk.out;go_wp2_with fail;refine (idu_any ⟨a1,l1,y1,a2,l2,y2,a3,l3,y3,a4,l4,y4,a5,l5,y5⟩ c v ea el ec _ (HR.out.below (HB.out.trans ((below1 _ _).mono HB.out.size))) HT.out (HVR.out.below (HB.out.trans ((below1 _ _).mono HB.out.size))) hv8 hm9).mono ?_;rintro e w2 ⟨b,m,rfl,hH,hm1,hbl,hb⟩
 have hbl2 : w.heap.size + 1 ≤ b:=by have h1:=lt_of_some Bk.out;rw [size1] at hbl;omega
 have HH:=hidK hH;clear hH hbl;clear k0 k1 k2 k3 k4 k5 ltk_1;obtain ⟨HA0,hbx⟩:=slots1 hb;replace Bk:=upK Bk hbx;have Bv:=hidK HA0;replace HB:=upB HB hbx;clear hb hbx HA0;obtain ⟨W3,hdel,hH3,hg3⟩:=HH.out.del 2 t ul_wf2 (by unfold maxLen;omega) 0;have HH3:=hidK hH3;have HG3:=hidK hg3;clear hH3 hg3;have HK3:=hidK (blk_keep HG3.out Bk.out (by omega));have HB3:=hidK (map_below HG3.out HB.out (by omega));obtain ⟨k0,k1,k2,k3,k4,k5⟩:=cs6 Bk.out;obtain ⟨j0,j1,j2,j3,j4,j5⟩:=cs6 HK3.out;go_wp2_with fail
 go_loopw [25] (fun vi wr => ∃ (k : Nat),k ≤ l5 ∧ vi = .int .i64 k ∧ Hid (∃ n,n ≤ 100 + k ∧ Um.Has wr b n (fun l => (UseS c v l ∧ ¬ l = Um.ul 2 t) ∨ PoU c.ps t k l)) ∧ Hid (wr.heap[w.heap.size]? = some (.cells #[.slice a1 l1 y1,.slice a2 l2 y2,.slice a3 l3 y3,.slice a4 l4 y4,.slice a5 l5 y5,.int .i64 c.now] 36 (0,0))) ∧ Hid (Below w.heap.size w wr)) (fun vi _ => l5 - (intOf vi).toNat)
 case atStart => exact ⟨0,by omega,rfl,⟨m,by omega,HH3.out.to (fun l => ⟨.inl,fun h => h.elim id (fun ⟨i,p,h,_⟩ => by omega)⟩)⟩,HK3,HB3⟩
 case round =>
  clear HH3 HG3 HK3 HB3 hdel HH Bk HB k0 k1 k2 k3 k4 k5 j0 j1 j2 j3 j4 j5 Bv;obtain ⟨k,hk,rfl,hH1,hk1,hb1⟩:=hrel
  by_cases hlt : k < l5
  ·obtain ⟨b,o,x,rfl,hb,hx,hat⟩:=pd_at (HR.out.p.below hb1.out) hlt;obtain ⟨va,vl,vc,hvr,z0,z2,z4,c0,c1,c2,c3,c4,c5⟩:=pd_cells hat;have HXx:=hidK hx;have HTx:=hidK hvr;have HZx0:=hidK z0;have HZx2:=hidK z2;have HZx4:=hidK z4;clear hat hx z0 z2 z4 hvr
   have hk3 : (k : Int) < l5:=by omega
   obtain ⟨k0,k1,k2,k3,k4,k5⟩:=cs6 hk1.out;have ltk:=lt_of_some hk1.out;have hbw:=hb;clear hb;go_wp2_with fail;refine (icontains_any va vl vc x.zs t _ (HTx.out.below (below1 _ _))).mono ?_;rintro e w4 ⟨r2,rfl,hi,hb⟩;obtain ⟨HA0,hbx⟩:=slots1 hb;have Bx:=hidK HA0;have HI:=hidK hi;have hk2:=hidK ((hbx.block _ ltk).trans hk1.out);have hb2:=upB hb1 hbx;obtain ⟨n,hn,hH⟩:=hH1.out;have HH2:=hidK (hH.below hbx);clear hb hi HA0 k0 k1 k2 k3 k4 k5 ltk hH hbx c0 c1 c2 c3 c4 c5 hbw;obtain ⟨x0,x1,x2,x3,x4,x5⟩:=cs6 Bx.out;have ltx:=lt_of_some Bx.out
   cases r2
   ·go_wp2
    refine ⟨⟨k + 1,by omega,by go_num,⟨n,by omega,HH2.out.to (fun l => ?_)⟩,hk2,hb2⟩,by simp [intOf];omega⟩;rw [PoU.no HXx.out (fun h => by have h9:=HI.out.2 h;cases h9)]
   ·obtain ⟨cn,st,W2,W3,e1,e2,e3,e4,hH3,hg3⟩:=(HH2.out.keep (w':=w4.drew) rfl).bump (by unfold maxLen;omega) 1 x.n ul_wf1 (by unfold maxLen;have:=HZx0.out;omega);have e5:=entry64 e4;have HH3:=hidK hH3;have HG3:=hidK hg3;clear hH3 hg3 e4;go_wp2_with fail
    go_region
    all_goals (
     go_wp2
     refine ⟨⟨k + 1,by omega,by go_num,⟨n + 1,by omega,HH3.out.to (fun l => ?_)⟩,blk_keep HG3.out hk2.out (by omega),map_below HG3.out (Below.drewD hb2.out) (by omega)⟩,by simp [intOf];omega⟩
     rw [PoU.yes HXx.out (HI.out.1 (by first | trivial | rfl)),or_assoc])
  obtain rfl : k = l5:=by omega
  go_wp2
  go_ret;obtain ⟨n,hn,hH⟩:=hH1.out;refine ⟨_,n,_,rfl,hH,?_,hb1.out⟩;rw [← hl5];exact use_pods HU.out

def clmSt (c : Cl) (t : ByteArray) (i : Nat) : Prop:=(i = 2 ∧ hit Xd.n c.xs t = false) ∨ (i = 5 ∧ hit Xd.n c.xs t = true ∧ XBusy c t)
def clmOk (c : Cl) (t : ByteArray) : Prop:=hit Xd.n c.xs t = true ∧ ¬ XBusy c t

theorem ixst_any (d : Ad) (c : Cl) (t : ByteArray) (E : Nat → Addr) (w : World) (hr : ClRow w d c.raw) (hT : RightI c) (hG : Ers w E) (ht : t.size ≤ 1048576) :
  Calls Tryz.prog 36 #[.agg #[.slice d.a1 d.l1 d.c1,.slice d.a2 d.l2 d.c2,.slice d.a3 d.l3 d.c3,.slice d.a4 d.l4 d.c4,.slice d.a5 d.l5 d.c5,.int .i64 c.now],.string t] w (WhyI E (fun i => 2 ≤ i ∧ clmSt c t i) (clmOk c t) w):=by
 have HR:=hidK hr;have HT:=hidK hT;have HE:=hidK hG;have HB:=hidK (Below.refl w.heap.size w);clear hr hG hT
 go_enter Tryz.func36,Tryz.ntmps36
 go_wp2_with fail;refine (thexd_any d c.now c.xs t w _ HR.out.x (below1 _ _)).mono ?_;rintro e w1 ⟨hb,hf⟩;obtain ⟨HA0,hbx⟩:=slots1 hb;have Bk:=hidK HA0;replace HB:=upB HB hbx;clear hb hbx HA0
 rcases hf with ⟨hh,x,hx,hn,rfl,-⟩ | ⟨hh,rfl⟩
 rotate_left
 ·have HH:=hidK hh;clear hh;obtain ⟨k0,k1,k2,k3,k4,k5⟩:=cs6 Bk.out;have ltk_1:=lt_of_some Bk.out;have ev:=(HE.out.below HB.out).v2;have evl:=cell_lt ev
  go_wp2
  go_ret;exact ⟨HB.out.alloc HB.out.size _,.inl ⟨2,by decide,⟨by decide,.inl ⟨rfl,HH.out⟩⟩,rfl⟩⟩
 have HH:=hidK hh;clear hh hx hn;obtain ⟨k0,k1,k2,k3,k4,k5⟩:=cs6 Bk.out;have ltk_1:=lt_of_some Bk.out;go_wp2_with fail;refine (icu_any d c t _ (HR.out.below (HB.out.trans ((below1 _ _).mono HB.out.size))) HT.out ht).mono ?_;rintro e w2 ⟨b,m,S,rfl,hH,hS,hb⟩;obtain ⟨q,hq,hq0,hq8⟩:=hH.len 3;have HQ:=hidK (hq0.trans hS);clear hH hq0 hS hq8;clear k0 k1 k2 k3 k4 k5 ltk_1;obtain ⟨HA0,hbx⟩:=slots1 hb;replace Bk:=upK Bk hbx;have Bx:=hidK HA0;replace HB:=upB HB hbx;clear hb hbx HA0
 by_cases hz : q = 0
 ·have HK : Hid (clmOk c t):=⟨HH.out,HQ.out.1 hz⟩;subst hz
  go_wp2
  go_ret;exact ⟨HB.out,.inr ⟨HK.out,rfl⟩⟩
 ·have HK : Hid (clmSt c t 5):=.inr ⟨rfl,HH.out,Classical.byContradiction fun h => hz (HQ.out.2 h)⟩
  have hq1 : (0 : Int) < q:=by omega
  have ev:=(HE.out.below HB.out).v5;have evl:=cell_lt ev
  go_wp2
  go_ret;exact ⟨HB.out,.inl ⟨5,by decide,⟨by decide,HK.out⟩,rfl⟩⟩

theorem run_append_types (w : World) (t t' ty e e' : TypeId) (i : TypeInfo) (ht : Tryz.prog.underlying t = some (.slice e)) (ht' : Tryz.prog.underlying t' = some (.slice e')) (hi : Tryz.prog.info? e = some i) (a : Option Addr) (l c : Nat) (b : Value) : (Builtin.append_ #[t,t'] ty #[.slice a l c,b]).run Tryz.prog w = (Builtin.append_ #[t,t] ty #[.slice a l c,b]).run Tryz.prog w:=by
 simp [Builtin.append_,run_underlying ht,run_underlying ht',sizeOf,typeInfo,hi]
theorem wpList_append_two {w : World} {ops : Array Oper} {rest : List Oper} {o : Oper} {a : Act} {Q : Exit → Act → World → Prop} (hgd : o.guard = none) (s x : Operand) (t t' : TypeId)
  (ho : o.op = .call { callee:=.builtin .append,args:=#[s,x],argTypes:=#[t,t'] })
  (base : Nat) (e e' : TypeId) (i : TypeInfo) (z : Value) (size bytes : Nat) (ht : Tryz.prog.underlying t = some (.slice e)) (ht' : Tryz.prog.underlying t' = some (.slice e')) (hi : Tryz.prog.info? e = some i) (hz : i.zero = some z)
  (hsize : i.size = size) (hby : i.bytes = bytes) (hzs : z.cells.size = size) (hsz : 0 < size)
  (v : Value) (n : Nat) (xs : List Value) (hs : a.eval s = v) (hown : w.ownsRow base e size v n xs)
  (ad : Addr) (m c : Nat) (news : List Value) (hx : a.eval x = .slice (some ad) m c) (hl : news.length = m * size) (hnews : ∀ j u,news[j]? = some u → w.cell? (ad.add j) = some u) (h1 : ∀ u ∈ news,u.oneCell' = true)
  (h63 : n + m ≤ maxLen) (hbytes : (n + m) * bytes ≤ 140737488355328) (hbase : base ≤ w.heap.size)
  (h : ∀ v' w',w'.ownsRow base e size v' (n + m) (xs ++ news) → w.grownBy w' v.ownBlock → wpList Tryz.prog ops Q rest (a.put o.dst v') w') : wpList Tryz.prog ops Q (o :: rest) a w:=by
 refine wpList_plain hgd fun K hK => ?_;obtain ⟨v',w',hr,h2,h3,h4⟩:=run_append_own (P:=Tryz.prog) w base t o.type e i z size bytes ht hi hz hsize hby hzs hsz v n xs hown ad m c news hl hnews h1 h63 hbytes hbase
 obtain ⟨va,vl,vc,rfl⟩ : ∃ a l c,v = .slice a l c:=by
  rcases hown.2 with ⟨rfl,_⟩ | ⟨g,cap,cur,rfl,_⟩
  ·exact ⟨_,_,_,rfl⟩
  ·exact ⟨_,_,_,rfl⟩
 rw [← run_append_types w t t' o.type e e' i ht ht' hi] at hr;unfold Oper.wp execOp;simp only [ho,resolve,invoke,builtin,Sem.run_bind,Sem.run_pure,Result.andThen_ok,List.map_toArray,List.map_cons,List.map_nil,hs,hx,hr];exact hK _ _ (h v' w' h2 h3)
theorem run_copy_rec (w : World) (dT sT ty elem : TypeId) (g o dLen dCap : Nat) (a : Addr) (sLen sCap m : Nat) (cur : Array Value) (t : TypeId) (cs : List Value) (i : TypeInfo)
  (hu : Tryz.prog.underlying dT = some (.slice elem)) (hi : Tryz.prog.info? elem = some i) (hs : i.size = m)
  (hg : w.heap[g]? = some (.cells cur t (0,0))) (hn : cs.length = Nat.min sLen dLen * m)
  (hsrc : ∀ j v,cs[j]? = some v → w.cell? (a.add j) = some v) (hfit : o + cs.length ≤ cur.size) (h1 : ∀ v ∈ cs,v.oneCell' = true) :
  (Builtin.copy_ #[dT,sT] ty #[.slice (some ⟨g,o,none⟩) dLen dCap,.slice (some a) sLen sCap]).run Tryz.prog w =
   .ok (goInt (Nat.min sLen dLen)) (w.setRow g (cur.toList.take o ++ cs ++ cur.toList.drop (o + cs.length)).toArray):=by
 have hl:=run_loadCells_list (P:=Tryz.prog) w a cs hsrc;have hst:=run_storeCells_at Tryz.prog g o t cs 0 cur w hg (by simpa using hfit) h1;rw [hn] at hl
 simp [Builtin.copy_,run_underlying hu,Builtin.lenOf,Builtin.firstCells,sizeOf,typeInfo,hi,hs,hl,hst]
theorem wpList_copy_run (w : World) {ops : Array Oper} {rest : List Oper} {o : Oper} {a : Act} {Q : Exit → Act → World → Prop} (hgd : o.guard = none) (d s : Operand) (t t' : TypeId)
  (ho : o.op = .call { callee:=.builtin .copy,args:=#[d,s],argTypes:=#[t,t'] }) (v u : Value) (hd : a.eval d = v) (hs : a.eval s = u) {v' : Value} {w' : World}
  (hr : (Builtin.copy_ #[t,t'] o.type #[v,u]).run Tryz.prog w = .ok v' w') (h : wpList Tryz.prog ops Q rest (a.put o.dst v') w') : wpList Tryz.prog ops Q (o :: rest) a w:=by
 refine wpList_plain hgd fun K hK => ?_;unfold Oper.wp execOp;simp only [ho,resolve,invoke,builtin,Sem.run_bind,Sem.run_pure,Result.andThen_ok,List.map_toArray,List.map_cons,List.map_nil,hd,hs,hr];exact hK _ _ h
theorem ins_list {a b c m : Nat} {X ys cur c1 : List Value} (hX : cur.take b = X) (hc : cur.length = c) (h1 : a + m ≤ b) (h2 : b + m ≤ c) (hy : ys.length = m) (h : c1 = cur.take (a + m) ++ X.drop a ++ cur.drop (a + m + (X.drop a).length)) : (c1.take a ++ (ys ++ c1.drop (a + m))).take (b + m) = X.take a ++ ys ++ X.drop a:=by
 have hXl : X.length = b:=by rw [← hX,List.length_take];omega
 have e1 : c1.take a = X.take a:=by
  rw [h,List.append_assoc,List.take_append_of_le_length (by rw [List.length_take];omega),List.take_take,← hX,List.take_take]
  congr 1
  omega
 have e2 : c1.drop (a + m) = X.drop a ++ cur.drop (a + m + (X.drop a).length):=by
  rw [h,List.append_assoc];exact List.drop_left' (by rw [List.length_take];omega)
 rw [e1,e2,← List.append_assoc,← List.append_assoc];exact List.take_left' (by simp only [List.length_append,List.length_take,List.length_drop];omega)
theorem grow_list {a b m : Nat} {X ys R R2 S : List Value} (hX : R.take a = X.take a) (hXl : X.length = b) (h1 : a ≤ b) (hy : ys.length = m) (h : R2 = R.take a ++ ys ++ S) (T : List Value) : (R2.take (a + m) ++ X.drop a ++ T).take (b + m) = X.take a ++ ys ++ X.drop a:=by
 have e1 : R2.take (a + m) = X.take a ++ ys:=by
  rw [h,hX];exact List.take_left' (by simp only [List.length_append,List.length_take];omega)
 rw [e1];exact List.take_left' (by simp only [List.length_append,List.length_take,List.length_drop];omega)
theorem grown_setRow (w : World) (g : Nat) (cs : Array Value) : w.grownBy (w.setRow g cs) (some g):=⟨rfl,rfl,rfl,by simp [World.setRow],fun k _ h => setRow_other w g k cs (fun e => h (by rw [e]))⟩
theorem step_copy_run {ops : Array Oper} {o : Oper} {a : Act} {w : World} {K : Act → World → Prop} {Q : Exit → Act → World → Prop} {E : Prop}
  (hg : o.guard = none) (d x : Operand) (dT sT : TypeId) (hop : o.op = Op.call { callee:=Callee.builtin Builtin.copy,args:=#[d,x],argTypes:=#[dT,sT] })
  (v u : Value) (hd : a.eval d = v) (hx : a.eval x = u) {v' : Value} {w' : World} (hr : (Builtin.copy_ #[dT,sT] o.type #[v,u]).run Tryz.prog w = .ok v' w') (hK : K (a.put o.dst v') w') :
  if Region.wanted o (yielded ops a.tmps) = true then Oper.wp Tryz.prog o a w K Q else E:=by
 have hw : Region.wanted o (yielded ops a.tmps) = true:=by simp [Region.wanted,hg]
 rw [if_pos hw];unfold Oper.wp
 simp [execOp,hop,resolve,invoke,builtin,hd,hx,hr,Result.andThen]
 exact hK

def inAt {α : Type} (p : Nat) (x : α) (xs : List α) : List α:=xs.take p ++ [x] ++ xs.drop p
theorem inAt_len {α : Type} {p : Nat} {x : α} {xs : List α} (h : p ≤ xs.length) : (inAt p x xs).length = xs.length + 1:=by
 simp only [inAt,List.length_append,List.length_take,List.length_drop,List.length_cons,List.length_nil]
 omega
theorem inAt_map {α β : Type} (f : α → β) (p : Nat) (x : α) (xs : List α) : (inAt p x xs).map f = inAt p (f x) (xs.map f):=by simp [inAt,List.map_take,List.map_drop]
theorem inAt_at {α : Type} {p : Nat} {x : α} {xs : List α} (h : p ≤ xs.length) (j : Nat) (hj : j < xs.length + 1) : (inAt p x xs)[j]? = (xs ++ [x])[if j < p then j else if j = p then xs.length else j - 1]?:=by
 unfold inAt
 by_cases h1 : j < p
 ·rw [if_pos h1,List.append_assoc,List.getElem?_append_left (by rw [List.length_take];omega),List.getElem?_append_left (by omega),List.getElem?_take,if_pos h1]
 ·rw [if_neg h1]
  by_cases h2 : j = p
  ·subst h2
   have hl : (xs.take j).length = j:=by rw [List.length_take,Nat.min_eq_left h]
   have e1 : (xs.take j ++ [x] ++ xs.drop j)[j]? = some x:=by
    rw [List.append_assoc,List.getElem?_append_right (by omega),hl,Nat.sub_self]
    rfl
   rw [e1,if_pos rfl]
   simp
  ·rw [if_neg h2,List.getElem?_append_right (by simp only [List.length_append,List.length_take,List.length_cons,List.length_nil];omega),List.getElem?_append_left (by omega),List.getElem?_drop]
   congr 1
   simp only [List.length_append,List.length_take,List.length_cons,List.length_nil]
   omega
theorem inAt_flat {α : Type} {m p : Nat} {vss : List (List α)} (h : ∀ (j : Nat) vs,vss[j]? = some vs → vs.length = m) (hp : p ≤ vss.length) (vs : List α) : (inAt p vs vss).flatten = vss.flatten.take (p * m) ++ vs ++ vss.flatten.drop (p * m):=by
 have hl : ((vss.take p).flatten).length = p * m:=by
  rw [flat_len (m:=m) (fun j v hv => by
   rw [List.getElem?_take] at hv
   split at hv
   ·exact h j v hv
   ·cases hv),List.length_take,Nat.min_eq_left hp]
 have e : vss.flatten = (vss.take p).flatten ++ (vss.drop p).flatten:=by rw [← List.flatten_append,List.take_append_drop]
 have e1 : vss.flatten.take (p * m) = (vss.take p).flatten:=by rw [e];exact List.take_left' hl
 have e2 : vss.flatten.drop (p * m) = (vss.drop p).flatten:=by rw [e];exact List.drop_left' hl
 rw [e1,e2]
 simp [inAt]
theorem VRecs.ins {w : World} {S : Nat → Prop} {m : Nat} {rs : List (List Fv)} {vss : List (List Value)} {H : Nat → Nat → Nat} (h : VRecs w S m rs vss H) {r : List Fv} {vs : List Value} {hh : Nat → Nat} (hr : r.length = m) (hvs : vs.length = m) (hc : ∀ (i : Nat) f,r[i]? = some f → ∃ v,vs[i]? = some v ∧ f.Fr w (hh i) S v)
  (hn : ∀ (i : Nat) zs,r[i]? = some (.l zs) → zs ≠ [] → ∀ (j : Nat) r' (i' : Nat) zs',rs[j]? = some r' → r'[i']? = some (.l zs') → zs' ≠ [] → ¬ H j i' = hh i)
  (h1 : ∀ (i i' : Nat) zs zs',r[i]? = some (.l zs) → zs ≠ [] → r[i']? = some (.l zs') → zs' ≠ [] → i = i') {p : Nat} (hp : p ≤ rs.length) : ∃ H',VRecs w S m (inAt p r rs) (inAt p vs vss) H':=by
 have hl:=h.len;have e1 : (inAt p r rs).length = rs.length + 1:=inAt_len hp;have e2 : (inAt p vs vss).length = vss.length + 1:=inAt_len (by omega);refine ⟨_,(h.push hr hvs hc hn h1).sel (fun j => if j < p then j else if j = p then rs.length else j - 1) (by omega) (fun j hj => inAt_at hp j (by omega)) (fun j hj => ?_) (fun j j' hj hj' e => ?_)⟩
 ·have:=inAt_at (x:=vs) (xs:=vss) (p:=p) (by omega) j (by omega);rw [hl] at this;exact this
 ·split at e <;> split at e
  ·exact e
  all_goals (try split at e) <;> (try split at e) <;> omega

theorem insvd_any (a : Option Addr) (n cap i base vb : Nat) (X ys : List Value) (w : World) (ho : w.ownsRow base 63 8 (.slice a n cap) n X) (hn : n ≤ 8) (hin : i ≤ n) (hbs : base ≤ w.heap.size) (hy : w.heap[vb]? = some (.cells ys.toArray 63 (0,0))) (hyl : ys.length = 8) (hy1 : ∀ u ∈ ys,u.oneCell' = true) (hX1 : ∀ u ∈ X,u.oneCell' = true) (hne : ∀ g,a = some ⟨g,0,none⟩ → ¬ vb = g) :
  Calls Tryz.prog 116 #[.slice a n cap,.int .i64 i,.slice (some ⟨vb,0,none⟩) 1 1] w fun e w' => ∃ v',e = .returned v' ∧ w'.ownsRow base 63 8 v' (n + 1) (X.take (i * 8) ++ ys ++ X.drop (i * 8)) ∧ w.grownBy w' ((.slice a n cap : Value).ownBlock):=by
 obtain ⟨i0,hi,hz0,hz1,hz2⟩:=info_parts infovd;have HI0:=hidK (And.intro hi (And.intro hz0 (And.intro hz1 hz2)));clear hi hz0 hz1 hz2;have hXl : X.length = n * 8:=ho.1
 have hnc : n ≤ cap ∧ cap ≤ 9223372036854775807:=by
  rcases ho.2 with ⟨h1,h2⟩ | ⟨g,cp,cur,h1,_,_,h4,h5,_⟩
  ·cases h1;omega
  ·cases h1;unfold maxLen at h5;omega
 have hyn : ∀ (j : Nat) u,ys[j]? = some u → w.cell? ((⟨vb,0,none⟩ : Addr).add j) = some u:=fun j u hu => by
  rw [Addr.add_lit,cellK hy,Nat.zero_add]
  simpa using hu
 have HYN:=hidK hyn;have HO:=hidK ho;have HY:=hidK hy;have hvl : vb < w.heap.size:=lt_of_some hy;have HX1:=hidK hX1;have HY1:=hidK hy1;clear hyn ho hy hX1 hy1
 by_cases hie : i = n
 ·subst hie
  have e1 : X.take (i * 8) ++ ys ++ X.drop (i * 8) = X ++ ys:=by rw [List.take_of_length_le (by omega),List.drop_of_length_le (by omega),List.append_nil]
  rw [e1];clear e1;have hc0 : i ≤ cap:=hnc.1;have hq : cap = i ∨ ¬ cap = i:=Classical.em _
  rcases hq with rfl | hcap
  ·go_enter Tryz.func116,Tryz.ntmps116
   go_wp2_with (first | (at_builtin;refine wpList_append_two rfl _ _ 92 32 rfl base 63 63 i0 (.agg #[.string ⟨#[]⟩,.int .i64 0,.string ⟨#[]⟩,.string ⟨#[]⟩,.bool false,.string ⟨#[]⟩,.bool false,.slice none 0 0]) 8 112 Tryz.underlying92 Tryz.underlying32 HI0.out.1 HI0.out.2.1 HI0.out.2.2.1 HI0.out.2.2.2 rfl (by decide) _ _ _ rfl HO.out ⟨vb,0,none⟩ 1 1 ys rfl (by omega) HYN.out HY1.out (by unfold maxLen;omega) (by omega) hbs ?_))
   intro v' w' h1 h2;have H1:=hidK h1;have H2:=hidK h2;clear h1 h2
   go_wp2
   go_ret;exact ⟨v',rfl,H1.out,H2.out⟩
  ·go_enter Tryz.func116,Tryz.ntmps116
   go_wp2_with (first | (at_builtin;refine wpList_append_two rfl _ _ 92 32 rfl base 63 63 i0 (.agg #[.string ⟨#[]⟩,.int .i64 0,.string ⟨#[]⟩,.string ⟨#[]⟩,.bool false,.string ⟨#[]⟩,.bool false,.slice none 0 0]) 8 112 Tryz.underlying92 Tryz.underlying32 HI0.out.1 HI0.out.2.1 HI0.out.2.2.1 HI0.out.2.2.2 rfl (by decide) _ _ _ rfl HO.out ⟨vb,0,none⟩ 1 1 ys rfl (by omega) HYN.out HY1.out (by unfold maxLen;omega) (by omega) hbs ?_))
   intro v' w' h1 h2;have H1:=hidK h1;have H2:=hidK h2;clear h1 h2
   go_wp2
   go_ret;exact ⟨v',rfl,H1.out,H2.out⟩
 have hil : i < n:=by omega
 obtain ⟨g,cur,rfl,hbg,hg,hcs,htk⟩ : ∃ g cur,a = some ⟨g,0,none⟩ ∧ base ≤ g ∧ w.heap[g]? = some (.cells cur 63 (0,0)) ∧ cur.size = cap * 8 ∧ cur.toList.take (n * 8) = X:=by
  rcases HO.out.2 with ⟨h1,h2⟩ | ⟨g,cp,cur,h1,h2,h3,h4,h5,h6,h7⟩
  ·cases h1;omega
  ·cases h1;exact ⟨g,cur,rfl,h2,h3,h6,h7⟩
 have hvg : ¬ vb = g:=hne g rfl;clear hne
 have hcell : ∀ (j : Nat) u,X[j]? = some u → w.cell? ⟨g,j,none⟩ = some u:=fun j u hj => by
  rw [cellK hg];rw [← htk,List.getElem?_take] at hj
  split at hj
  ·simpa using hj
  ·cases hj
 have hdl : (X.drop (i * 8)).length = (n - i) * 8:=by rw [List.length_drop,hXl,Nat.sub_mul]
 have hgl : g < w.heap.size:=lt_of_some hg
 by_cases hroom : n + 1 ≤ cap
 ·have hcp1 : ∀ ty dc sc,(Builtin.copy_ #[92,92] ty #[.slice (some ⟨g,(i + 1) * 8,none⟩) (n - i) dc,.slice (some ⟨g,i * 8,none⟩) (n + 1 - i) sc]).run Tryz.prog w.drew = .ok (goInt (Nat.min (n + 1 - i) (n - i))) (w.drew.setRow g (cur.toList.take ((i + 1) * 8) ++ X.drop (i * 8) ++ cur.toList.drop ((i + 1) * 8 + (X.drop (i * 8)).length)).toArray):=fun ty dc sc =>
   run_copy_rec w.drew 92 92 ty 63 g ((i + 1) * 8) (n - i) dc ⟨g,i * 8,none⟩ (n + 1 - i) sc 8 cur 63 (X.drop (i * 8)) i0 Tryz.underlying92 HI0.out.1 HI0.out.2.2.1 hg (by rw [hdl];simp only [Nat.min_def];split <;> omega) (fun j u hj => by
    rw [List.getElem?_drop] at hj;rw [Addr.add_lit]
    exact hcell _ u hj) (by rw [hdl,hcs];omega) (fun u hu => HX1.out u (List.mem_of_mem_drop hu))
  obtain ⟨cur1,hcur1⟩ : ∃ c1 : List Value,c1 = cur.toList.take ((i + 1) * 8) ++ X.drop (i * 8) ++ cur.toList.drop ((i + 1) * 8 + (X.drop (i * 8)).length):=⟨_,rfl⟩;rw [← hcur1] at hcp1
  have hc1l : cur1.length = cap * 8:=by rw [hcur1];simp only [List.length_append,List.length_take,List.length_drop,hXl,Array.length_toList,hcs];omega
  obtain ⟨W1,hW1⟩ : ∃ W1,W1 = w.drew.setRow g cur1.toArray:=⟨_,rfl⟩;rw [← hW1] at hcp1
  have hg1 : W1.heap[g]? = some (.cells cur1.toArray 63 (0,0)):=by rw [hW1];exact setRow_heap w.drew g _ _ 63 _ hg
  have hv1 : W1.heap[vb]? = w.heap[vb]?:=by rw [hW1];exact setRow_other w.drew g vb _ hvg
  have hcp2 : ∀ ty dc,(Builtin.copy_ #[92,32] ty #[.slice (some ⟨g,i * 8,none⟩) (n + 1 - i) dc,.slice (some ⟨vb,0,none⟩) 1 1]).run Tryz.prog W1 = .ok (goInt (Nat.min 1 (n + 1 - i))) (W1.setRow g (cur1.take (i * 8) ++ ys ++ cur1.drop (i * 8 + ys.length)).toArray):=fun ty dc => by
   have:=run_copy_rec W1 92 32 ty 63 g (i * 8) (n + 1 - i) dc ⟨vb,0,none⟩ 1 1 8 cur1.toArray 63 ys i0 Tryz.underlying92 HI0.out.1 HI0.out.2.2.1 hg1 (by rw [hyl];simp only [Nat.min_def];split <;> omega) (fun j u hj => by
    rw [Addr.add_lit,cellK (hv1.trans HY.out),Nat.zero_add]
    simpa using hj) (by simp only [List.size_toArray];rw [hc1l,hyl];omega) HY1.out
   simpa using this
  have hov : ∀ lb cb,(callFunc 151 #[.slice (some ⟨vb,0,none⟩) 1 1,.slice (some ⟨g,(i + 1) * 8,none⟩) lb cb]).run Tryz.prog w = .ok (.value (.bool false)) w:=fun lb cb => by
   rw [run_callFunc_extern Tryz.func151 (by kernel_rfl) (by kernel_rfl) (by kernel_rfl) (e:=Extern.SlicesOverlaps.overlaps #[32,32] #[4]) (by kernel_rfl),
    Lib.run_overlaps_apart w 32 4 63 Tryz.underlying32 8 (fun w => by kernel_rfl) ⟨vb,0,none⟩ ⟨g,(i + 1) * 8,none⟩ 1 1 lb cb hvg 63 63 ys.toArray.size cur.size (by simp [World.shape?,HY.out]) (by simp [World.shape?,hg]) (Nat.ne_of_gt (by rw [hcs];omega)) (froK HY.out _) (froK HY.out _)]
   rfl
  have hb2 : ¬ cap = i + 1:=by omega
  have hb4 : ¬ cap = i:=by omega
  have hb5 : ¬ ((i : Int) = (n : Int)):=by omega
  have hb6 : ¬ ((cap : Int) < (n : Int) + 1):=by omega
  have mixed : Tryz.prog.follows .mixedOrders = true:=by kernel_rfl
  have hw1 : IntKind.i64.wrap ((i : Int) + 1) = (i : Int) + 1:=by rw [IntKind.wrap_i64];omega
  have hb1 : (0 : Int) ≤ (i : Int) + 1:=by omega
  have hin : i ≤ n:=by omega
  have htn : ((i : Int) + 1).toNat = i + 1:=by omega
  have hb3 : (i : Int) ≤ (n : Int) + 1:=by omega
  have u0:=run_underlying Tryz.underlying92;have HG:=hidK hg;have HG1:=hidK hg1;have HW1:=hidK hW1;have HC1:=hidK hcur1;have HTK:=hidK htk;clear hg hg1 hW1 hcur1 htk hv1 hcell hdl hie
  go_enter Tryz.func116,Tryz.ntmps116
  go_wp2_with (simp only [hov])
  go_region_law_o (refine step_copy_run rfl _ _ 92 92 rfl _ _ (by simp [Act.eval,Act.put]) (by simp [Act.eval,Act.put]) (hcp1 (3) (cap - (i + 1)) (cap - i)) ?_)
  go_wp2_with (at_builtin;refine wpList_copy_run _ rfl _ _ 92 32 rfl _ _ rfl rfl (hcp2 _ _) ?_)
  go_ret;refine ⟨_,rfl,⟨?_,Or.inr ⟨g,cap,(cur1.take (i * 8) ++ (ys ++ cur1.drop (i * 8 + 8))).toArray,rfl,hbg,setRow_heap W1 g _ _ _ _ HG1.out,hroom,by unfold maxLen;omega,?_,?_⟩⟩,?_⟩
  ·simp only [List.length_append,List.length_take,List.length_drop]
   omega
  ·simp only [List.size_toArray,List.length_append,List.length_take,List.length_drop,hc1l]
   omega
  ·have e:=ins_list (a:=i * 8) (b:=n * 8) (c:=cap * 8) (m:=8) (c1:=cur1) HTK.out (by rw [Array.length_toList,hcs]) (by omega) (by omega) hyl (by rw [HC1.out,show (i + 1) * 8 = i * 8 + 8 by omega]);rw [show (n + 1) * 8 = n * 8 + 8 by omega]
   simpa using e
  ·have h1 : w.grownBy w.drew (some g):=⟨rfl,rfl,rfl,Nat.le_refl _,fun _ _ _ => rfl⟩
   have h2 : w.drew.grownBy W1 (some g):=by rw [HW1.out];exact grown_setRow w.drew g _
   exact (h1.trans h2).trans (grown_setRow W1 g _)
 have hcn : cap = n:=by omega
 subst hcn;obtain ⟨N,hN⟩ : ∃ N,N = w.heap.size:=⟨_,rfl⟩;obtain ⟨G,hG⟩ : ∃ G,G = grownCap w (cap + 1) cap 63:=⟨_,rfl⟩;obtain ⟨ROW,hROW⟩ : ∃ R : Array Value,R = (X.take (i * 8)).toArray ++ Builtin.zeroCells (.agg #[.string ⟨#[]⟩,.int .i64 0,.string ⟨#[]⟩,.string ⟨#[]⟩,.bool false,.string ⟨#[]⟩,.bool false,.slice none 0 0] : Value).cells (cap + 1 - i) ++ Builtin.zeroCells (.agg #[.string ⟨#[]⟩,.int .i64 0,.string ⟨#[]⟩,.string ⟨#[]⟩,.bool false,.string ⟨#[]⟩,.bool false,.slice none 0 0] : Value).cells (G - (cap + 1)):=⟨_,rfl⟩;obtain ⟨W1,hW1⟩ : ∃ W1,W1 = w.drew.alloc (.cells ROW 63):=⟨_,rfl⟩
 have hGn : cap + 1 ≤ G:=by rw [hG];exact grownCap_ge w _ _ _
 have hG63 : G ≤ 9223372036854775807:=by
  have:=grownCap_le_maxLen w (cap + 1) cap 63 (by unfold maxLen;omega);rw [← hG] at this;unfold maxLen at this
  omega
 have hRs : ROW.size = G * 8:=by
  rw [hROW];simp only [Array.size_append,List.size_toArray,List.length_take,size_zeroCells,hXl];rw [show (.agg #[.string ⟨#[]⟩,.int .i64 0,.string ⟨#[]⟩,.string ⟨#[]⟩,.bool false,.string ⟨#[]⟩,.bool false,.slice none 0 0] : Value).cells.size = 8 from rfl]
  omega
 have hRt : ROW.toList.take (i * 8) = X.take (i * 8):=by
  rw [hROW,Array.toList_append,Array.toList_append,List.append_assoc];exact List.take_left' (by rw [List.length_take];omega)
 have hrz : ∀ ty,(Builtin.append_ #[92,3] ty #[.slice (some ⟨g,0,none⟩) i cap,.int .i64 ((cap : Int) + 1 - (i : Int))]).run Tryz.prog w = .ok (.slice (some ⟨N,0,none⟩) (cap + 1) G) W1:=fun ty => by
  have hold : (Builtin.firstCells i0.size i (.slice (some ⟨g,0,none⟩) i cap)).run Tryz.prog w.drew = .ok (X.take (i * 8)).toArray w.drew:=by
   rw [HI0.out.2.2.1]
   exact run_firstCells_some w.drew 8 i ⟨g,0,none⟩ i cap (X.take (i * 8)) (by rw [List.length_take];omega) (fun j v hj => by
    rw [Addr.add_lit,Nat.zero_add];rw [List.getElem?_take] at hj
    split at hj
    ·exact hcell j v hj
    ·cases hj)
  have h:=Lib.run_append_grow_zeros w 92 3 ty 63 i0 _ .i64 .i64 Tryz.underlying92 Tryz.underlying3 HI0.out.1 HI0.out.2.1 (some ⟨g,0,none⟩) i cap (X.take (i * 8)) hold (cap + 1 - i) (by omega) (by rw [HI0.out.2.2.1];decide) (by omega) (by omega) (by rw [HI0.out.2.2.2];omega) (by rw [HI0.out.2.2.2];exact growslice_fits (by omega) (by omega));rw [show i + (cap + 1 - i) = cap + 1 by omega,← hG,← hROW,← hW1,← hN] at h;rw [show (cap : Int) + 1 - (i : Int) = ((cap + 1 - i : Nat) : Int) by omega];exact h
 have hgN : W1.heap[N]? = some (.cells ROW 63 (0,0)):=by rw [hW1,hN];exact Go.heap_alloc_new w.drew _
 have hg1 : W1.heap[g]? = w.heap[g]?:=by rw [hW1];exact Go.heap_alloc_old w.drew _ hgl
 have hv1 : W1.heap[vb]? = w.heap[vb]?:=by rw [hW1];exact Go.heap_alloc_old w.drew _ hvl
 obtain ⟨R2,hR2⟩ : ∃ R2 : List Value,R2 = ROW.toList.take (i * 8) ++ ys ++ ROW.toList.drop (i * 8 + ys.length):=⟨_,rfl⟩;obtain ⟨W2,hW2⟩ : ∃ W2,W2 = W1.setRow N R2.toArray:=⟨_,rfl⟩
 have hcpA : ∀ ty dc,(Builtin.copy_ #[92,32] ty #[.slice (some ⟨N,i * 8,none⟩) (cap + 1 - i) dc,.slice (some ⟨vb,0,none⟩) 1 1]).run Tryz.prog W1 = .ok (goInt (Nat.min 1 (cap + 1 - i))) W2:=fun ty dc => by
  rw [hW2,hR2]
  exact run_copy_rec W1 92 32 ty 63 N (i * 8) (cap + 1 - i) dc ⟨vb,0,none⟩ 1 1 8 ROW 63 ys i0 Tryz.underlying92 HI0.out.1 HI0.out.2.2.1 hgN (by rw [hyl];simp only [Nat.min_def];split <;> omega) (fun j u hj => by
   rw [Addr.add_lit,cellK (hv1.trans HY.out),Nat.zero_add]
   simpa using hj) (by rw [hRs,hyl];omega) HY1.out
 have hR2l : R2.length = G * 8:=by
  rw [hR2];simp only [List.length_append,List.length_take,List.length_drop,Array.length_toList,hRs,hyl]
  omega
 have hgN2 : W2.heap[N]? = some (.cells R2.toArray 63 (0,0)):=by rw [hW2];exact setRow_heap W1 N _ _ 63 _ hgN
 have hgn : ¬ g = N:=by omega
 have hg2 : W2.heap[g]? = w.heap[g]?:=by rw [hW2,setRow_other W1 N g _ hgn];exact hg1
 obtain ⟨R3,hR3⟩ : ∃ R3 : List Value,R3 = R2.take ((i + 1) * 8) ++ X.drop (i * 8) ++ R2.drop ((i + 1) * 8 + (X.drop (i * 8)).length):=⟨_,rfl⟩;obtain ⟨W3,hW3⟩ : ∃ W3,W3 = W2.drew.setRow N R3.toArray:=⟨_,rfl⟩
 have hcpB : ∀ ty dc sc,(Builtin.copy_ #[92,92] ty #[.slice (some ⟨N,(i + 1) * 8,none⟩) (cap - i) dc,.slice (some ⟨g,i * 8,none⟩) (cap - i) sc]).run Tryz.prog W2.drew = .ok (goInt (Nat.min (cap - i) (cap - i))) W3:=fun ty dc sc => by
  have:=run_copy_rec W2.drew 92 92 ty 63 N ((i + 1) * 8) (cap - i) dc ⟨g,i * 8,none⟩ (cap - i) sc 8 R2.toArray 63 (X.drop (i * 8)) i0 Tryz.underlying92 HI0.out.1 HI0.out.2.2.1 hgN2 (by rw [hdl];simp only [Nat.min_def];split <;> omega) (fun j u hj => by
   rw [List.getElem?_drop] at hj;have hc:=hcell _ u hj;rw [Addr.add_lit];rw [← hc]
   exact World.cell?_of_block (w:=w) (w':=W2.drew) hg2) (by rw [hdl,List.size_toArray,hR2l];omega) (fun u hu => HX1.out u (List.mem_of_mem_drop hu))
  rw [hW3,hR3]
  simpa only [List.toList_toArray] using this
 have hW3o : ∀ k,¬ k = N → W3.heap[k]? = W1.heap[k]?:=fun k hk => by rw [hW3,setRow_other W2.drew N k _ hk];exact (congrArg (fun z : World => z.heap[k]?) hW2).trans (setRow_other W1 N k _ hk)
 have hfin : w.grownBy W3 (some g):=by
  have h0 : w.grownBy w.drew (some g):=⟨rfl,rfl,rfl,Nat.le_refl _,fun _ _ _ => rfl⟩
  have h1 : w.grownBy W1 (some g):=by rw [hW1];exact h0.trans (World.grownBy_alloc w.drew _ _)
  refine ⟨?_,?_,?_,?_,fun k hk hkg => (hW3o k (by omega)).trans (h1.block k hk hkg)⟩
  ·rw [hW3,hW2];exact h1.os
  ·rw [hW3,hW2];exact h1.tape
  ·rw [hW3,hW2];exact h1.output
  ·rw [hW3,hW2];exact Nat.le_trans h1.size (by simp [World.setRow])
 have hrow : W3.ownsRow base 63 8 (.slice (some ⟨N,0,none⟩) (cap + 1) G) (cap + 1) (X.take (i * 8) ++ ys ++ X.drop (i * 8)):=by
  refine ⟨?_,Or.inr ⟨N,G,R3.toArray,rfl,by omega,by rw [hW3];exact setRow_heap W2.drew N _ _ 63 _ hgN2,hGn,by unfold maxLen;omega,?_,?_⟩⟩
  ·simp only [List.length_append,List.length_take,List.length_drop]
   omega
  ·rw [hR3];simp only [List.size_toArray,List.length_append,List.length_take,List.length_drop,hR2l]
   omega
  ·have e:=grow_list (a:=i * 8) (b:=cap * 8) (m:=8) (R2:=R2) hRt hXl (by omega) hyl hR2 (R2.drop ((i + 1) * 8 + (X.drop (i * 8)).length));rw [hR3,show (cap + 1) * 8 = cap * 8 + 8 by omega,show (i + 1) * 8 = i * 8 + 8 by omega];rw [show (i + 1) * 8 = i * 8 + 8 by omega] at e
   simpa using e
 have hGi : ¬ G = i:=by omega
 have hGim : ¬ G = i + 1:=by omega
 have hci : ¬ cap = i:=by omega
 have hz2 : ¬ ((i : Int) = (cap : Int)):=by omega
 have hz3 : (cap : Int) < (cap : Int) + 1:=by omega
 have mixed : Tryz.prog.follows .mixedOrders = true:=by kernel_rfl
 have hw1 : IntKind.i64.wrap ((i : Int) + 1) = (i : Int) + 1:=by rw [IntKind.wrap_i64];omega
 have hb1 : (0 : Int) ≤ (i : Int) + 1:=by omega
 have hin : i ≤ cap:=by omega
 have htn : ((i : Int) + 1).toNat = i + 1:=by omega
 have hb3 : (i : Int) ≤ (cap : Int):=by omega
 have u0:=run_underlying Tryz.underlying92;have HF:=hidK (And.intro hrow hfin);clear hN hrow hfin hW3o hW3 hW2 hR3 hg2 hgN2 hR2l hR2 hv1 hg1 hgN hRt hRs hW1 hROW hG hcell hdl hie hg htk hcs HO
 go_enter Tryz.func116,Tryz.ntmps116
 go_wp2_with (first
  | (at_builtin;refine Lib.wpList_append_run _ rfl _ _ _ _ rfl _ _ rfl rfl _ _ (hrz _) ?_)
  | (at_builtin;refine wpList_copy_run _ rfl _ _ 92 32 rfl _ _ rfl rfl (hcpA _ _) ?_))

 go_region_law_o (refine step_copy_run rfl _ _ 92 92 rfl _ _ (by simp [Act.eval,Act.put]) (by simp [Act.eval,Act.put]) (hcpB 3 (G - (i + 1)) (cap - i)) ?_)
 go_wp2
 go_ret;exact ⟨_,rfl,HF.out.1,HF.out.2⟩

theorem clonevd_any (a : Option Addr) (n cap : Nat) (X : List Value) (w : World) (hn : n ≤ 8) (hXl : X.length = n * 8) (hX1 : ∀ u ∈ X,u.oneCell' = true) (hXc : ∀ (j : Nat) u,X[j]? = some u → ∃ g,a = some ⟨g,0,none⟩ ∧ w.cell? ⟨g,j,none⟩ = some u) :
  Calls Tryz.prog 117 #[.slice a n cap] w fun e w' => ∃ a' c',e = .returned (.slice a' n c') ∧ w'.ownsRow w.heap.size 63 8 (.slice a' n c') n X ∧ Below w.heap.size w w':=by
 obtain ⟨i0,hi,hz0,hz1,hz2⟩:=info_parts infovd;have HI0:=hidK (And.intro hi (And.intro hz0 (And.intro hz1 hz2)));clear hi hz0 hz1 hz2;have HX1:=hidK hX1;have HXC:=hidK hXc;have heq : ∀ w : World,(binOp .eql 92 (.slice a n cap) (.slice none 0 0)).run Tryz.prog w = .ok (.bool a.isNone) w:=fun w => Lib.run_eql_slice_nil w 92 63 a n cap 0 0 Tryz.underlying92;clear hX1 hXc
 cases a with
 | none =>
  obtain rfl : X = []:=by
   rcases X with _ | ⟨u,X⟩
   ·rfl
   ·obtain ⟨g,e,_⟩:=HXC.out 0 u rfl
    cases e
  obtain rfl : n = 0:=by simp at hXl;omega
  go_enter Tryz.func117,Tryz.ntmps117
  go_wp2
  go_ret;exact ⟨none,0,rfl,World.ownsRow_nil _ _ _ _,Below.refl _ _⟩
 | some ad =>
  obtain ⟨ab,ao,asp⟩:=ad
  have hnew : ∀ (j : Nat) u,X[j]? = some u → (w.alloc (.cells #[] 63)).cell? ((⟨ab,ao,asp⟩ : Addr).add j) = some u:=fun j u hu => by
   obtain ⟨g,e,hc⟩:=HXC.out j u hu
   cases e
   rw [Addr.add_lit,Nat.zero_add];have hlt:=cell_lt hc;rw [← hc];exact World.cell?_of_block (heap_alloc_old w _ hlt)
  have HN:=hidK hnew;have HO : Hid ((w.alloc (.cells #[] 63)).ownsRow w.heap.size 63 8 (.slice (some ⟨w.heap.size,0,none⟩) 0 0) 0 []):=World.ownsRow_made w #[] 0 (Nat.le_refl _) (Nat.zero_le _) (by simp);clear hnew HXC
  go_enter Tryz.func117,Tryz.ntmps117
  go_wp2_with (at_builtin;refine wpList_append_two rfl _ _ 92 92 rfl w.heap.size 63 63 i0 (.agg #[.string ⟨#[]⟩,.int .i64 0,.string ⟨#[]⟩,.string ⟨#[]⟩,.bool false,.string ⟨#[]⟩,.bool false,.slice none 0 0]) 8 112 Tryz.underlying92 Tryz.underlying92 HI0.out.1 HI0.out.2.1 HI0.out.2.2.1 HI0.out.2.2.2 rfl (by decide) _ _ _ rfl HO.out ⟨ab,ao,asp⟩ n cap X rfl hXl HN.out HX1.out (by unfold maxLen;omega) (by omega) (by simp) ?_)
  intro v' w' h1 h2
  obtain ⟨a',c',rfl⟩ : ∃ a' c',v' = .slice a' n c':=by
   rcases h1.2 with ⟨rfl,h0⟩ | ⟨g,cp,cu,rfl,_⟩
   ·exact ⟨none,0,by rw [h0]⟩
   ·exact ⟨_,_,rfl⟩
  have H1:=hidK h1;have H2:=hidK h2;clear h1 h2
  go_wp2
  go_ret;refine ⟨a',c',rfl,H1.out,((below1 w (.cells #[] 63)).grown H2.out (by simp) (fun g hg => ?_))⟩
  simp [Value.ownBlock] at hg
  omega

theorem withvd_any (a : Option Addr) (n cap : Nat) (xs : List Vd) (x : Vd) (va : Option Addr) (vl vc hh : Nat) (Q Q2 : Nat → Prop) (w : World) (ho : ROwn w a n cap 8 63 (xs.map vdF) Q) (hn : n ≤ 8) (hxf : ∀ (i : Nat) f,(vdF x)[i]? = some f → ∃ v,[.string x.n,.int .i64 x.c,.string x.z,.string x.k,.bool x.x,.string x.m,.bool x.y,.slice va vl vc][i]? = some v ∧ f.Fr w hh Q2 v) (hq : ∀ k,Q k → Q2 k → False) :
  Calls Tryz.prog 81 #[.slice a n cap,.agg #[.string x.n,.int .i64 x.c,.string x.z,.string x.k,.bool x.x,.string x.m,.bool x.y,.slice va vl vc]] w fun e w' => ∃ a' l' c',e = .returned (.slice a' l' c') ∧ ROwn w' a' l' c' 8 63 ((inAt (pl Vd.n xs x.n) x xs).map vdF) (fun k => (Q k ∨ Q2 k) ∨ w.heap.size ≤ k) ∧ Below w.heap.size w w':=by
 have HR:=hidK ho.row
 have hxl : xs.length = n:=by simpa using ho.1
 obtain ⟨vss,H,hV,hcell⟩:=ho.recs
 have hvl : vss.length = n:=by rw [hV.len,List.length_map,hxl]
 have hfl : vss.flatten.length = n * 8:=by rw [flat_len hV.all,hvl]
 have HV:=hidK hV;have HC:=hidK hcell;have HF:=hidK hxf;have HQ:=hidK hq;clear ho hV hcell hxf hq
 have hmcalled : ∀ (v : Value) (w : World),(method 337 63 v "loop.example/g00571/impl.called").run Tryz.prog w = .ok (189,v) w:=fun _ _ => by kernel_rfl
 obtain ⟨j,hj⟩ : ∃ j,j = pl Vd.n xs x.n:=⟨_,rfl⟩
 have hjn : j ≤ n:=by rw [hj,← hxl];exact List.findIdx_le_length
 have HJ:=hidK hj
 have HFIN : Hid (∀ (w4 : World) v4 base,w.heap.size ≤ base → Below w.heap.size w w4 → w4.ownsRow base 63 8 v4 (n + 1) (vss.flatten.take (j * 8) ++ [.string x.n,.int .i64 x.c,.string x.z,.string x.k,.bool x.x,.string x.m,.bool x.y,.slice va vl vc] ++ vss.flatten.drop (j * 8)) → ∃ a' c',v4 = .slice a' (n + 1) c' ∧ ROwn w4 a' (n + 1) c' 8 63 ((inAt (pl Vd.n xs x.n) x xs).map vdF) (fun k => (Q k ∨ Q2 k) ∨ w.heap.size ≤ k)):=fun w4 v4 base hbs hB4 ho4 => by
  rw [← inAt_flat HV.out.all (by omega)] at ho4;have hV4:=(HV.out.below hB4).keep (w':=w4) (S':=fun k => (Q k ∨ Q2 k) ∨ w.heap.size ≤ k) (fun _ _ _ _ => rfl) (fun _ _ s => .inl (.inl s))
  obtain ⟨H4,hV5⟩:=hV4.ins (p:=j) (r:=vdF x) (vs:=[.string x.n,.int .i64 x.c,.string x.z,.string x.k,.bool x.x,.string x.m,.bool x.y,.slice va vl vc]) (hh:=fun _ => hh) rfl rfl (fun i f hf => by
   obtain ⟨v,h1,h2⟩:=HF.out i f hf
   exact ⟨v,h1,h2.keep (fun cu _ q => hB4.block _ (lt_of_some q)) (fun _ s => .inl (.inr s))⟩) (fun i zs h hz k r i2 zs2 hr2 hz2 hne e => by
  obtain ⟨v,_,h2⟩:=HF.out i _ h;obtain ⟨_,_,_,_,_,_,_,_,h3⟩:=h2
  have hkv : k < vss.length:=by rw [HV.out.len];exact (List.getElem?_eq_some_iff.1 hr2).1
  obtain ⟨v',_,h5⟩:=HV.out.cell k r _ hr2 (List.getElem?_eq_getElem hkv) i2 _ hz2;obtain ⟨_,_,_,_,_,_,_,_,h6⟩:=h5
  rcases h3 with h3 | ⟨_,h3,_⟩
  ·exact hz h3
  ·rcases h6 with h6 | ⟨_,h6,_⟩
   ·exact hne h6
   ·rw [e] at h6
    exact HQ.out _ h6 h3) (fun i i2 zs zs2 h _ h2 _ => by
  rcases i with _ | _ | _ | _ | _ | _ | _ | _ | i <;> simp [vdF] at h <;> rcases i2 with _ | _ | _ | _ | _ | _ | _ | _ | i2 <;> simp [vdF] at h2 <;> rfl) (by rw [List.length_map];omega)
  have h45 : VRecs w4 (fun k => (Q k ∨ Q2 k) ∨ w.heap.size ≤ k) 8 ((inAt j x xs).map vdF) (inAt j [.string x.n,.int .i64 x.c,.string x.z,.string x.k,.bool x.x,.string x.m,.bool x.y,.slice va vl vc] vss) H4:=by rw [inAt_map];exact hV5
  have hle : ((inAt j x xs).map vdF).length = n + 1:=by rw [List.length_map,inAt_len (by omega),hxl]
  obtain ⟨a',c',e,hR⟩:=h45.own ho4 hle.symm (by decide) (fun g hg => .inr (by have:=(ho4.lt g hg).1;omega));rw [hle] at e hR;rw [hj] at hR;exact ⟨a',c',e,hR⟩
 have HCL : Hid (∀ W,Below w.heap.size w W → ∀ (k : Nat) u,vss.flatten[k]? = some u → ∃ g,a = some ⟨g,0,none⟩ ∧ W.cell? ⟨g,k,none⟩ = some u):=fun W hW k u hu => by
  obtain ⟨g,h1,_,h3⟩:=HC.out k u hu;exact ⟨g,h1,(cell_below hW (cell_lt h3)).trans h3⟩
 have HV1:=hidK HV.out.one;clear HV HC HF HQ hj
 go_enter Tryz.func81,Tryz.ntmps81
 go_wp2_with fail;refine (calledvd_any x va vl vc _).mono ?_;rintro e w1 ⟨rfl,hb1⟩;obtain ⟨hn1,hbx⟩:=slots1 hb1;have HN1:=hidK hn1;have HB1:=hidK hbx;clear hb1 hn1 hbx;go_wp2_with fail;refine (placevd_any a n cap xs x.n _ (HR.out.below HB1.out)).mono ?_;rintro e w2 ⟨rfl,hb2⟩;have HN2:=hidK ((hb2.block w.heap.size (lt_of_some HN1.out)).trans HN1.out);have HB2:=upB HB1 hb2;clear hb2 HN1 HB1;rw [← HJ.out]
 generalize hit Vd.n xs x.n = bb
 have hs2 : w.heap.size < w2.heap.size:=lt_of_some HN2.out;have HBD : Hid (Below w.heap.size w w2.drew):=Below.drewn HB2.out;obtain ⟨n0,n1,n2,n3,n4,n5,n6,n7⟩:=cs8 (show w2.drew.heap[w.heap.size]? = _ from HN2.out)
 have hcl1 : Calls Tryz.prog 117 #[.slice a n cap] w2.drew fun e w3 => ∃ a3 c3,e = .returned (.slice a3 n c3) ∧ Hid (w3.ownsRow w2.heap.size 63 8 (.slice a3 n c3) n vss.flatten) ∧ Hid (Below w.heap.size w w3) ∧ w2.heap.size ≤ w3.heap.size ∧ w.heap.size < w3.heap.size ∧ w3.heap[w.heap.size]? = some (.cells #[.string x.n,.int .i64 x.c,.string x.z,.string x.k,.bool x.x,.string x.m,.bool x.y,.slice va vl vc] 63 (0,0)):=by
  refine (clonevd_any a n cap vss.flatten w2.drew hn hfl HV1.out (HCL.out _ HBD.out)).mono ?_;rintro e w3 ⟨a3,c3,rfl,ho3,hb3⟩;have hs3 : w2.heap.size ≤ w3.heap.size:=hb3.size;exact ⟨a3,c3,rfl,ho3,HBD.out.trans (hb3.mono HBD.out.size),hs3,by omega,(hb3.block w.heap.size hs2).trans (show w2.drew.heap[w.heap.size]? = _ from HN2.out)⟩
 have hcl2 : Calls Tryz.prog 117 #[.slice a n cap] (w2.alloc (.cells #[.string x.n,.int .i64 x.c,.string x.z,.string x.k,.bool x.x,.string x.m,.bool x.y,.slice va vl vc] 63)).drew fun e w3 => ∃ a3 c3,e = .returned (.slice a3 n c3) ∧ Hid (w3.ownsRow (w2.heap.size + 1) 63 8 (.slice a3 n c3) n vss.flatten) ∧ Hid (Below w.heap.size w w3) ∧ w2.heap.size + 1 ≤ w3.heap.size ∧ Hid (w3.heap[w2.heap.size]? = some (.cells #[.string x.n,.int .i64 x.c,.string x.z,.string x.k,.bool x.x,.string x.m,.bool x.y,.slice va vl vc] 63 (0,0))):=by
  have hbl:=Below.drewn (HB2.out.alloc HB2.out.size (.cells #[.string x.n,.int .i64 x.c,.string x.z,.string x.k,.bool x.x,.string x.m,.bool x.y,.slice va vl vc] 63))
  have hsz : (w2.alloc (.cells #[.string x.n,.int .i64 x.c,.string x.z,.string x.k,.bool x.x,.string x.m,.bool x.y,.slice va vl vc] 63)).drew.heap.size = w2.heap.size + 1:=by simp
  refine (clonevd_any a n cap vss.flatten _ hn hfl HV1.out (HCL.out _ hbl)).mono ?_;rintro e w3 ⟨a3,c3,rfl,ho3,hb3⟩;have hs3:=hb3.size;rw [hsz] at ho3 hs3;exact ⟨a3,c3,rfl,ho3,hbl.trans (hb3.mono hbl.size),hs3,(hb3.block w2.heap.size (by rw [hsz];omega)).trans (show (w2.alloc (.cells #[.string x.n,.int .i64 x.c,.string x.z,.string x.k,.bool x.x,.string x.m,.bool x.y,.slice va vl vc] 63)).drew.heap[w2.heap.size]? = _ from heap_alloc_new w2 _)⟩
 have hin1 : ∀ (w3 : World) a3 c3,w3.ownsRow w2.heap.size 63 8 (.slice a3 n c3) n vss.flatten → Below w.heap.size w w3 → w2.heap.size ≤ w3.heap.size → Calls Tryz.prog 116 #[.slice a3 n c3,.int .i64 j,.slice (some ⟨w3.heap.size,0,none⟩) 1 1] (w3.alloc (.cells #[.string x.n,.int .i64 x.c,.string x.z,.string x.k,.bool x.x,.string x.m,.bool x.y,.slice va vl vc] 63)) fun e w4 => ∃ a' c',e = .returned (.slice a' (n + 1) c') ∧ Hid (ROwn w4 a' (n + 1) c' 8 63 ((inAt (pl Vd.n xs x.n) x xs).map vdF) (fun k => (Q k ∨ Q2 k) ∨ w.heap.size ≤ k)) ∧ Hid (Below w.heap.size w w4):=fun w3 a3 c3 ho3 hB3 hs3 => by
  refine (insvd_any a3 n c3 j w2.heap.size w3.heap.size vss.flatten [.string x.n,.int .i64 x.c,.string x.z,.string x.k,.bool x.x,.string x.m,.bool x.y,.slice va vl vc] (w3.alloc (.cells #[.string x.n,.int .i64 x.c,.string x.z,.string x.k,.bool x.x,.string x.m,.bool x.y,.slice va vl vc] 63)) (ho3.alloc _) hn hjn (by simp;omega) (heap_alloc_new w3 _) rfl (by simp [Value.oneCell']) HV1.out (fun g hg e => by
   have h9:=(ho3.lt g (by rw [hg];rfl)).2
   omega)).mono ?_
  rintro e w4 ⟨v4,rfl,ho4,hg4⟩
  have hB5:=(hB3.alloc hB3.size (.cells #[.string x.n,.int .i64 x.c,.string x.z,.string x.k,.bool x.x,.string x.m,.bool x.y,.slice va vl vc] 63)).grown hg4 (by simp;omega) (fun g hg => by
   have h9:=(ho3.lt g hg).1
   omega)
  obtain ⟨a',c',rfl,hR⟩:=HFIN.out w4 v4 _ (by omega) hB5 ho4;exact ⟨a',c',rfl,hR,hB5⟩
 have hin2 : ∀ (w3 : World) a3 c3,w3.ownsRow (w2.heap.size + 1) 63 8 (.slice a3 n c3) n vss.flatten → Below w.heap.size w w3 → w2.heap.size + 1 ≤ w3.heap.size → w3.heap[w2.heap.size]? = some (.cells #[.string x.n,.int .i64 x.c,.string x.z,.string x.k,.bool x.x,.string x.m,.bool x.y,.slice va vl vc] 63 (0,0)) → Calls Tryz.prog 116 #[.slice a3 n c3,.int .i64 j,.slice (some ⟨w2.heap.size,0,none⟩) 1 1] w3 fun e w4 => ∃ a' c',e = .returned (.slice a' (n + 1) c') ∧ Hid (ROwn w4 a' (n + 1) c' 8 63 ((inAt (pl Vd.n xs x.n) x xs).map vdF) (fun k => (Q k ∨ Q2 k) ∨ w.heap.size ≤ k)) ∧ Hid (Below w.heap.size w w4):=fun w3 a3 c3 ho3 hB3 hs3 hy3 => by
  refine (insvd_any a3 n c3 j (w2.heap.size + 1) w2.heap.size vss.flatten [.string x.n,.int .i64 x.c,.string x.z,.string x.k,.bool x.x,.string x.m,.bool x.y,.slice va vl vc] w3 ho3 hn hjn hs3 hy3 rfl (by simp [Value.oneCell']) HV1.out (fun g hg e => by
   have h9:=(ho3.lt g (by rw [hg];rfl)).1
   omega)).mono ?_
  rintro e w4 ⟨v4,rfl,ho4,hg4⟩
  have hB5:=hB3.grown hg4 (by omega) (fun g hg => by
   have h9:=(ho3.lt g hg).1
   omega)
  obtain ⟨a',c',rfl,hR⟩:=HFIN.out w4 v4 _ (by omega) hB5 ho4;exact ⟨a',c',rfl,hR,hB5⟩
 have C1:=hidK hcl1;have C2:=hidK hcl2;have I1:=hidK hin1;have I2:=hidK hin2;clear hcl1 hcl2 hin1 hin2 HFIN HCL HR HJ HBD HB2
 have mixed : Tryz.prog.follows .mixedOrders = true:=by kernel_rfl
 go_wp2
 go_region_with (first
  | (go_at_call 117;refine C1.out.mono ?_;rintro e w3 ⟨a3,c3,rfl,HO3,HB3,hs3,hw3l,hx3⟩;obtain ⟨m0,m1,m2,m3,m4,m5,m6,m7⟩:=cs8 hx3;clear hx3)
  | (go_at_call 117;refine C2.out.mono ?_;rintro e w3 ⟨a3,c3,rfl,HO3,HB3,hs3,HY3⟩)
  | (go_at_call 116;refine (I1.out w3 a3 c3 HO3.out HB3.out hs3).mono ?_;rintro e w4 ⟨a',c',rfl,HR5,HB5⟩)
  | (go_at_call 116;refine (I2.out w3 a3 c3 HO3.out HB3.out hs3 HY3.out).mono ?_;rintro e w4 ⟨a',c',rfl,HR5,HB5⟩))
 all_goals (
  go_wp2
  go_ret
  exact ⟨a',_,c',rfl,HR5.out,HB5.out⟩)

theorem row_same {w : World} {g : Nat} {cs : Array Value} {T : TypeId} {f : Nat × Nat} (h : w.heap[g]? = some (.cells cs T f)) : Below w.heap.size w (w.setRow g cs):=by
 refine ⟨rfl,rfl,rfl,by simp,fun k hk => ?_⟩
 by_cases e : k = g
 ·subst e;rw [setRow_heap w k cs cs T f h,h]
 ·exact setRow_other w g k cs e

theorem run_append_empty_none {w : World} (t ty e : TypeId) (i : TypeInfo) (ht : Tryz.prog.underlying t = some (.slice e)) (hi : Tryz.prog.info? e = some i) (g cap : Nat) :
  (Builtin.append_ #[t,t] ty #[.slice (some ⟨g,0,none⟩) 0 0,.slice none 0 cap]).run Tryz.prog w = .ok (.slice (some ⟨g,0,none⟩) 0 0) w:=by
 simp [Builtin.append_,run_underlying ht,sizeOf,typeInfo,hi,Builtin.lenOf,Builtin.firstCells,storeCells]

theorem TOwn.here {w : World} {g l c : Nat} {zs : List ByteArray} {S S' : Nat → Prop} (h : TOwn w (some ⟨g,0,none⟩) l c zs S) (hS : S' g) : TOwn w (some ⟨g,0,none⟩) l c zs S' :=
 ⟨h.1,h.2.imp id fun ⟨g',cur,e,_,hg⟩ => by cases e;exact ⟨g,cur,rfl,hS,hg⟩⟩

theorem run_append_texts {w : World} {g0 : Nat} {va : Option Addr} {len cap : Nat} {zs : List ByteArray} (ty : TypeId) (hg : w.heap[g0]? = some (.cells #[] 9 (0,0))) (hr : TxRow w va len cap zs) (hl : len ≤ 8001) :
  ∃ a l c w',(Builtin.append_ #[56,56] ty #[.slice (some ⟨g0,0,none⟩) 0 0,.slice va len cap]).run Tryz.prog w = .ok (.slice a l c) w' ∧ TOwn w' a l c zs (fun k => k = g0 ∨ w.heap.size ≤ k) ∧ Below w.heap.size w w':=by
 obtain ⟨i0,hi,hz0,hz1,hz2⟩:=info_parts infoStr;have hzl : zs.length = len:=hr.1
 rcases Nat.eq_zero_or_pos len with h0 | h0
 ·subst h0;obtain rfl : zs = []:=List.eq_nil_of_length_eq_zero hzl
  cases va with
  | none => exact ⟨_,_,_,_,run_append_empty_none 56 ty 9 i0 Tryz.underlying56 hi g0 cap,⟨⟨rfl,Nat.le_refl _,by omega,fun j x hx => by simp at hx,.inl rfl⟩,.inl rfl⟩,Below.refl _ _⟩
  | some ad =>
   have h:=run_append_room (P:=Tryz.prog) w 56 ty 9 i0 Tryz.underlying56 hi g0 0 0 #[] hg ad 0 cap [] (by simp) (fun j u hu => by simp at hu) (fun u hu => by simp at hu) (by omega) (by simp);exact ⟨_,_,_,_,h,⟨⟨rfl,Nat.le_refl _,by omega,fun j x hx => by simp at hx,.inl rfl⟩,.inl rfl⟩,by simpa using row_same hg⟩
 ·cases va with
  | none =>
   rcases hr.2.2.2.2 with h | ⟨b,o,e,_⟩
   ·subst h;simp at hzl;omega
   ·cases e
  | some ad =>
   have h:=run_append_grow (P:=Tryz.prog) w 56 ty 9 i0 (.string ⟨#[]⟩) Tryz.underlying56 hi hz0 ⟨g0,0,none⟩ 0 0 [] (by simp) (fun j u hu => by simp at hu) ad len cap (zs.map Value.string) (by rw [hz1];simpa using hzl) (Ap.news_of hr) (by omega) (by omega) (growslice_fits (by omega) (by rw [hz2];omega));obtain ⟨v',w',hr2,h2,h3,h4⟩:=run_append_own (P:=Tryz.prog) w (base:=0) 56 ty 9 i0 (.string ⟨#[]⟩) 1 16 Tryz.underlying56 hi hz0 hz1 hz2 rfl (by decide) (.slice (some ⟨g0,0,none⟩) 0 0) 0 [] ⟨rfl,.inr ⟨g0,0,#[],rfl,Nat.zero_le _,hg,Nat.le_refl _,by unfold maxLen;omega,rfl,rfl⟩⟩ ad len cap (zs.map Value.string) (by simpa using hzl) (Ap.news_of hr) (fun u hu => by obtain ⟨x,_,rfl⟩:=List.mem_map.1 hu;rfl) (by unfold maxLen;omega) (by omega) (Nat.zero_le _);rw [h] at hr2
   cases hr2
   rw [Nat.zero_add,List.nil_append] at h2;obtain ⟨a',c',e,hT⟩:=TOwn.of_row h2 hr.2.2.2.1;have hbel : Below w.heap.size w (w.drew.alloc (.cells (([] : List Value).toArray ++ (zs.map Value.string).toArray ++ Builtin.zeroCells (Value.string ⟨#[]⟩).cells (grownCap w (0 + len) 0 9 - (0 + len))) 9)):=⟨rfl,rfl,rfl,by simp,fun k hk => heap_alloc_old w.drew _ (by simpa using hk)⟩;simp only [Nat.zero_add] at e h hbel ⊢
   cases e
   exact ⟨_,_,_,_,h,hT.here (.inr (Nat.le_refl _)),hbel⟩
theorem wpList_texts {ops : Array Oper} {rest : List Oper} {o : Oper} {a : Act} {w : World} {Q : Exit → Act → World → Prop} (hgd : o.guard = none) (s x : Operand) (ho : o.op = .call { callee:=.builtin .append,args:=#[s,x],argTypes:=#[56,56] }) (g0 : Nat) (hs : a.eval s = .slice (some ⟨g0,0,none⟩) 0 0) (hg : w.heap[g0]? = some (.cells #[] 9 (0,0)))
  (va : Option Addr) (len cap : Nat) (hx : a.eval x = .slice va len cap) (zs : List ByteArray) (hr : TxRow w va len cap zs) (hl : len ≤ 8001)
  (h : ∀ a' l c w',TOwn w' a' l c zs (fun k => k = g0 ∨ w.heap.size ≤ k) → Below w.heap.size w w' → wpList Tryz.prog ops Q rest (a.put o.dst (.slice a' l c)) w') : wpList Tryz.prog ops Q (o :: rest) a w:=by
 refine wpList_plain hgd fun K hK => ?_;obtain ⟨a',l,c,w',hrun,h1,h2⟩:=run_append_texts o.type hg hr hl;unfold Oper.wp execOp;simp only [ho,resolve,invoke,builtin,Sem.run_bind,Sem.run_pure,Result.andThen_ok,List.map_toArray,List.map_cons,List.map_nil,hs,hx,hrun];exact hK _ _ (h a' l c w' h1 h2)

theorem run_append_recs {w : World} {g0 : Nat} {va : Option Addr} {len cap m bytes : Nat} {rs : List (List Fv)} (t ty T : TypeId) (i : TypeInfo) (z : Value) (ht : Tryz.prog.underlying t = some (.slice T)) (hi : Tryz.prog.info? T = some i) (hz : i.zero = some z) (hsize : i.size = m) (hby : i.bytes = bytes) (hzs : z.cells.size = m) (hsz : 0 < m) (hT : ¬ T = 9) (hg : w.heap[g0]? = some (.cells #[] T (0,0)))
  (hr : RRow w va len cap m rs) (hm : ∀ (j : Nat) r,rs[j]? = some r → r.length = m ∧ FlatR r) (hl : len ≤ 8) (hb8 : bytes ≤ 1000) :
  ∃ a c w',(Builtin.append_ #[t,t] ty #[.slice (some ⟨g0,0,none⟩) 0 0,.slice va len cap]).run Tryz.prog w = .ok (.slice a len c) w' ∧ ROwn w' a len c m T rs (fun k => k = g0 ∨ w.heap.size ≤ k) ∧ Below w.heap.size w w':=by
 rcases Nat.eq_zero_or_pos len with h0 | h0
 ·subst h0;obtain rfl : rs = []:=List.eq_nil_of_length_eq_zero hr.1
  cases va with
  | none => exact ⟨_,_,_,run_append_empty_none t ty T i ht hi g0 cap,ROwn.nil _ _ _ _ _ (by omega),Below.refl _ _⟩
  | some ad =>
   have h:=run_append_room (P:=Tryz.prog) w t ty T i ht hi g0 0 0 #[] hg ad 0 cap [] (by simp) (fun j u hu => by simp at hu) (fun u hu => by simp at hu) (by omega) (by simp);exact ⟨_,_,_,h,ROwn.nil _ _ _ _ _ (by omega),by simpa using row_same hg⟩
 ·have hlen : ((rs.map flatV).flatten).length = len * m:=by rw [flat_len (flat_all fun j r hj => (hm j r hj).1),List.length_map,hr.1]
  obtain ⟨ad,rfl,hnews⟩ : ∃ ad,va = some ad ∧ ∀ (j : Nat) u,((rs.map flatV).flatten)[j]? = some u → w.cell? (ad.add j) = some u:=by
   rcases hr.2.2.2 with h | ⟨b,o,rfl,_⟩
   ·subst h;have:=hr.1;simp at this;omega
   ·exact ⟨_,rfl,flat_news hr hm⟩
  have h:=run_append_grow (P:=Tryz.prog) w t ty T i z ht hi hz ⟨g0,0,none⟩ 0 0 [] (by simp) (fun j u hu => by simp at hu) ad len cap (rs.map flatV).flatten (by rw [hsize];exact hlen) hnews (by omega) (by omega) (growslice_fits (by omega) (by rw [hby];have : (0 + len) * bytes ≤ 8 * 1000:=Nat.mul_le_mul (by omega) hb8;omega));obtain ⟨v',w',hr2,h2,h3,h4⟩:=run_append_own (P:=Tryz.prog) w (base:=0) t ty T i z m bytes ht hi hz hsize hby hzs hsz (.slice (some ⟨g0,0,none⟩) 0 0) 0 [] ⟨by simp,.inr ⟨g0,0,#[],rfl,Nat.zero_le _,hg,Nat.le_refl _,by unfold maxLen;omega,by simp,by simp⟩⟩ ad len cap (rs.map flatV).flatten hlen hnews (flat_recs hr hm w (fun _ => True)).one (by unfold maxLen;omega) (by have : (0 + len) * bytes ≤ 8 * 1000:=Nat.mul_le_mul (by omega) hb8;omega) (Nat.zero_le _);rw [h] at hr2
  cases hr2
  rw [Nat.zero_add,List.nil_append] at h2;obtain ⟨a',c',e,hR⟩:=(flat_recs hr hm _ (fun k => k = g0 ∨ w.heap.size ≤ k)).own h2 hr.1.symm hT (fun g hg => by simp [Value.ownBlock] at hg;exact .inr (by omega));have hbel : Below w.heap.size w (w.drew.alloc (.cells (([] : List Value).toArray ++ ((rs.map flatV).flatten).toArray ++ Builtin.zeroCells z.cells (grownCap w (0 + len) 0 T - (0 + len))) T)):=⟨rfl,rfl,rfl,by simp,fun k hk => heap_alloc_old w.drew _ (by simpa using hk)⟩;rw [hr.1] at e hR;simp only [Nat.zero_add] at e h hbel hR ⊢
  cases e
  exact ⟨_,_,_,h,hR,hbel⟩
theorem wp_copy0 {o : Oper} {a : Act} {w : World} {K : Act → World → Prop} {Q : Exit → Act → World → Prop} {g0 : Nat} {va : Option Addr} {len cap m bytes : Nat} {rs : List (List Fv)} (s x : Operand) (t T : TypeId) (ho : o.op = .call { callee:=.builtin .append,args:=#[s,x],argTypes:=#[t,t] }) (i : TypeInfo) (z : Value) (ht : Tryz.prog.underlying t = some (.slice T)) (hi : Tryz.prog.info? T = some i) (hz : i.zero = some z) (hsize : i.size = m) (hby : i.bytes = bytes) (hzs : z.cells.size = m) (hsz : 0 < m) (hT : ¬ T = 9) (hs : a.eval s = .slice (some ⟨g0,0,none⟩) 0 0) (hg : w.heap[g0]? = some (.cells #[] T (0,0)))
  (hx : a.eval x = .slice va len cap) (hr : RRow w va len cap m rs) (hm : ∀ (j : Nat) r,rs[j]? = some r → r.length = m ∧ FlatR r) (hl : len ≤ 8) (hb8 : bytes ≤ 1000)
  (h : ∀ a' c' w',ROwn w' a' len c' m T rs (fun k => k = g0 ∨ w.heap.size ≤ k) → Below w.heap.size w w' → K (a.put o.dst (.slice a' len c')) w') : o.wp Tryz.prog a w K Q:=by
 obtain ⟨a',c',w',hrun,h1,h2⟩:=run_append_recs t o.type T i z ht hi hz hsize hby hzs hsz hT hg hr hm hl hb8;unfold Oper.wp execOp;simp only [ho,resolve,invoke,builtin,Sem.run_bind,Sem.run_pure,Result.andThen_ok,List.map_toArray,List.map_cons,List.map_nil,hs,hx,hrun];exact h a' c' w' h1 h2

end Rc
end Go.Proofs.YtkecljccapjkpaaGreatDoor
