import Derived.Test.YtkecljccapjkpaaGreatDoorV3
import Derived.WalkKit
import Derived.LaidEql
import Derived.Stop.Asserts
import Derived.RowKitTokens
import Derived.Test.YtkecljccapjkpaaGreatDoorRows
import Derived.WalkSpells
import Derived.RegionTactic
import Derived.Deep.AppendLies
/-
 Whether pods are where they may be, as the specification asks it.
-/
set_option maxRecDepth 100000
set_option maxHeartbeats 12800000
namespace Go.Proofs.YtkecljccapjkpaaGreatDoor
open Go.RowKit
namespace Rc
open Mk

def PSa (c : Cl) (p : Pd) : Prop:=p.d = ⟨#[]⟩ ∨ ∃ (i : Nat) (n : Nd),c.ns[i]? = some n ∧ n.n = p.d ∧ (p.z = ⟨#[]⟩ ∨ n.z = p.z)
def PSb1 (c : Cl) (p : Pd) (t : ByteArray) : Prop:=(∃ (i : Nat) (x : Xd),c.xs[i]? = some x ∧ x.n = t) ∧ (p.d = ⟨#[]⟩ ∨ ∃ (v : Vd) (i : Nat) (n : Nd),IsBd c t v ∧ c.ns[i]? = some n ∧ n.n = p.d ∧ v.z = n.z)
def PSb (c : Cl) (p : Pd) : Prop:=∀ (j : Nat) t,p.zs[j]? = some t → PSb1 c p t
def PSc (c : Cl) (k : Nat) (p : Pd) : Prop:=∀ (j : Nat) q,j < k → c.ps[j]? = some q → PairS c q p
def PS (c : Cl) (k : Nat) (p : Pd) : Prop:=PSa c p ∧ PSb c p ∧ PSc c k p
def PlacedS (c : Cl) : Prop:=(∀ (k : Nat) p,c.ps[k]? = some p → PS c k p) ∧ ∀ (j : Nat) n,c.ns[j]? = some n → cpuOf n.n c.ps ≤ n.c

theorem splaced_any (d : Ad) (c : Cl) (w : World) (hr : ClRow w d c.raw) (hn : RisBy Nd.n c.ns) (hx : RisBy Xd.n c.xs) (hv : RisBy Vd.n c.vs) (hne : ∀ (j : Nat) v,c.vs[j]? = some v → ¬ v.n = ⟨#[]⟩) (hps8 : c.ps.length ≤ 8) (hpc : ∀ (j : Nat) p,c.ps[j]? = some p → 0 ≤ p.c ∧ p.c ≤ 1000000) :
  Calls Tryz.prog 99 #[.agg #[.slice d.a1 d.l1 d.c1,.slice d.a2 d.l2 d.c2,.slice d.a3 d.l3 d.c3,.slice d.a4 d.l4 d.c4,.slice d.a5 d.l5 d.c5,.int .i64 c.now]] w (BoolB (PlacedS c) w):=by
 obtain ⟨a1,l1,y1,a2,l2,y2,a3,l3,y3,a4,l4,y4,a5,l5,y5⟩:=d;dsimp only;have HR:=hidK hr
 have hl1 : c.ns.length = l1:=by simpa using (show (c.ns.map ndF).length = l1 from hr.n.1)
 have hm1 : l1 ≤ 9223372036854775807:=Nat.le_trans hr.n.2.1 hr.n.2.2.1
 have hl2 : c.ks.length = l2:=by simpa using (show (c.ks.map kdF).length = l2 from hr.k.1)
 have hm2 : l2 ≤ 9223372036854775807:=Nat.le_trans hr.k.2.1 hr.k.2.2.1
 have hl3 : c.vs.length = l3:=by simpa using (show (c.vs.map vdF).length = l3 from hr.v.1)
 have hm3 : l3 ≤ 9223372036854775807:=Nat.le_trans hr.v.2.1 hr.v.2.2.1
 have hl4 : c.xs.length = l4:=by simpa using (show (c.xs.map xdF).length = l4 from hr.x.1)
 have hm4 : l4 ≤ 9223372036854775807:=Nat.le_trans hr.x.2.1 hr.x.2.2.1
 have hl5 : c.ps.length = l5:=by simpa using (show (c.ps.map pdF).length = l5 from hr.p.1)
 have hm5 : l5 ≤ 9223372036854775807:=Nat.le_trans hr.p.2.1 hr.p.2.2.1;clear hr;have HNR:=hidK hn;have HX:=hidK hx;have HV:=hidK hv;have HNE:=hidK hne;have HL5:=hidK hps8;have HPC:=hidK hpc;clear hn hx hv hne hps8 hpc
 go_enter Tryz.func99,Tryz.ntmps99
 go_wp2
 go_loopw [3] (fun i wr => ∃ k : Nat,k ≤ l5 ∧ i = .int .i64 k ∧ Hid (∀ (j : Nat) z,j < k → c.ps[j]? = some z → PS c j z) ∧ Hid (Below w.heap.size w wr) ∧ Hid (wr.heap[w.heap.size]? = some (.cells #[.slice a1 l1 y1,.slice a2 l2 y2,.slice a3 l3 y3,.slice a4 l4 y4,.slice a5 l5 y5,.int .i64 c.now] 36 (0,0)))) (fun i _ => l5 - (intOf i).toNat)
 case atStart => exact ⟨0,by omega,rfl,fun _ _ h => absurd h (by omega),below1 _ _,Array.getElem?_push_size⟩
 case round =>
  obtain ⟨k,hk,rfl,HQ,HB,Bk⟩:=hrel;have pk : wr.cell? ⟨w.heap.size,4,none⟩ = some (.slice a5 l5 y5):=cellK Bk.out 4
  by_cases hlt : k < l5
  ·obtain ⟨b,o,p,rfl,hb,hx,hat⟩:=pd_at (HR.out.p.below HB.out) hlt;obtain ⟨va,vl,vc,hvr,z0,z2,z4,c0,c1,c2,c3,c4,c5⟩:=pd_cells hat;have HXp:=hidK hx;have HTp:=hidK hvr;have HZp0:=hidK z0;have HZp2:=hidK z2;have HZp4:=hidK z4;clear hat hx z0 z2 z4 hvr;have hvl : p.zs.length = vl:=HTp.out.1;have hvc : vl ≤ 9223372036854775807:=Nat.le_trans HTp.out.2.1 HTp.out.2.2.1;have HVL:=hidK hvl;clear hvl;obtain ⟨k0,k1,k2,k3,k4,k5⟩:=cs6 Bk.out;have ltk_0:=lt_of_some Bk.out;go_wp2_with fail;refine (sxnd_any ⟨a1,l1,y1,a2,l2,y2,a3,l3,y3,a4,l4,y4,(some ⟨b,o,none⟩),l5,y5⟩ c.now c.ns p.d _ (HR.out.n.below (HB.out.trans ((below1 _ _).mono HB.out.size)))).mono ?_;rintro e w1 ⟨hb2,hf⟩;clear k0 k1 k2 k3 k4 k5 ltk_0;obtain ⟨HA0,hbx⟩:=slots1 hb2;replace Bk:=upK Bk hbx;have Br:=hidK HA0;replace HTp:=hidK (HTp.out.below hbx);replace HB:=upB HB hbx;clear hb2 hbx HA0;clear pk hb c0 c1 c2 c3 c4 c5
   by_cases he : p.d = ⟨#[]⟩
   ·have hq:=isE_y he;have HEm:=hidK he;clear he
    obtain ⟨r5,hre⟩ : ∃ r : Int,e = .returned (.int .i64 r):=by rcases hf with ⟨j,y,_,_,h⟩ | ⟨_,h⟩ <;> exact ⟨_,h⟩
    subst hre;clear hf;have Gk:=Bk;have Gr:=Br;have HW:=HB;have k0:=fun q : Wd w1 => q.slot (o:=0) Gk.out rfl;obtain ⟨r0,r1,r2,r3,r4,r5⟩:=sl6 Gr;have hne0:=Wd.ne w1;go_wp2_with fail;refine wp_region_wide (by kernel_rfl) (by kernel_rfl) ?_
    repeat (go_big_quiet_step (first | fail))
    refine wpQuiet_nil ?_;rintro _ ⟨q0,rfl⟩;have HB2:=upB HW q0.b;have Ck:=upK Gk q0.b;have Cr:=upK Gr q0.b;have CHTp:=hidK ((HTp.out).below q0.b);clear hne0 HW HB k0 r0 r1 r2 r3 r4 r5 Gk Gr Bk Br HTp;have HB:=HB2;clear HB2;have HTp:=CHTp;clear CHTp;have Bk:=Ck;clear Ck;have Br:=Cr;clear Cr;have HPa : Hid (PSa c p):=.inl HEm.out;obtain ⟨gb,hgb⟩ : ∃ gb,gb = wr.heap.size:=⟨_,rfl⟩;rw [← hgb] at Br;have pr3 : q0.w.cell? ⟨gb,3,none⟩ = some (.slice va vl vc):=cellK Br.out 3;rw [hgb] at pr3
    go_wp2
    rw [← hgb];clear pr3 hgb;have KV:=Bk;have GV:=Br;have BV:=HB;have TV:=HTp;clear Bk Br HB HTp;obtain ⟨W,hW⟩ : ∃ W,W = q0.w:=⟨_,rfl⟩;rw [← hW] at KV GV BV TV ⊢;clear hW
    go_loopw [6] (fun i wr => ∃ kq : Nat,kq ≤ vl ∧ i = .int .i64 kq ∧ Hid (∀ (j : Nat) t,j < kq → p.zs[j]? = some t → PSb1 c p t) ∧ Hid (Below W.heap.size W wr)) (fun i _ => vl - (intOf i).toNat)
    case atStart => exact ⟨0,by omega,rfl,fun _ _ h => absurd h (by omega),Below.refl _ _⟩
    case round =>
     obtain ⟨kq,hkq,rfl,HQ2,HBW⟩:=hrel;have HB:=hidK (BV.out.trans (HBW.out.mono BV.out.size));have Bk:=upK KV HBW.out;have Br:=upK GV HBW.out;have pr3 : wr.cell? ⟨gb,3,none⟩ = some (.slice va vl vc):=cellK Br.out 3
     by_cases hlt2 : kq < vl
     ·obtain ⟨b2,o2,t,rfl,hb,hxt,hc,hsz⟩:=(TV.out.below HBW.out).at hlt2;have HXt:=hidK hxt;clear hxt hsz
      have hcase : (∃ v,IsBd c t v) ∨ (∀ v,¬ IsBd c t v):=by
       by_cases h : ∃ v,IsBd c t v
       ·exact .inl h
       ·exact .inr (fun v hv => h ⟨v,hv⟩)
      rcases hcase with ⟨v,hbd⟩ | hbd
      ·obtain ⟨j3,hj3⟩:=hbd.at
       have hl3' : j3 < l3:=by have h1:=(List.getElem?_eq_some_iff.1 hj3).1;omega
       obtain ⟨b3,o3,v',rfl,hb3,hv',hat⟩:=vd_at HR.out.v hl3';rw [hj3] at hv';obtain rfl:=Option.some.inj hv';obtain ⟨xa,xl,xc,hvr,z0,z2,z3,z5,d0,d1,d2,d3,d4,d5,d6,d7⟩:=vd_cells hat;have HJ:=hidK hj3;have HD:=hidK hbd;have HC2:=hidK d2;have HB3:=hidK hb3
       have hj31 : decide ((j3 : Int) < 0) = false:=by simp
       clear hv' hat hvr z0 z2 z3 z5 d0 d1 d2 d3 d4 d5 d6 d7 hj3 hbd hb3;have Gk:=Bk;have Gr:=Br;have HW:=HB;obtain ⟨k0,k1,k2,k3,k4,k5⟩:=sl6 Gk;have r3:=fun q : Wd wr => q.slot (o:=3) Gr.out rfl;have tw:=fun q : Wd wr => (q.cell hb).trans hc;have hne0:=Wd.ne wr;have HC0:=hidK (fun q : Wd wr => sbind_hit ⟨a1,l1,y1,a2,l2,y2,(some ⟨b3,o3,none⟩),l3,y3,a4,l4,y4,(some ⟨b,o,none⟩),l5,y5⟩ c t q.w (HR.out.below (HW.out.trans (q.b.mono HW.out.size))) HX.out HV.out HNE.out HJ.out HD.out);go_wp2_with fail;refine wp_region_wide (by kernel_rfl) (by kernel_rfl) ?_
       repeat (go_big_quiet_step (first | (go_at_call 24;exact Calls.wide (HC0.out _)) | fail))
       refine wpQuiet_nil ?_;rintro _ ⟨q1,rfl⟩;have HB1:=upB HW q1.b;have Ck:=upK Gk q1.b;have Cr:=upK Gr q1.b;clear hne0 HW HB HC0 k0 k1 k2 k3 k4 k5 r3 tw Gk Gr Bk Br pr3;have HB:=HB1;clear HB1;have Bk:=Ck;clear Ck;have Br:=Cr;clear Cr;have hc1:=(q1.cell hb).trans hc;have hb1 : b2 < q1.w.heap.size:=Nat.lt_of_lt_of_le hb q1.b.size;have HBW1:=upB HBW q1.b;clear hc hb HBW
       by_cases hg : ∃ (i : Nat) (x : Xd),c.xs[i]? = some x ∧ x.n = t
       rotate_left
       ·have HG:=hidK hg;clear hg;have Gk:=Bk;have Gr:=Br;have HW:=HB;obtain ⟨k0,k1,k2,k3,k4,k5⟩:=sl6 Gk;obtain ⟨r0,r1,r2,r3,r4,r5⟩:=sl6 Gr;have tw:=fun q : Wd q1.w => (q.cell hb1).trans hc1;have hne0:=Wd.ne q1.w;have HC0:=hidK (fun q : Wd q1.w => sxxd_miss ⟨a1,l1,y1,a2,l2,y2,(some ⟨b3,o3,none⟩),l3,y3,a4,l4,y4,(some ⟨b,o,none⟩),l5,y5⟩ c.now c.xs t q.w (HR.out.x.below (HW.out.trans (q.b.mono HW.out.size))) (fun i x h1 h2 => HG.out ⟨i,x,h1,h2⟩));go_wp2_with fail;refine wp_region_wide (by kernel_rfl) (by kernel_rfl) ?_
        repeat (go_big_quiet_step (first | (go_at_call 23;exact Calls.wide (HC0.out _)) | fail))
        refine wpQuiet_nil ?_;rintro _ ⟨q2,rfl⟩;have HB2:=upB HW q2.b;have Ck:=upK Gk q2.b;have Cr:=upK Gr q2.b;clear hne0 HW HB HC0 k0 k1 k2 k3 k4 k5 r0 r1 r2 r3 r4 r5 tw Gk Gr Bk Br hc1 hb1;have HB:=HB2;clear HB2;have Bk:=Ck;clear Ck;have Br:=Cr;clear Cr
        go_wp2
        go_ret;refine BoolB.f (fun h => ?_) HB.out;have h9:=(h.1 k p HXp.out).2.1 kq t HXt.out;exact HG.out h9.1
       obtain ⟨i4,x4,g1,g2⟩:=hg;have HG1:=hidK g1;have HG2:=hidK g2
       have hi41 : decide ((i4 : Int) < 0) = false:=by simp
       clear g1 g2;have Gk:=Bk;have Gr:=Br;have HW:=HB;obtain ⟨k0,k1,k2,k3,k4,k5⟩:=sl6 Gk;obtain ⟨r0,r1,r2,r3,r4,r5⟩:=sl6 Gr;have tw:=fun q : Wd q1.w => (q.cell hb1).trans hc1;have hne0:=Wd.ne q1.w;have HC0:=hidK (fun q : Wd q1.w => sxxd_hit ⟨a1,l1,y1,a2,l2,y2,(some ⟨b3,o3,none⟩),l3,y3,a4,l4,y4,(some ⟨b,o,none⟩),l5,y5⟩ c.now c.xs t q.w (HR.out.x.below (HW.out.trans (q.b.mono HW.out.size))) HX.out HG1.out HG2.out);go_wp2_with fail;refine wp_region_wide (by kernel_rfl) (by kernel_rfl) ?_
       repeat (go_big_quiet_step (first | (go_at_call 23;exact Calls.wide (HC0.out _)) | fail))
       refine wpQuiet_nil ?_;rintro _ ⟨q2,rfl⟩;have HB2:=upB HW q2.b;have Ck:=upK Gk q2.b;have Cr:=upK Gr q2.b;clear hne0 HW HB HC0 k0 k1 k2 k3 k4 k5 r0 r1 r2 r3 r4 r5 tw Gk Gr Bk Br hc1 hb1;have HB:=HB2;clear HB2;have Bk:=Ck;clear Ck;have Br:=Cr;clear Cr;go_wp2_with fail;refine ⟨⟨kq + 1,by omega,by go_num,fun j s hj hs => ?_,HBW1.out.trans (q2.b.mono HBW1.out.size)⟩,by simp [intOf];omega⟩
       by_cases e : j = kq
       ·subst e;rw [HXt.out] at hs;obtain rfl:=Option.some.inj hs;exact ⟨⟨i4,x4,HG1.out,HG2.out⟩,.inl HEm.out⟩
       ·exact HQ2.out j s (by omega) hs
      ·have HD:=hidK hbd;clear hbd;have Gk:=Bk;have Gr:=Br;have HW:=HB;obtain ⟨k0,k1,k2,k3,k4,k5⟩:=sl6 Gk;have r3:=fun q : Wd wr => q.slot (o:=3) Gr.out rfl;have tw:=fun q : Wd wr => (q.cell hb).trans hc;have hne0:=Wd.ne wr;have HC0:=hidK (fun q : Wd wr => sbind_miss ⟨a1,l1,y1,a2,l2,y2,a3,l3,y3,a4,l4,y4,(some ⟨b,o,none⟩),l5,y5⟩ c t q.w (HR.out.below (HW.out.trans (q.b.mono HW.out.size))) HX.out HV.out HNE.out HD.out);go_wp2_with fail;refine wp_region_wide (by kernel_rfl) (by kernel_rfl) ?_
       repeat (go_big_quiet_step (first | (go_at_call 24;exact Calls.wide (HC0.out _)) | fail))
       refine wpQuiet_nil ?_;rintro _ ⟨q1,rfl⟩;have HB1:=upB HW q1.b;have Ck:=upK Gk q1.b;have Cr:=upK Gr q1.b;clear hne0 HW HB HC0 k0 k1 k2 k3 k4 k5 r3 tw Gk Gr Bk Br pr3;have HB:=HB1;clear HB1;have Bk:=Ck;clear Ck;have Br:=Cr;clear Cr;have hc1:=(q1.cell hb).trans hc;have hb1 : b2 < q1.w.heap.size:=Nat.lt_of_lt_of_le hb q1.b.size;have HBW1:=upB HBW q1.b;clear hc hb HBW
       by_cases hg : ∃ (i : Nat) (x : Xd),c.xs[i]? = some x ∧ x.n = t
       rotate_left
       ·have HG:=hidK hg;clear hg;have Gk:=Bk;have Gr:=Br;have HW:=HB;obtain ⟨k0,k1,k2,k3,k4,k5⟩:=sl6 Gk;obtain ⟨r0,r1,r2,r3,r4,r5⟩:=sl6 Gr;have tw:=fun q : Wd q1.w => (q.cell hb1).trans hc1;have hne0:=Wd.ne q1.w;have HC0:=hidK (fun q : Wd q1.w => sxxd_miss ⟨a1,l1,y1,a2,l2,y2,a3,l3,y3,a4,l4,y4,(some ⟨b,o,none⟩),l5,y5⟩ c.now c.xs t q.w (HR.out.x.below (HW.out.trans (q.b.mono HW.out.size))) (fun i x h1 h2 => HG.out ⟨i,x,h1,h2⟩));go_wp2_with fail;refine wp_region_wide (by kernel_rfl) (by kernel_rfl) ?_
        repeat (go_big_quiet_step (first | (go_at_call 23;exact Calls.wide (HC0.out _)) | fail))
        refine wpQuiet_nil ?_;rintro _ ⟨q2,rfl⟩;have HB2:=upB HW q2.b;have Ck:=upK Gk q2.b;have Cr:=upK Gr q2.b;clear hne0 HW HB HC0 k0 k1 k2 k3 k4 k5 r0 r1 r2 r3 r4 r5 tw Gk Gr Bk Br hc1 hb1;have HB:=HB2;clear HB2;have Bk:=Ck;clear Ck;have Br:=Cr;clear Cr
        go_wp2
        go_ret;refine BoolB.f (fun h => ?_) HB.out;have h9:=(h.1 k p HXp.out).2.1 kq t HXt.out;exact HG.out h9.1
       obtain ⟨i4,x4,g1,g2⟩:=hg;have HG1:=hidK g1;have HG2:=hidK g2
       have hi41 : decide ((i4 : Int) < 0) = false:=by simp
       clear g1 g2;have Gk:=Bk;have Gr:=Br;have HW:=HB;obtain ⟨k0,k1,k2,k3,k4,k5⟩:=sl6 Gk;obtain ⟨r0,r1,r2,r3,r4,r5⟩:=sl6 Gr;have tw:=fun q : Wd q1.w => (q.cell hb1).trans hc1;have hne0:=Wd.ne q1.w;have HC0:=hidK (fun q : Wd q1.w => sxxd_hit ⟨a1,l1,y1,a2,l2,y2,a3,l3,y3,a4,l4,y4,(some ⟨b,o,none⟩),l5,y5⟩ c.now c.xs t q.w (HR.out.x.below (HW.out.trans (q.b.mono HW.out.size))) HX.out HG1.out HG2.out);go_wp2_with fail;refine wp_region_wide (by kernel_rfl) (by kernel_rfl) ?_
       repeat (go_big_quiet_step (first | (go_at_call 23;exact Calls.wide (HC0.out _)) | fail))
       refine wpQuiet_nil ?_;rintro _ ⟨q2,rfl⟩;have HB2:=upB HW q2.b;have Ck:=upK Gk q2.b;have Cr:=upK Gr q2.b;clear hne0 HW HB HC0 k0 k1 k2 k3 k4 k5 r0 r1 r2 r3 r4 r5 tw Gk Gr Bk Br hc1 hb1;have HB:=HB2;clear HB2;have Bk:=Ck;clear Ck;have Br:=Cr;clear Cr;go_wp2_with fail;refine ⟨⟨kq + 1,by omega,by go_num,fun j s hj hs => ?_,HBW1.out.trans (q2.b.mono HBW1.out.size)⟩,by simp [intOf];omega⟩
       by_cases e : j = kq
       ·subst e;rw [HXt.out] at hs;obtain rfl:=Option.some.inj hs;exact ⟨⟨i4,x4,HG1.out,HG2.out⟩,.inl HEm.out⟩
       ·exact HQ2.out j s (by omega) hs
     ·obtain rfl : vl = kq:=by omega
      have HQb : Hid (PSb c p):=fun j t ht => HQ2.out j t (by have h1:=(List.getElem?_eq_some_iff.1 ht).1;have h2:=HVL.out;omega) ht;clear HQ2;have TV2:=hidK (TV.out.below HBW.out);have KV2:=Bk;have GV2:=Br;have BV2:=HB;clear KV GV BV TV Bk Br HB HBW;obtain ⟨W2,hW⟩ : ∃ W2,W2 = wr:=⟨_,rfl⟩;rw [← hW] at KV2 GV2 BV2 TV2
      go_wp2
      clear pr3;rw [← hW];clear hW
      go_loopw [8] (fun i wr => ∃ kz : Nat,kz ≤ k ∧ i = .int .i64 kz ∧ Hid (∀ (j : Nat) q,j < kz → c.ps[j]? = some q → PairS c q p) ∧ Hid (Below W2.heap.size W2 wr)) (fun i _ => k - (intOf i).toNat)
      case atStart => exact ⟨0,by omega,rfl,fun _ _ h => absurd h (by omega),Below.refl _ _⟩
      case round =>
       obtain ⟨kz,hkz,rfl,HQ3,HBW⟩:=hrel;have HB:=hidK (BV2.out.trans (HBW.out.mono BV2.out.size));have Bk:=upK KV2 HBW.out;have Br:=upK GV2 HBW.out;have HTp:=hidK (TV2.out.below HBW.out)
       by_cases hlt3 : kz < k
       ·obtain ⟨b',o',pq,e',hb',hqq,hatq⟩:=pd_at (HR.out.p.below HB.out) (show kz < l5 by omega)
        cases e'
        obtain ⟨qa,ql,qc,hqr,z0,z2,z4,d0,d1,d2,d3,d4,d5⟩:=pd_cells hatq;have HXq:=hidK hqq;have HTq:=hidK hqr;clear hatq hqq hqr z0 z2 z4
        by_cases hpr : PairS c pq p
        ·have HPr:=hidK hpr;clear hpr;have Gk:=Bk;have Gr:=Br;have HW:=HB;obtain ⟨k0,k1,k2,k3,k4,k5⟩:=sl6 Gk;obtain ⟨r0,r1,r2,r3,r4,r5⟩:=sl6 Gr;have q0 : ∀ q : Wd wr,q.w.cell? ⟨b,o + kz * 6,none⟩ = some (.string pq.n):=fun q => (q.cell (hb')).trans (d0);have q1 : ∀ q : Wd wr,q.w.cell? ⟨b,o + kz * 6 + 1,none⟩ = some (.int .i64 pq.c):=fun q => (q.cell (hb')).trans (d1);have q2 : ∀ q : Wd wr,q.w.cell? ⟨b,o + kz * 6 + 2,none⟩ = some (.string pq.z):=fun q => (q.cell (hb')).trans (d2);have q3 : ∀ q : Wd wr,q.w.cell? ⟨b,o + kz * 6 + 3,none⟩ = some (.slice qa ql qc):=fun q => (q.cell (hb')).trans (d3);have q4 : ∀ q : Wd wr,q.w.cell? ⟨b,o + kz * 6 + 4,none⟩ = some (.string pq.d):=fun q => (q.cell (hb')).trans (d4);have q5 : ∀ q : Wd wr,q.w.cell? ⟨b,o + kz * 6 + 5,none⟩ = some (.int .i64 pq.p):=fun q => (q.cell (hb')).trans (d5);have hne0:=Wd.ne wr;have HC0:=hidK (fun qw : Wd wr => (spair_any ⟨a1,l1,y1,a2,l2,y2,a3,l3,y3,a4,l4,y4,(some ⟨b,o,none⟩),l5,y5⟩ c pq p qa ql qc va vl vc qw.w (HR.out.below (HW.out.trans (qw.b.mono HW.out.size))) HX.out HV.out HNE.out (HTq.out.below qw.b) (HTp.out.below qw.b)).mono (fun _ _ h => BoolB.yes h HPr.out));go_wp2_with fail;refine wp_region_wide (by kernel_rfl) (by kernel_rfl) ?_
         repeat (go_big_quiet_step (first | (go_at_call 127;exact Calls.wide (HC0.out _)) | fail))
         refine wpQuiet_nil ?_;rintro _ ⟨q9,rfl⟩;have HB1:=upB HW q9.b;have Ck:=upK Gk q9.b;have Cr:=upK Gr q9.b;clear hne0 HW HB HC0 k0 k1 k2 k3 k4 k5 r0 r1 r2 r3 r4 r5 q0 q1 q2 q3 q4 q5 Gk Gr Bk Br d0 d1 d2 d3 d4 d5;have HB:=HB1;clear HB1;have Bk:=Ck;clear Ck;have Br:=Cr;clear Cr;go_wp2_with fail;refine ⟨⟨kz + 1,by omega,by go_num,fun j s hj hs => ?_,HBW.out.trans (q9.b.mono HBW.out.size)⟩,by simp [intOf];omega⟩
         by_cases e : j = kz
         ·subst e;rw [HXq.out] at hs;obtain rfl:=Option.some.inj hs;exact HPr.out
         ·exact HQ3.out j s (by omega) hs
        ·have HPr:=hidK hpr;clear hpr;have Gk:=Bk;have Gr:=Br;have HW:=HB;obtain ⟨k0,k1,k2,k3,k4,k5⟩:=sl6 Gk;obtain ⟨r0,r1,r2,r3,r4,r5⟩:=sl6 Gr;have q0 : ∀ q : Wd wr,q.w.cell? ⟨b,o + kz * 6,none⟩ = some (.string pq.n):=fun q => (q.cell (hb')).trans (d0);have q1 : ∀ q : Wd wr,q.w.cell? ⟨b,o + kz * 6 + 1,none⟩ = some (.int .i64 pq.c):=fun q => (q.cell (hb')).trans (d1);have q2 : ∀ q : Wd wr,q.w.cell? ⟨b,o + kz * 6 + 2,none⟩ = some (.string pq.z):=fun q => (q.cell (hb')).trans (d2);have q3 : ∀ q : Wd wr,q.w.cell? ⟨b,o + kz * 6 + 3,none⟩ = some (.slice qa ql qc):=fun q => (q.cell (hb')).trans (d3);have q4 : ∀ q : Wd wr,q.w.cell? ⟨b,o + kz * 6 + 4,none⟩ = some (.string pq.d):=fun q => (q.cell (hb')).trans (d4);have q5 : ∀ q : Wd wr,q.w.cell? ⟨b,o + kz * 6 + 5,none⟩ = some (.int .i64 pq.p):=fun q => (q.cell (hb')).trans (d5);have hne0:=Wd.ne wr;have HC0:=hidK (fun qw : Wd wr => (spair_any ⟨a1,l1,y1,a2,l2,y2,a3,l3,y3,a4,l4,y4,(some ⟨b,o,none⟩),l5,y5⟩ c pq p qa ql qc va vl vc qw.w (HR.out.below (HW.out.trans (qw.b.mono HW.out.size))) HX.out HV.out HNE.out (HTq.out.below qw.b) (HTp.out.below qw.b)).mono (fun _ _ h => BoolB.no h HPr.out));go_wp2_with fail;refine wp_region_wide (by kernel_rfl) (by kernel_rfl) ?_
         repeat (go_big_quiet_step (first | (go_at_call 127;exact Calls.wide (HC0.out _)) | fail))
         refine wpQuiet_nil ?_;rintro _ ⟨q9,rfl⟩;have HB1:=upB HW q9.b;have Ck:=upK Gk q9.b;have Cr:=upK Gr q9.b;clear hne0 HW HB HC0 k0 k1 k2 k3 k4 k5 r0 r1 r2 r3 r4 r5 q0 q1 q2 q3 q4 q5 Gk Gr Bk Br d0 d1 d2 d3 d4 d5;have HB:=HB1;clear HB1;have Bk:=Ck;clear Ck;have Br:=Cr;clear Cr
         go_wp2
         go_ret;exact BoolB.f (fun h => HPr.out ((h.1 k p HXp.out).2.2 kz pq hlt3 HXq.out)) HB.out
       ·obtain rfl : k = kz:=by omega
        go_wp2_with fail;refine ⟨⟨k + 1,by omega,by go_num,fun j z hj hz => ?_,HB.out,Bk.out⟩,by simp [intOf];omega⟩
        by_cases e : j = k
        ·subst e;rw [HXp.out] at hz;obtain rfl:=Option.some.inj hz;exact ⟨HPa.out,HQb.out,fun j2 q2 hj2 hq2 => HQ3.out j2 q2 hj2 hq2⟩
        ·exact HQ.out j z (by omega) hz
   have hq:=isE_no he;have HEm:=hidK he;clear he
   rcases hf with ⟨j1,n,h1,h2,rfl⟩ | ⟨hh,rfl⟩
   rotate_left
   ·have HH:=hidK hh;clear hh;have Gk:=Bk;have Gr:=Br;have HW:=HB;have k0:=fun q : Wd w1 => q.slot (o:=0) Gk.out rfl;obtain ⟨r0,r1,r2,r3,r4,r5⟩:=sl6 Gr;have hne0:=Wd.ne w1;go_wp2_with fail;refine wp_region_wide (by kernel_rfl) (by kernel_rfl) ?_
    repeat (go_big_quiet_step (first | fail))
    refine wpQuiet_nil ?_;rintro _ ⟨q0,rfl⟩;have HB2:=upB HW q0.b;have Ck:=upK Gk q0.b;have Cr:=upK Gr q0.b;have CHTp:=hidK ((HTp.out).below q0.b);clear hne0 HW HB k0 r0 r1 r2 r3 r4 r5 Gk Gr Bk Br HTp;have HB:=HB2;clear HB2;have HTp:=CHTp;clear CHTp;have Bk:=Ck;clear Ck;have Br:=Cr;clear Cr
    go_wp2
    go_ret;refine BoolB.f (fun h => ?_) HB.out
    rcases (h.1 k p HXp.out).1 with h2 | ⟨i,n,h2,h3,_⟩
    ·exact HEm.out h2
    ·exact HH.out i n h2 h3
   have hl1' : j1 < l1:=by have h3:=(List.getElem?_eq_some_iff.1 h1).1;omega
   obtain ⟨b1,o1,n',rfl,hb1n,hn',hat⟩:=nd_at HR.out.n hl1';rw [h1] at hn';obtain rfl:=Option.some.inj hn';obtain ⟨na,nl,nc,hnr,z0,z1,d0,d1,d2,d3,d4,d5,d6⟩:=nd_cells hat;have HJn:=hidK h1;have HNn:=hidK h2;have HCn:=hidK d1;have HBn:=hidK hb1n
   have hj11 : decide ((j1 : Int) < 0) = false:=by simp
   have hbn : b1 < w1.heap.size:=Nat.lt_of_lt_of_le hb1n HB.out.size;have n1:=(cell_below HB.out hb1n).trans d1;clear hn' hat hnr z0 z1 d0 d1 d2 d3 d4 d5 d6 h1 h2 hb1n
   by_cases hz0 : p.z = ⟨#[]⟩
   ·have hq2:=isE_y hz0;have HPa : Hid (PSa c p):=.inr ⟨j1,n,HJn.out,HNn.out,.inl hz0⟩;clear hz0;have Gk:=Bk;have Gr:=Br;have HW:=HB;have k0:=fun q : Wd w1 => q.slot (o:=0) Gk.out rfl;obtain ⟨r0,r1,r2,r3,r4,r5⟩:=sl6 Gr;have nw:=fun q : Wd w1 => (q.cell hbn).trans n1;have hne0:=Wd.ne w1;go_wp2_with fail;refine wp_region_wide (by kernel_rfl) (by kernel_rfl) ?_
    repeat (go_big_quiet_step (first | fail))
    refine wpQuiet_nil ?_;rintro _ ⟨q0,rfl⟩;have HB2:=upB HW q0.b;have Ck:=upK Gk q0.b;have Cr:=upK Gr q0.b;have CHTp:=hidK ((HTp.out).below q0.b);clear hne0 HW HB k0 r0 r1 r2 r3 r4 r5 nw Gk Gr Bk Br HTp hbn n1;have HB:=HB2;clear HB2;have HTp:=CHTp;clear CHTp;have Bk:=Ck;clear Ck;have Br:=Cr;clear Cr;clear hq2;obtain ⟨gb,hgb⟩ : ∃ gb,gb = wr.heap.size:=⟨_,rfl⟩;rw [← hgb] at Br;have pr3 : q0.w.cell? ⟨gb,3,none⟩ = some (.slice va vl vc):=cellK Br.out 3;rw [hgb] at pr3
    go_wp2
    rw [← hgb];clear pr3 hgb;have KV:=Bk;have GV:=Br;have BV:=HB;have TV:=HTp;clear Bk Br HB HTp;obtain ⟨W,hW⟩ : ∃ W,W = q0.w:=⟨_,rfl⟩;rw [← hW] at KV GV BV TV ⊢;clear hW
    go_loopw [6] (fun i wr => ∃ kq : Nat,kq ≤ vl ∧ i = .int .i64 kq ∧ Hid (∀ (j : Nat) t,j < kq → p.zs[j]? = some t → PSb1 c p t) ∧ Hid (Below W.heap.size W wr)) (fun i _ => vl - (intOf i).toNat)
    case atStart => exact ⟨0,by omega,rfl,fun _ _ h => absurd h (by omega),Below.refl _ _⟩
    case round =>
     obtain ⟨kq,hkq,rfl,HQ2,HBW⟩:=hrel;have HB:=hidK (BV.out.trans (HBW.out.mono BV.out.size));have Bk:=upK KV HBW.out;have Br:=upK GV HBW.out;have pr3 : wr.cell? ⟨gb,3,none⟩ = some (.slice va vl vc):=cellK Br.out 3
     by_cases hlt2 : kq < vl
     ·obtain ⟨b2,o2,t,rfl,hb,hxt,hc,hsz⟩:=(TV.out.below HBW.out).at hlt2;have HXt:=hidK hxt;clear hxt hsz
      have hcase : (∃ v,IsBd c t v) ∨ (∀ v,¬ IsBd c t v):=by
       by_cases h : ∃ v,IsBd c t v
       ·exact .inl h
       ·exact .inr (fun v hv => h ⟨v,hv⟩)
      rcases hcase with ⟨v,hbd⟩ | hbd
      ·obtain ⟨j3,hj3⟩:=hbd.at
       have hl3' : j3 < l3:=by have h1:=(List.getElem?_eq_some_iff.1 hj3).1;omega
       obtain ⟨b3,o3,v',rfl,hb3,hv',hat⟩:=vd_at HR.out.v hl3';rw [hj3] at hv';obtain rfl:=Option.some.inj hv';obtain ⟨xa,xl,xc,hvr,z0,z2,z3,z5,d0,d1,d2,d3,d4,d5,d6,d7⟩:=vd_cells hat;have HJ:=hidK hj3;have HD:=hidK hbd;have HC2:=hidK d2;have HB3:=hidK hb3
       have hj31 : decide ((j3 : Int) < 0) = false:=by simp
       clear hv' hat hvr z0 z2 z3 z5 d0 d1 d2 d3 d4 d5 d6 d7 hj3 hbd hb3;have Gk:=Bk;have Gr:=Br;have HW:=HB;obtain ⟨k0,k1,k2,k3,k4,k5⟩:=sl6 Gk;have r3:=fun q : Wd wr => q.slot (o:=3) Gr.out rfl;have tw:=fun q : Wd wr => (q.cell hb).trans hc;have hne0:=Wd.ne wr;have HC0:=hidK (fun q : Wd wr => sbind_hit ⟨(some ⟨b1,o1,none⟩),l1,y1,a2,l2,y2,(some ⟨b3,o3,none⟩),l3,y3,a4,l4,y4,(some ⟨b,o,none⟩),l5,y5⟩ c t q.w (HR.out.below (HW.out.trans (q.b.mono HW.out.size))) HX.out HV.out HNE.out HJ.out HD.out);go_wp2_with fail;refine wp_region_wide (by kernel_rfl) (by kernel_rfl) ?_
       repeat (go_big_quiet_step (first | (go_at_call 24;exact Calls.wide (HC0.out _)) | fail))
       refine wpQuiet_nil ?_;rintro _ ⟨q1,rfl⟩;have HB1:=upB HW q1.b;have Ck:=upK Gk q1.b;have Cr:=upK Gr q1.b;clear hne0 HW HB HC0 k0 k1 k2 k3 k4 k5 r3 tw Gk Gr Bk Br pr3;have HB:=HB1;clear HB1;have Bk:=Ck;clear Ck;have Br:=Cr;clear Cr;have hc1:=(q1.cell hb).trans hc;have hb1 : b2 < q1.w.heap.size:=Nat.lt_of_lt_of_le hb q1.b.size;have HBW1:=upB HBW q1.b;clear hc hb HBW
       by_cases hg : ∃ (i : Nat) (x : Xd),c.xs[i]? = some x ∧ x.n = t
       rotate_left
       ·have HG:=hidK hg;clear hg;have Gk:=Bk;have Gr:=Br;have HW:=HB;obtain ⟨k0,k1,k2,k3,k4,k5⟩:=sl6 Gk;obtain ⟨r0,r1,r2,r3,r4,r5⟩:=sl6 Gr;have tw:=fun q : Wd q1.w => (q.cell hb1).trans hc1;have hne0:=Wd.ne q1.w;have HC0:=hidK (fun q : Wd q1.w => sxxd_miss ⟨(some ⟨b1,o1,none⟩),l1,y1,a2,l2,y2,(some ⟨b3,o3,none⟩),l3,y3,a4,l4,y4,(some ⟨b,o,none⟩),l5,y5⟩ c.now c.xs t q.w (HR.out.x.below (HW.out.trans (q.b.mono HW.out.size))) (fun i x h1 h2 => HG.out ⟨i,x,h1,h2⟩));go_wp2_with fail;refine wp_region_wide (by kernel_rfl) (by kernel_rfl) ?_
        repeat (go_big_quiet_step (first | (go_at_call 23;exact Calls.wide (HC0.out _)) | fail))
        refine wpQuiet_nil ?_;rintro _ ⟨q2,rfl⟩;have HB2:=upB HW q2.b;have Ck:=upK Gk q2.b;have Cr:=upK Gr q2.b;clear hne0 HW HB HC0 k0 k1 k2 k3 k4 k5 r0 r1 r2 r3 r4 r5 tw Gk Gr Bk Br hc1 hb1;have HB:=HB2;clear HB2;have Bk:=Ck;clear Ck;have Br:=Cr;clear Cr
        go_wp2
        go_ret;refine BoolB.f (fun h => ?_) HB.out;have h9:=(h.1 k p HXp.out).2.1 kq t HXt.out;exact HG.out h9.1
       obtain ⟨i4,x4,g1,g2⟩:=hg;have HG1:=hidK g1;have HG2:=hidK g2
       have hi41 : decide ((i4 : Int) < 0) = false:=by simp
       clear g1 g2;have hbv : b3 < q1.w.heap.size:=Nat.lt_of_lt_of_le HB3.out HB.out.size;have v2:=(cell_below HB.out HB3.out).trans HC2.out;have hbn : b1 < q1.w.heap.size:=Nat.lt_of_lt_of_le HBn.out HB.out.size;have n1:=(cell_below HB.out HBn.out).trans HCn.out
       by_cases hz : v.z = n.z
       ·have hzq:=tl_yes hz;have HZ:=hidK hz;clear hz;have Gk:=Bk;have Gr:=Br;have HW:=HB;obtain ⟨k0,k1,k2,k3,k4,k5⟩:=sl6 Gk;obtain ⟨r0,r1,r2,r3,r4,r5⟩:=sl6 Gr;have tw:=fun q : Wd q1.w => (q.cell hb1).trans hc1;have vw:=fun q : Wd q1.w => (q.cell hbv).trans v2;have nw:=fun q : Wd q1.w => (q.cell hbn).trans n1;have hne0:=Wd.ne q1.w;have HC0:=hidK (fun q : Wd q1.w => sxxd_hit ⟨(some ⟨b1,o1,none⟩),l1,y1,a2,l2,y2,(some ⟨b3,o3,none⟩),l3,y3,a4,l4,y4,(some ⟨b,o,none⟩),l5,y5⟩ c.now c.xs t q.w (HR.out.x.below (HW.out.trans (q.b.mono HW.out.size))) HX.out HG1.out HG2.out);go_wp2_with fail;refine wp_region_wide (by kernel_rfl) (by kernel_rfl) ?_
        repeat (go_big_quiet_step (first | (go_at_call 23;exact Calls.wide (HC0.out _)) | fail))
        refine wpQuiet_nil ?_;rintro _ ⟨q2,rfl⟩;have HB2:=upB HW q2.b;have Ck:=upK Gk q2.b;have Cr:=upK Gr q2.b;clear hne0 HW HB HC0 k0 k1 k2 k3 k4 k5 r0 r1 r2 r3 r4 r5 tw vw nw Gk Gr Bk Br hc1 hb1 hbv v2 hbn n1;have HB:=HB2;clear HB2;have Bk:=Ck;clear Ck;have Br:=Cr;clear Cr;clear hzq;go_wp2_with fail;refine ⟨⟨kq + 1,by omega,by go_num,fun j s hj hs => ?_,HBW1.out.trans (q2.b.mono HBW1.out.size)⟩,by simp [intOf];omega⟩
        by_cases e : j = kq
        ·subst e;rw [HXt.out] at hs;obtain rfl:=Option.some.inj hs;exact ⟨⟨i4,x4,HG1.out,HG2.out⟩,.inr ⟨v,j1,n,HD.out,HJn.out,HNn.out,HZ.out⟩⟩
        ·exact HQ2.out j s (by omega) hs
       ·have hzq:=tl_no hz;have HZ:=hidK hz;clear hz;have Gk:=Bk;have Gr:=Br;have HW:=HB;obtain ⟨k0,k1,k2,k3,k4,k5⟩:=sl6 Gk;obtain ⟨r0,r1,r2,r3,r4,r5⟩:=sl6 Gr;have tw:=fun q : Wd q1.w => (q.cell hb1).trans hc1;have vw:=fun q : Wd q1.w => (q.cell hbv).trans v2;have nw:=fun q : Wd q1.w => (q.cell hbn).trans n1;have hne0:=Wd.ne q1.w;have HC0:=hidK (fun q : Wd q1.w => sxxd_hit ⟨(some ⟨b1,o1,none⟩),l1,y1,a2,l2,y2,(some ⟨b3,o3,none⟩),l3,y3,a4,l4,y4,(some ⟨b,o,none⟩),l5,y5⟩ c.now c.xs t q.w (HR.out.x.below (HW.out.trans (q.b.mono HW.out.size))) HX.out HG1.out HG2.out);go_wp2_with fail;refine wp_region_wide (by kernel_rfl) (by kernel_rfl) ?_
        repeat (go_big_quiet_step (first | (go_at_call 23;exact Calls.wide (HC0.out _)) | fail))
        refine wpQuiet_nil ?_;rintro _ ⟨q2,rfl⟩;have HB2:=upB HW q2.b;have Ck:=upK Gk q2.b;have Cr:=upK Gr q2.b;clear hne0 HW HB HC0 k0 k1 k2 k3 k4 k5 r0 r1 r2 r3 r4 r5 tw vw nw Gk Gr Bk Br hc1 hb1 hbv v2 hbn n1;have HB:=HB2;clear HB2;have Bk:=Ck;clear Ck;have Br:=Cr;clear Cr
        go_wp2
        go_ret;refine BoolB.f (fun h => ?_) HB.out;have h9:=(h.1 k p HXp.out).2.1 kq t HXt.out
        rcases h9.2 with h2 | ⟨v',i,n',h2,h3,h4,h5⟩
        ·exact HEm.out h2
        ·obtain rfl:=IsBd.inj HX.out HV.out HD.out h2;obtain ⟨_,rfl⟩:=HNR.out.inj h3 HJn.out (h4.trans HNn.out.symm);exact HZ.out h5
      ·have HD:=hidK hbd;clear hbd;have Gk:=Bk;have Gr:=Br;have HW:=HB;obtain ⟨k0,k1,k2,k3,k4,k5⟩:=sl6 Gk;have r3:=fun q : Wd wr => q.slot (o:=3) Gr.out rfl;have tw:=fun q : Wd wr => (q.cell hb).trans hc;have hne0:=Wd.ne wr;have HC0:=hidK (fun q : Wd wr => sbind_miss ⟨(some ⟨b1,o1,none⟩),l1,y1,a2,l2,y2,a3,l3,y3,a4,l4,y4,(some ⟨b,o,none⟩),l5,y5⟩ c t q.w (HR.out.below (HW.out.trans (q.b.mono HW.out.size))) HX.out HV.out HNE.out HD.out);go_wp2_with fail;refine wp_region_wide (by kernel_rfl) (by kernel_rfl) ?_
       repeat (go_big_quiet_step (first | (go_at_call 24;exact Calls.wide (HC0.out _)) | fail))
       refine wpQuiet_nil ?_;rintro _ ⟨q1,rfl⟩;have HB1:=upB HW q1.b;have Ck:=upK Gk q1.b;have Cr:=upK Gr q1.b;clear hne0 HW HB HC0 k0 k1 k2 k3 k4 k5 r3 tw Gk Gr Bk Br pr3;have HB:=HB1;clear HB1;have Bk:=Ck;clear Ck;have Br:=Cr;clear Cr;have hc1:=(q1.cell hb).trans hc;have hb1 : b2 < q1.w.heap.size:=Nat.lt_of_lt_of_le hb q1.b.size;have HBW1:=upB HBW q1.b;clear hc hb HBW
       by_cases hg : ∃ (i : Nat) (x : Xd),c.xs[i]? = some x ∧ x.n = t
       rotate_left
       ·have HG:=hidK hg;clear hg;have Gk:=Bk;have Gr:=Br;have HW:=HB;obtain ⟨k0,k1,k2,k3,k4,k5⟩:=sl6 Gk;obtain ⟨r0,r1,r2,r3,r4,r5⟩:=sl6 Gr;have tw:=fun q : Wd q1.w => (q.cell hb1).trans hc1;have hne0:=Wd.ne q1.w;have HC0:=hidK (fun q : Wd q1.w => sxxd_miss ⟨(some ⟨b1,o1,none⟩),l1,y1,a2,l2,y2,a3,l3,y3,a4,l4,y4,(some ⟨b,o,none⟩),l5,y5⟩ c.now c.xs t q.w (HR.out.x.below (HW.out.trans (q.b.mono HW.out.size))) (fun i x h1 h2 => HG.out ⟨i,x,h1,h2⟩));go_wp2_with fail;refine wp_region_wide (by kernel_rfl) (by kernel_rfl) ?_
        repeat (go_big_quiet_step (first | (go_at_call 23;exact Calls.wide (HC0.out _)) | fail))
        refine wpQuiet_nil ?_;rintro _ ⟨q2,rfl⟩;have HB2:=upB HW q2.b;have Ck:=upK Gk q2.b;have Cr:=upK Gr q2.b;clear hne0 HW HB HC0 k0 k1 k2 k3 k4 k5 r0 r1 r2 r3 r4 r5 tw Gk Gr Bk Br hc1 hb1;have HB:=HB2;clear HB2;have Bk:=Ck;clear Ck;have Br:=Cr;clear Cr
        go_wp2
        go_ret;refine BoolB.f (fun h => ?_) HB.out;have h9:=(h.1 k p HXp.out).2.1 kq t HXt.out;exact HG.out h9.1
       obtain ⟨i4,x4,g1,g2⟩:=hg;have HG1:=hidK g1;have HG2:=hidK g2
       have hi41 : decide ((i4 : Int) < 0) = false:=by simp
       clear g1 g2;have Gk:=Bk;have Gr:=Br;have HW:=HB;obtain ⟨k0,k1,k2,k3,k4,k5⟩:=sl6 Gk;obtain ⟨r0,r1,r2,r3,r4,r5⟩:=sl6 Gr;have tw:=fun q : Wd q1.w => (q.cell hb1).trans hc1;have hne0:=Wd.ne q1.w;have HC0:=hidK (fun q : Wd q1.w => sxxd_hit ⟨(some ⟨b1,o1,none⟩),l1,y1,a2,l2,y2,a3,l3,y3,a4,l4,y4,(some ⟨b,o,none⟩),l5,y5⟩ c.now c.xs t q.w (HR.out.x.below (HW.out.trans (q.b.mono HW.out.size))) HX.out HG1.out HG2.out);go_wp2_with fail;refine wp_region_wide (by kernel_rfl) (by kernel_rfl) ?_
       repeat (go_big_quiet_step (first | (go_at_call 23;exact Calls.wide (HC0.out _)) | fail))
       refine wpQuiet_nil ?_;rintro _ ⟨q2,rfl⟩;have HB2:=upB HW q2.b;have Ck:=upK Gk q2.b;have Cr:=upK Gr q2.b;clear hne0 HW HB HC0 k0 k1 k2 k3 k4 k5 r0 r1 r2 r3 r4 r5 tw Gk Gr Bk Br hc1 hb1;have HB:=HB2;clear HB2;have Bk:=Ck;clear Ck;have Br:=Cr;clear Cr
       go_wp2
       go_ret;refine BoolB.f (fun h => ?_) HB.out;have h9:=(h.1 k p HXp.out).2.1 kq t HXt.out
       rcases h9.2 with h2 | ⟨v',i,n',h2,_⟩
       ·exact HEm.out h2
       ·exact HD.out v' h2
     ·obtain rfl : vl = kq:=by omega
      have HQb : Hid (PSb c p):=fun j t ht => HQ2.out j t (by have h1:=(List.getElem?_eq_some_iff.1 ht).1;have h2:=HVL.out;omega) ht;clear HQ2;have TV2:=hidK (TV.out.below HBW.out);have KV2:=Bk;have GV2:=Br;have BV2:=HB;clear KV GV BV TV Bk Br HB HBW;obtain ⟨W2,hW⟩ : ∃ W2,W2 = wr:=⟨_,rfl⟩;rw [← hW] at KV2 GV2 BV2 TV2
      go_wp2
      clear pr3;rw [← hW];clear hW
      go_loopw [8] (fun i wr => ∃ kz : Nat,kz ≤ k ∧ i = .int .i64 kz ∧ Hid (∀ (j : Nat) q,j < kz → c.ps[j]? = some q → PairS c q p) ∧ Hid (Below W2.heap.size W2 wr)) (fun i _ => k - (intOf i).toNat)
      case atStart => exact ⟨0,by omega,rfl,fun _ _ h => absurd h (by omega),Below.refl _ _⟩
      case round =>
       obtain ⟨kz,hkz,rfl,HQ3,HBW⟩:=hrel;have HB:=hidK (BV2.out.trans (HBW.out.mono BV2.out.size));have Bk:=upK KV2 HBW.out;have Br:=upK GV2 HBW.out;have HTp:=hidK (TV2.out.below HBW.out)
       by_cases hlt3 : kz < k
       ·obtain ⟨b',o',pq,e',hb',hqq,hatq⟩:=pd_at (HR.out.p.below HB.out) (show kz < l5 by omega)
        cases e'
        obtain ⟨qa,ql,qc,hqr,z0,z2,z4,d0,d1,d2,d3,d4,d5⟩:=pd_cells hatq;have HXq:=hidK hqq;have HTq:=hidK hqr;clear hatq hqq hqr z0 z2 z4
        by_cases hpr : PairS c pq p
        ·have HPr:=hidK hpr;clear hpr;have Gk:=Bk;have Gr:=Br;have HW:=HB;obtain ⟨k0,k1,k2,k3,k4,k5⟩:=sl6 Gk;obtain ⟨r0,r1,r2,r3,r4,r5⟩:=sl6 Gr;have q0 : ∀ q : Wd wr,q.w.cell? ⟨b,o + kz * 6,none⟩ = some (.string pq.n):=fun q => (q.cell (hb')).trans (d0);have q1 : ∀ q : Wd wr,q.w.cell? ⟨b,o + kz * 6 + 1,none⟩ = some (.int .i64 pq.c):=fun q => (q.cell (hb')).trans (d1);have q2 : ∀ q : Wd wr,q.w.cell? ⟨b,o + kz * 6 + 2,none⟩ = some (.string pq.z):=fun q => (q.cell (hb')).trans (d2);have q3 : ∀ q : Wd wr,q.w.cell? ⟨b,o + kz * 6 + 3,none⟩ = some (.slice qa ql qc):=fun q => (q.cell (hb')).trans (d3);have q4 : ∀ q : Wd wr,q.w.cell? ⟨b,o + kz * 6 + 4,none⟩ = some (.string pq.d):=fun q => (q.cell (hb')).trans (d4);have q5 : ∀ q : Wd wr,q.w.cell? ⟨b,o + kz * 6 + 5,none⟩ = some (.int .i64 pq.p):=fun q => (q.cell (hb')).trans (d5);have hne0:=Wd.ne wr;have HC0:=hidK (fun qw : Wd wr => (spair_any ⟨(some ⟨b1,o1,none⟩),l1,y1,a2,l2,y2,a3,l3,y3,a4,l4,y4,(some ⟨b,o,none⟩),l5,y5⟩ c pq p qa ql qc va vl vc qw.w (HR.out.below (HW.out.trans (qw.b.mono HW.out.size))) HX.out HV.out HNE.out (HTq.out.below qw.b) (HTp.out.below qw.b)).mono (fun _ _ h => BoolB.yes h HPr.out));go_wp2_with fail;refine wp_region_wide (by kernel_rfl) (by kernel_rfl) ?_
         repeat (go_big_quiet_step (first | (go_at_call 127;exact Calls.wide (HC0.out _)) | fail))
         refine wpQuiet_nil ?_;rintro _ ⟨q9,rfl⟩;have HB1:=upB HW q9.b;have Ck:=upK Gk q9.b;have Cr:=upK Gr q9.b;clear hne0 HW HB HC0 k0 k1 k2 k3 k4 k5 r0 r1 r2 r3 r4 r5 q0 q1 q2 q3 q4 q5 Gk Gr Bk Br d0 d1 d2 d3 d4 d5;have HB:=HB1;clear HB1;have Bk:=Ck;clear Ck;have Br:=Cr;clear Cr;go_wp2_with fail;refine ⟨⟨kz + 1,by omega,by go_num,fun j s hj hs => ?_,HBW.out.trans (q9.b.mono HBW.out.size)⟩,by simp [intOf];omega⟩
         by_cases e : j = kz
         ·subst e;rw [HXq.out] at hs;obtain rfl:=Option.some.inj hs;exact HPr.out
         ·exact HQ3.out j s (by omega) hs
        ·have HPr:=hidK hpr;clear hpr;have Gk:=Bk;have Gr:=Br;have HW:=HB;obtain ⟨k0,k1,k2,k3,k4,k5⟩:=sl6 Gk;obtain ⟨r0,r1,r2,r3,r4,r5⟩:=sl6 Gr;have q0 : ∀ q : Wd wr,q.w.cell? ⟨b,o + kz * 6,none⟩ = some (.string pq.n):=fun q => (q.cell (hb')).trans (d0);have q1 : ∀ q : Wd wr,q.w.cell? ⟨b,o + kz * 6 + 1,none⟩ = some (.int .i64 pq.c):=fun q => (q.cell (hb')).trans (d1);have q2 : ∀ q : Wd wr,q.w.cell? ⟨b,o + kz * 6 + 2,none⟩ = some (.string pq.z):=fun q => (q.cell (hb')).trans (d2);have q3 : ∀ q : Wd wr,q.w.cell? ⟨b,o + kz * 6 + 3,none⟩ = some (.slice qa ql qc):=fun q => (q.cell (hb')).trans (d3);have q4 : ∀ q : Wd wr,q.w.cell? ⟨b,o + kz * 6 + 4,none⟩ = some (.string pq.d):=fun q => (q.cell (hb')).trans (d4);have q5 : ∀ q : Wd wr,q.w.cell? ⟨b,o + kz * 6 + 5,none⟩ = some (.int .i64 pq.p):=fun q => (q.cell (hb')).trans (d5);have hne0:=Wd.ne wr;have HC0:=hidK (fun qw : Wd wr => (spair_any ⟨(some ⟨b1,o1,none⟩),l1,y1,a2,l2,y2,a3,l3,y3,a4,l4,y4,(some ⟨b,o,none⟩),l5,y5⟩ c pq p qa ql qc va vl vc qw.w (HR.out.below (HW.out.trans (qw.b.mono HW.out.size))) HX.out HV.out HNE.out (HTq.out.below qw.b) (HTp.out.below qw.b)).mono (fun _ _ h => BoolB.no h HPr.out));go_wp2_with fail;refine wp_region_wide (by kernel_rfl) (by kernel_rfl) ?_
         repeat (go_big_quiet_step (first | (go_at_call 127;exact Calls.wide (HC0.out _)) | fail))
         refine wpQuiet_nil ?_;rintro _ ⟨q9,rfl⟩;have HB1:=upB HW q9.b;have Ck:=upK Gk q9.b;have Cr:=upK Gr q9.b;clear hne0 HW HB HC0 k0 k1 k2 k3 k4 k5 r0 r1 r2 r3 r4 r5 q0 q1 q2 q3 q4 q5 Gk Gr Bk Br d0 d1 d2 d3 d4 d5;have HB:=HB1;clear HB1;have Bk:=Ck;clear Ck;have Br:=Cr;clear Cr
         go_wp2
         go_ret;exact BoolB.f (fun h => HPr.out ((h.1 k p HXp.out).2.2 kz pq hlt3 HXq.out)) HB.out
       ·obtain rfl : k = kz:=by omega
        go_wp2_with fail;refine ⟨⟨k + 1,by omega,by go_num,fun j z hj hz => ?_,HB.out,Bk.out⟩,by simp [intOf];omega⟩
        by_cases e : j = k
        ·subst e;rw [HXp.out] at hz;obtain rfl:=Option.some.inj hz;exact ⟨HPa.out,HQb.out,fun j2 q2 hj2 hq2 => HQ3.out j2 q2 hj2 hq2⟩
        ·exact HQ.out j z (by omega) hz
   have hq2:=isE_no hz0
   by_cases hz1 : n.z = p.z
   ·have hq3:=tl_yes hz1;have HPa : Hid (PSa c p):=.inr ⟨j1,n,HJn.out,HNn.out,.inr hz1⟩;clear hz0 hz1;have Gk:=Bk;have Gr:=Br;have HW:=HB;have k0:=fun q : Wd w1 => q.slot (o:=0) Gk.out rfl;obtain ⟨r0,r1,r2,r3,r4,r5⟩:=sl6 Gr;have nw:=fun q : Wd w1 => (q.cell hbn).trans n1;have hne0:=Wd.ne w1;go_wp2_with fail;refine wp_region_wide (by kernel_rfl) (by kernel_rfl) ?_
    repeat (go_big_quiet_step (first | fail))
    refine wpQuiet_nil ?_;rintro _ ⟨q0,rfl⟩;have HB2:=upB HW q0.b;have Ck:=upK Gk q0.b;have Cr:=upK Gr q0.b;have CHTp:=hidK ((HTp.out).below q0.b);clear hne0 HW HB k0 r0 r1 r2 r3 r4 r5 nw Gk Gr Bk Br HTp hbn n1;have HB:=HB2;clear HB2;have HTp:=CHTp;clear CHTp;have Bk:=Ck;clear Ck;have Br:=Cr;clear Cr;clear hq2 hq3;obtain ⟨gb,hgb⟩ : ∃ gb,gb = wr.heap.size:=⟨_,rfl⟩;rw [← hgb] at Br;have pr3 : q0.w.cell? ⟨gb,3,none⟩ = some (.slice va vl vc):=cellK Br.out 3;rw [hgb] at pr3
    go_wp2
    rw [← hgb];clear pr3 hgb;have KV:=Bk;have GV:=Br;have BV:=HB;have TV:=HTp;clear Bk Br HB HTp;obtain ⟨W,hW⟩ : ∃ W,W = q0.w:=⟨_,rfl⟩;rw [← hW] at KV GV BV TV ⊢;clear hW
    go_loopw [6] (fun i wr => ∃ kq : Nat,kq ≤ vl ∧ i = .int .i64 kq ∧ Hid (∀ (j : Nat) t,j < kq → p.zs[j]? = some t → PSb1 c p t) ∧ Hid (Below W.heap.size W wr)) (fun i _ => vl - (intOf i).toNat)
    case atStart => exact ⟨0,by omega,rfl,fun _ _ h => absurd h (by omega),Below.refl _ _⟩
    case round =>
     obtain ⟨kq,hkq,rfl,HQ2,HBW⟩:=hrel;have HB:=hidK (BV.out.trans (HBW.out.mono BV.out.size));have Bk:=upK KV HBW.out;have Br:=upK GV HBW.out;have pr3 : wr.cell? ⟨gb,3,none⟩ = some (.slice va vl vc):=cellK Br.out 3
     by_cases hlt2 : kq < vl
     ·obtain ⟨b2,o2,t,rfl,hb,hxt,hc,hsz⟩:=(TV.out.below HBW.out).at hlt2;have HXt:=hidK hxt;clear hxt hsz
      have hcase : (∃ v,IsBd c t v) ∨ (∀ v,¬ IsBd c t v):=by
       by_cases h : ∃ v,IsBd c t v
       ·exact .inl h
       ·exact .inr (fun v hv => h ⟨v,hv⟩)
      rcases hcase with ⟨v,hbd⟩ | hbd
      ·obtain ⟨j3,hj3⟩:=hbd.at
       have hl3' : j3 < l3:=by have h1:=(List.getElem?_eq_some_iff.1 hj3).1;omega
       obtain ⟨b3,o3,v',rfl,hb3,hv',hat⟩:=vd_at HR.out.v hl3';rw [hj3] at hv';obtain rfl:=Option.some.inj hv';obtain ⟨xa,xl,xc,hvr,z0,z2,z3,z5,d0,d1,d2,d3,d4,d5,d6,d7⟩:=vd_cells hat;have HJ:=hidK hj3;have HD:=hidK hbd;have HC2:=hidK d2;have HB3:=hidK hb3
       have hj31 : decide ((j3 : Int) < 0) = false:=by simp
       clear hv' hat hvr z0 z2 z3 z5 d0 d1 d2 d3 d4 d5 d6 d7 hj3 hbd hb3;have Gk:=Bk;have Gr:=Br;have HW:=HB;obtain ⟨k0,k1,k2,k3,k4,k5⟩:=sl6 Gk;have r3:=fun q : Wd wr => q.slot (o:=3) Gr.out rfl;have tw:=fun q : Wd wr => (q.cell hb).trans hc;have hne0:=Wd.ne wr;have HC0:=hidK (fun q : Wd wr => sbind_hit ⟨(some ⟨b1,o1,none⟩),l1,y1,a2,l2,y2,(some ⟨b3,o3,none⟩),l3,y3,a4,l4,y4,(some ⟨b,o,none⟩),l5,y5⟩ c t q.w (HR.out.below (HW.out.trans (q.b.mono HW.out.size))) HX.out HV.out HNE.out HJ.out HD.out);go_wp2_with fail;refine wp_region_wide (by kernel_rfl) (by kernel_rfl) ?_
       repeat (go_big_quiet_step (first | (go_at_call 24;exact Calls.wide (HC0.out _)) | fail))
       refine wpQuiet_nil ?_;rintro _ ⟨q1,rfl⟩;have HB1:=upB HW q1.b;have Ck:=upK Gk q1.b;have Cr:=upK Gr q1.b;clear hne0 HW HB HC0 k0 k1 k2 k3 k4 k5 r3 tw Gk Gr Bk Br pr3;have HB:=HB1;clear HB1;have Bk:=Ck;clear Ck;have Br:=Cr;clear Cr;have hc1:=(q1.cell hb).trans hc;have hb1 : b2 < q1.w.heap.size:=Nat.lt_of_lt_of_le hb q1.b.size;have HBW1:=upB HBW q1.b;clear hc hb HBW
       by_cases hg : ∃ (i : Nat) (x : Xd),c.xs[i]? = some x ∧ x.n = t
       rotate_left
       ·have HG:=hidK hg;clear hg;have Gk:=Bk;have Gr:=Br;have HW:=HB;obtain ⟨k0,k1,k2,k3,k4,k5⟩:=sl6 Gk;obtain ⟨r0,r1,r2,r3,r4,r5⟩:=sl6 Gr;have tw:=fun q : Wd q1.w => (q.cell hb1).trans hc1;have hne0:=Wd.ne q1.w;have HC0:=hidK (fun q : Wd q1.w => sxxd_miss ⟨(some ⟨b1,o1,none⟩),l1,y1,a2,l2,y2,(some ⟨b3,o3,none⟩),l3,y3,a4,l4,y4,(some ⟨b,o,none⟩),l5,y5⟩ c.now c.xs t q.w (HR.out.x.below (HW.out.trans (q.b.mono HW.out.size))) (fun i x h1 h2 => HG.out ⟨i,x,h1,h2⟩));go_wp2_with fail;refine wp_region_wide (by kernel_rfl) (by kernel_rfl) ?_
        repeat (go_big_quiet_step (first | (go_at_call 23;exact Calls.wide (HC0.out _)) | fail))
        refine wpQuiet_nil ?_;rintro _ ⟨q2,rfl⟩;have HB2:=upB HW q2.b;have Ck:=upK Gk q2.b;have Cr:=upK Gr q2.b;clear hne0 HW HB HC0 k0 k1 k2 k3 k4 k5 r0 r1 r2 r3 r4 r5 tw Gk Gr Bk Br hc1 hb1;have HB:=HB2;clear HB2;have Bk:=Ck;clear Ck;have Br:=Cr;clear Cr
        go_wp2
        go_ret;refine BoolB.f (fun h => ?_) HB.out;have h9:=(h.1 k p HXp.out).2.1 kq t HXt.out;exact HG.out h9.1
       obtain ⟨i4,x4,g1,g2⟩:=hg;have HG1:=hidK g1;have HG2:=hidK g2
       have hi41 : decide ((i4 : Int) < 0) = false:=by simp
       clear g1 g2;have hbv : b3 < q1.w.heap.size:=Nat.lt_of_lt_of_le HB3.out HB.out.size;have v2:=(cell_below HB.out HB3.out).trans HC2.out;have hbn : b1 < q1.w.heap.size:=Nat.lt_of_lt_of_le HBn.out HB.out.size;have n1:=(cell_below HB.out HBn.out).trans HCn.out
       by_cases hz : v.z = n.z
       ·have hzq:=tl_yes hz;have HZ:=hidK hz;clear hz;have Gk:=Bk;have Gr:=Br;have HW:=HB;obtain ⟨k0,k1,k2,k3,k4,k5⟩:=sl6 Gk;obtain ⟨r0,r1,r2,r3,r4,r5⟩:=sl6 Gr;have tw:=fun q : Wd q1.w => (q.cell hb1).trans hc1;have vw:=fun q : Wd q1.w => (q.cell hbv).trans v2;have nw:=fun q : Wd q1.w => (q.cell hbn).trans n1;have hne0:=Wd.ne q1.w;have HC0:=hidK (fun q : Wd q1.w => sxxd_hit ⟨(some ⟨b1,o1,none⟩),l1,y1,a2,l2,y2,(some ⟨b3,o3,none⟩),l3,y3,a4,l4,y4,(some ⟨b,o,none⟩),l5,y5⟩ c.now c.xs t q.w (HR.out.x.below (HW.out.trans (q.b.mono HW.out.size))) HX.out HG1.out HG2.out);go_wp2_with fail;refine wp_region_wide (by kernel_rfl) (by kernel_rfl) ?_
        repeat (go_big_quiet_step (first | (go_at_call 23;exact Calls.wide (HC0.out _)) | fail))
        refine wpQuiet_nil ?_;rintro _ ⟨q2,rfl⟩;have HB2:=upB HW q2.b;have Ck:=upK Gk q2.b;have Cr:=upK Gr q2.b;clear hne0 HW HB HC0 k0 k1 k2 k3 k4 k5 r0 r1 r2 r3 r4 r5 tw vw nw Gk Gr Bk Br hc1 hb1 hbv v2 hbn n1;have HB:=HB2;clear HB2;have Bk:=Ck;clear Ck;have Br:=Cr;clear Cr;clear hzq;go_wp2_with fail;refine ⟨⟨kq + 1,by omega,by go_num,fun j s hj hs => ?_,HBW1.out.trans (q2.b.mono HBW1.out.size)⟩,by simp [intOf];omega⟩
        by_cases e : j = kq
        ·subst e;rw [HXt.out] at hs;obtain rfl:=Option.some.inj hs;exact ⟨⟨i4,x4,HG1.out,HG2.out⟩,.inr ⟨v,j1,n,HD.out,HJn.out,HNn.out,HZ.out⟩⟩
        ·exact HQ2.out j s (by omega) hs
       ·have hzq:=tl_no hz;have HZ:=hidK hz;clear hz;have Gk:=Bk;have Gr:=Br;have HW:=HB;obtain ⟨k0,k1,k2,k3,k4,k5⟩:=sl6 Gk;obtain ⟨r0,r1,r2,r3,r4,r5⟩:=sl6 Gr;have tw:=fun q : Wd q1.w => (q.cell hb1).trans hc1;have vw:=fun q : Wd q1.w => (q.cell hbv).trans v2;have nw:=fun q : Wd q1.w => (q.cell hbn).trans n1;have hne0:=Wd.ne q1.w;have HC0:=hidK (fun q : Wd q1.w => sxxd_hit ⟨(some ⟨b1,o1,none⟩),l1,y1,a2,l2,y2,(some ⟨b3,o3,none⟩),l3,y3,a4,l4,y4,(some ⟨b,o,none⟩),l5,y5⟩ c.now c.xs t q.w (HR.out.x.below (HW.out.trans (q.b.mono HW.out.size))) HX.out HG1.out HG2.out);go_wp2_with fail;refine wp_region_wide (by kernel_rfl) (by kernel_rfl) ?_
        repeat (go_big_quiet_step (first | (go_at_call 23;exact Calls.wide (HC0.out _)) | fail))
        refine wpQuiet_nil ?_;rintro _ ⟨q2,rfl⟩;have HB2:=upB HW q2.b;have Ck:=upK Gk q2.b;have Cr:=upK Gr q2.b;clear hne0 HW HB HC0 k0 k1 k2 k3 k4 k5 r0 r1 r2 r3 r4 r5 tw vw nw Gk Gr Bk Br hc1 hb1 hbv v2 hbn n1;have HB:=HB2;clear HB2;have Bk:=Ck;clear Ck;have Br:=Cr;clear Cr
        go_wp2
        go_ret;refine BoolB.f (fun h => ?_) HB.out;have h9:=(h.1 k p HXp.out).2.1 kq t HXt.out
        rcases h9.2 with h2 | ⟨v',i,n',h2,h3,h4,h5⟩
        ·exact HEm.out h2
        ·obtain rfl:=IsBd.inj HX.out HV.out HD.out h2;obtain ⟨_,rfl⟩:=HNR.out.inj h3 HJn.out (h4.trans HNn.out.symm);exact HZ.out h5
      ·have HD:=hidK hbd;clear hbd;have Gk:=Bk;have Gr:=Br;have HW:=HB;obtain ⟨k0,k1,k2,k3,k4,k5⟩:=sl6 Gk;have r3:=fun q : Wd wr => q.slot (o:=3) Gr.out rfl;have tw:=fun q : Wd wr => (q.cell hb).trans hc;have hne0:=Wd.ne wr;have HC0:=hidK (fun q : Wd wr => sbind_miss ⟨(some ⟨b1,o1,none⟩),l1,y1,a2,l2,y2,a3,l3,y3,a4,l4,y4,(some ⟨b,o,none⟩),l5,y5⟩ c t q.w (HR.out.below (HW.out.trans (q.b.mono HW.out.size))) HX.out HV.out HNE.out HD.out);go_wp2_with fail;refine wp_region_wide (by kernel_rfl) (by kernel_rfl) ?_
       repeat (go_big_quiet_step (first | (go_at_call 24;exact Calls.wide (HC0.out _)) | fail))
       refine wpQuiet_nil ?_;rintro _ ⟨q1,rfl⟩;have HB1:=upB HW q1.b;have Ck:=upK Gk q1.b;have Cr:=upK Gr q1.b;clear hne0 HW HB HC0 k0 k1 k2 k3 k4 k5 r3 tw Gk Gr Bk Br pr3;have HB:=HB1;clear HB1;have Bk:=Ck;clear Ck;have Br:=Cr;clear Cr;have hc1:=(q1.cell hb).trans hc;have hb1 : b2 < q1.w.heap.size:=Nat.lt_of_lt_of_le hb q1.b.size;have HBW1:=upB HBW q1.b;clear hc hb HBW
       by_cases hg : ∃ (i : Nat) (x : Xd),c.xs[i]? = some x ∧ x.n = t
       rotate_left
       ·have HG:=hidK hg;clear hg;have Gk:=Bk;have Gr:=Br;have HW:=HB;obtain ⟨k0,k1,k2,k3,k4,k5⟩:=sl6 Gk;obtain ⟨r0,r1,r2,r3,r4,r5⟩:=sl6 Gr;have tw:=fun q : Wd q1.w => (q.cell hb1).trans hc1;have hne0:=Wd.ne q1.w;have HC0:=hidK (fun q : Wd q1.w => sxxd_miss ⟨(some ⟨b1,o1,none⟩),l1,y1,a2,l2,y2,a3,l3,y3,a4,l4,y4,(some ⟨b,o,none⟩),l5,y5⟩ c.now c.xs t q.w (HR.out.x.below (HW.out.trans (q.b.mono HW.out.size))) (fun i x h1 h2 => HG.out ⟨i,x,h1,h2⟩));go_wp2_with fail;refine wp_region_wide (by kernel_rfl) (by kernel_rfl) ?_
        repeat (go_big_quiet_step (first | (go_at_call 23;exact Calls.wide (HC0.out _)) | fail))
        refine wpQuiet_nil ?_;rintro _ ⟨q2,rfl⟩;have HB2:=upB HW q2.b;have Ck:=upK Gk q2.b;have Cr:=upK Gr q2.b;clear hne0 HW HB HC0 k0 k1 k2 k3 k4 k5 r0 r1 r2 r3 r4 r5 tw Gk Gr Bk Br hc1 hb1;have HB:=HB2;clear HB2;have Bk:=Ck;clear Ck;have Br:=Cr;clear Cr
        go_wp2
        go_ret;refine BoolB.f (fun h => ?_) HB.out;have h9:=(h.1 k p HXp.out).2.1 kq t HXt.out;exact HG.out h9.1
       obtain ⟨i4,x4,g1,g2⟩:=hg;have HG1:=hidK g1;have HG2:=hidK g2
       have hi41 : decide ((i4 : Int) < 0) = false:=by simp
       clear g1 g2;have Gk:=Bk;have Gr:=Br;have HW:=HB;obtain ⟨k0,k1,k2,k3,k4,k5⟩:=sl6 Gk;obtain ⟨r0,r1,r2,r3,r4,r5⟩:=sl6 Gr;have tw:=fun q : Wd q1.w => (q.cell hb1).trans hc1;have hne0:=Wd.ne q1.w;have HC0:=hidK (fun q : Wd q1.w => sxxd_hit ⟨(some ⟨b1,o1,none⟩),l1,y1,a2,l2,y2,a3,l3,y3,a4,l4,y4,(some ⟨b,o,none⟩),l5,y5⟩ c.now c.xs t q.w (HR.out.x.below (HW.out.trans (q.b.mono HW.out.size))) HX.out HG1.out HG2.out);go_wp2_with fail;refine wp_region_wide (by kernel_rfl) (by kernel_rfl) ?_
       repeat (go_big_quiet_step (first | (go_at_call 23;exact Calls.wide (HC0.out _)) | fail))
       refine wpQuiet_nil ?_;rintro _ ⟨q2,rfl⟩;have HB2:=upB HW q2.b;have Ck:=upK Gk q2.b;have Cr:=upK Gr q2.b;clear hne0 HW HB HC0 k0 k1 k2 k3 k4 k5 r0 r1 r2 r3 r4 r5 tw Gk Gr Bk Br hc1 hb1;have HB:=HB2;clear HB2;have Bk:=Ck;clear Ck;have Br:=Cr;clear Cr
       go_wp2
       go_ret;refine BoolB.f (fun h => ?_) HB.out;have h9:=(h.1 k p HXp.out).2.1 kq t HXt.out
       rcases h9.2 with h2 | ⟨v',i,n',h2,_⟩
       ·exact HEm.out h2
       ·exact HD.out v' h2
     ·obtain rfl : vl = kq:=by omega
      have HQb : Hid (PSb c p):=fun j t ht => HQ2.out j t (by have h1:=(List.getElem?_eq_some_iff.1 ht).1;have h2:=HVL.out;omega) ht;clear HQ2;have TV2:=hidK (TV.out.below HBW.out);have KV2:=Bk;have GV2:=Br;have BV2:=HB;clear KV GV BV TV Bk Br HB HBW;obtain ⟨W2,hW⟩ : ∃ W2,W2 = wr:=⟨_,rfl⟩;rw [← hW] at KV2 GV2 BV2 TV2
      go_wp2
      clear pr3;rw [← hW];clear hW
      go_loopw [8] (fun i wr => ∃ kz : Nat,kz ≤ k ∧ i = .int .i64 kz ∧ Hid (∀ (j : Nat) q,j < kz → c.ps[j]? = some q → PairS c q p) ∧ Hid (Below W2.heap.size W2 wr)) (fun i _ => k - (intOf i).toNat)
      case atStart => exact ⟨0,by omega,rfl,fun _ _ h => absurd h (by omega),Below.refl _ _⟩
      case round =>
       obtain ⟨kz,hkz,rfl,HQ3,HBW⟩:=hrel;have HB:=hidK (BV2.out.trans (HBW.out.mono BV2.out.size));have Bk:=upK KV2 HBW.out;have Br:=upK GV2 HBW.out;have HTp:=hidK (TV2.out.below HBW.out)
       by_cases hlt3 : kz < k
       ·obtain ⟨b',o',pq,e',hb',hqq,hatq⟩:=pd_at (HR.out.p.below HB.out) (show kz < l5 by omega)
        cases e'
        obtain ⟨qa,ql,qc,hqr,z0,z2,z4,d0,d1,d2,d3,d4,d5⟩:=pd_cells hatq;have HXq:=hidK hqq;have HTq:=hidK hqr;clear hatq hqq hqr z0 z2 z4
        by_cases hpr : PairS c pq p
        ·have HPr:=hidK hpr;clear hpr;have Gk:=Bk;have Gr:=Br;have HW:=HB;obtain ⟨k0,k1,k2,k3,k4,k5⟩:=sl6 Gk;obtain ⟨r0,r1,r2,r3,r4,r5⟩:=sl6 Gr;have q0 : ∀ q : Wd wr,q.w.cell? ⟨b,o + kz * 6,none⟩ = some (.string pq.n):=fun q => (q.cell (hb')).trans (d0);have q1 : ∀ q : Wd wr,q.w.cell? ⟨b,o + kz * 6 + 1,none⟩ = some (.int .i64 pq.c):=fun q => (q.cell (hb')).trans (d1);have q2 : ∀ q : Wd wr,q.w.cell? ⟨b,o + kz * 6 + 2,none⟩ = some (.string pq.z):=fun q => (q.cell (hb')).trans (d2);have q3 : ∀ q : Wd wr,q.w.cell? ⟨b,o + kz * 6 + 3,none⟩ = some (.slice qa ql qc):=fun q => (q.cell (hb')).trans (d3);have q4 : ∀ q : Wd wr,q.w.cell? ⟨b,o + kz * 6 + 4,none⟩ = some (.string pq.d):=fun q => (q.cell (hb')).trans (d4);have q5 : ∀ q : Wd wr,q.w.cell? ⟨b,o + kz * 6 + 5,none⟩ = some (.int .i64 pq.p):=fun q => (q.cell (hb')).trans (d5);have hne0:=Wd.ne wr;have HC0:=hidK (fun qw : Wd wr => (spair_any ⟨(some ⟨b1,o1,none⟩),l1,y1,a2,l2,y2,a3,l3,y3,a4,l4,y4,(some ⟨b,o,none⟩),l5,y5⟩ c pq p qa ql qc va vl vc qw.w (HR.out.below (HW.out.trans (qw.b.mono HW.out.size))) HX.out HV.out HNE.out (HTq.out.below qw.b) (HTp.out.below qw.b)).mono (fun _ _ h => BoolB.yes h HPr.out));go_wp2_with fail;refine wp_region_wide (by kernel_rfl) (by kernel_rfl) ?_
         repeat (go_big_quiet_step (first | (go_at_call 127;exact Calls.wide (HC0.out _)) | fail))
         refine wpQuiet_nil ?_;rintro _ ⟨q9,rfl⟩;have HB1:=upB HW q9.b;have Ck:=upK Gk q9.b;have Cr:=upK Gr q9.b;clear hne0 HW HB HC0 k0 k1 k2 k3 k4 k5 r0 r1 r2 r3 r4 r5 q0 q1 q2 q3 q4 q5 Gk Gr Bk Br d0 d1 d2 d3 d4 d5;have HB:=HB1;clear HB1;have Bk:=Ck;clear Ck;have Br:=Cr;clear Cr;go_wp2_with fail;refine ⟨⟨kz + 1,by omega,by go_num,fun j s hj hs => ?_,HBW.out.trans (q9.b.mono HBW.out.size)⟩,by simp [intOf];omega⟩
         by_cases e : j = kz
         ·subst e;rw [HXq.out] at hs;obtain rfl:=Option.some.inj hs;exact HPr.out
         ·exact HQ3.out j s (by omega) hs
        ·have HPr:=hidK hpr;clear hpr;have Gk:=Bk;have Gr:=Br;have HW:=HB;obtain ⟨k0,k1,k2,k3,k4,k5⟩:=sl6 Gk;obtain ⟨r0,r1,r2,r3,r4,r5⟩:=sl6 Gr;have q0 : ∀ q : Wd wr,q.w.cell? ⟨b,o + kz * 6,none⟩ = some (.string pq.n):=fun q => (q.cell (hb')).trans (d0);have q1 : ∀ q : Wd wr,q.w.cell? ⟨b,o + kz * 6 + 1,none⟩ = some (.int .i64 pq.c):=fun q => (q.cell (hb')).trans (d1);have q2 : ∀ q : Wd wr,q.w.cell? ⟨b,o + kz * 6 + 2,none⟩ = some (.string pq.z):=fun q => (q.cell (hb')).trans (d2);have q3 : ∀ q : Wd wr,q.w.cell? ⟨b,o + kz * 6 + 3,none⟩ = some (.slice qa ql qc):=fun q => (q.cell (hb')).trans (d3);have q4 : ∀ q : Wd wr,q.w.cell? ⟨b,o + kz * 6 + 4,none⟩ = some (.string pq.d):=fun q => (q.cell (hb')).trans (d4);have q5 : ∀ q : Wd wr,q.w.cell? ⟨b,o + kz * 6 + 5,none⟩ = some (.int .i64 pq.p):=fun q => (q.cell (hb')).trans (d5);have hne0:=Wd.ne wr;have HC0:=hidK (fun qw : Wd wr => (spair_any ⟨(some ⟨b1,o1,none⟩),l1,y1,a2,l2,y2,a3,l3,y3,a4,l4,y4,(some ⟨b,o,none⟩),l5,y5⟩ c pq p qa ql qc va vl vc qw.w (HR.out.below (HW.out.trans (qw.b.mono HW.out.size))) HX.out HV.out HNE.out (HTq.out.below qw.b) (HTp.out.below qw.b)).mono (fun _ _ h => BoolB.no h HPr.out));go_wp2_with fail;refine wp_region_wide (by kernel_rfl) (by kernel_rfl) ?_
         repeat (go_big_quiet_step (first | (go_at_call 127;exact Calls.wide (HC0.out _)) | fail))
         refine wpQuiet_nil ?_;rintro _ ⟨q9,rfl⟩;have HB1:=upB HW q9.b;have Ck:=upK Gk q9.b;have Cr:=upK Gr q9.b;clear hne0 HW HB HC0 k0 k1 k2 k3 k4 k5 r0 r1 r2 r3 r4 r5 q0 q1 q2 q3 q4 q5 Gk Gr Bk Br d0 d1 d2 d3 d4 d5;have HB:=HB1;clear HB1;have Bk:=Ck;clear Ck;have Br:=Cr;clear Cr
         go_wp2
         go_ret;exact BoolB.f (fun h => HPr.out ((h.1 k p HXp.out).2.2 kz pq hlt3 HXq.out)) HB.out
       ·obtain rfl : k = kz:=by omega
        go_wp2_with fail;refine ⟨⟨k + 1,by omega,by go_num,fun j z hj hz => ?_,HB.out,Bk.out⟩,by simp [intOf];omega⟩
        by_cases e : j = k
        ·subst e;rw [HXp.out] at hz;obtain rfl:=Option.some.inj hz;exact ⟨HPa.out,HQb.out,fun j2 q2 hj2 hq2 => HQ3.out j2 q2 hj2 hq2⟩
        ·exact HQ.out j z (by omega) hz
   ·have hq3:=tl_no hz1;have HZ0:=hidK hz0;have HZ1:=hidK hz1;clear hz0 hz1;have Gk:=Bk;have Gr:=Br;have HW:=HB;have k0:=fun q : Wd w1 => q.slot (o:=0) Gk.out rfl;obtain ⟨r0,r1,r2,r3,r4,r5⟩:=sl6 Gr;have nw:=fun q : Wd w1 => (q.cell hbn).trans n1;have hne0:=Wd.ne w1;go_wp2_with fail;refine wp_region_wide (by kernel_rfl) (by kernel_rfl) ?_
    repeat (go_big_quiet_step (first | fail))
    refine wpQuiet_nil ?_;rintro _ ⟨q0,rfl⟩;have HB2:=upB HW q0.b;have Ck:=upK Gk q0.b;have Cr:=upK Gr q0.b;have CHTp:=hidK ((HTp.out).below q0.b);clear hne0 HW HB k0 r0 r1 r2 r3 r4 r5 nw Gk Gr Bk Br HTp hbn n1;have HB:=HB2;clear HB2;have HTp:=CHTp;clear CHTp;have Bk:=Ck;clear Ck;have Br:=Cr;clear Cr
    go_wp2
    go_ret;refine BoolB.f (fun h => ?_) HB.out
    rcases (h.1 k p HXp.out).1 with h2 | ⟨i,n',h2,h3,h4⟩
    ·exact HEm.out h2
    ·obtain ⟨_,rfl⟩:=HNR.out.inj h2 HJn.out (h3.trans HNn.out.symm)
     rcases h4 with h4 | h4
     ·exact HZ0.out h4
     ·exact HZ1.out h4
  ·obtain rfl : l5 = k:=by omega
   have HQ1 : Hid (∀ (k : Nat) p,c.ps[k]? = some p → PS c k p):=fun j z hz => HQ.out j z (by have:=(List.getElem?_eq_some_iff.1 hz).1;omega) hz;clear HQ;have kc : wr.cell? ⟨w.heap.size,0,none⟩ = some (.slice a1 l1 y1):=cellK Bk.out 0
   go_wp2
   clear pk kc
   go_loopw [9] (fun i wr => ∃ k : Nat,k ≤ l1 ∧ i = .int .i64 k ∧ Hid (∀ (j : Nat) n,j < k → c.ns[j]? = some n → cpuOf n.n c.ps ≤ n.c) ∧ Hid (Below w.heap.size w wr) ∧ Hid (wr.heap[w.heap.size]? = some (.cells #[.slice a1 l1 y1,.slice a2 l2 y2,.slice a3 l3 y3,.slice a4 l4 y4,.slice a5 l5 y5,.int .i64 c.now] 36 (0,0)))) (fun i _ => l1 - (intOf i).toNat)
   case atStart => exact ⟨0,by omega,rfl,fun _ _ h => absurd h (by omega),HB.out,Bk.out⟩
   case round =>
    obtain ⟨k,hk,rfl,HQ,HB,Bk⟩:=hrel;have pk : wr.cell? ⟨w.heap.size,0,none⟩ = some (.slice a1 l1 y1):=cellK Bk.out 0
    by_cases hlt : k < l1
    ·obtain ⟨b,o,n,rfl,hb,hx,hat⟩:=nd_at (HR.out.n.below HB.out) hlt;obtain ⟨va,vl,vc,hvr,z0,z1,c0,c1,c2,c3,c4,c5,c6⟩:=nd_cells hat;have HXn:=hidK hx;have HTn:=hidK hvr;have HZn0:=hidK z0;have HZn1:=hidK z1;clear hat hx z0 z1 hvr;have Gk:=Bk;have HW:=HB;obtain ⟨k0,k1,k2,k3,k4,k5⟩:=sl6 Gk;have n0w:=fun q : Wd wr => (q.cell hb).trans c0;have n2w:=fun q : Wd wr => (q.cell hb).trans c2;have hne0:=Wd.ne wr;have HC0:=hidK (fun q : Wd wr => sused_any ⟨(some ⟨b,o,none⟩),l1,y1,a2,l2,y2,a3,l3,y3,a4,l4,y4,a5,l5,y5⟩ c.now c.ps n.n q.w (HR.out.p.below (HW.out.trans (q.b.mono HW.out.size))) HL5.out HPC.out);go_wp2_with fail;refine wp_region_wide (by kernel_rfl) (by kernel_rfl) ?_
     repeat (go_big_quiet_step (first | (go_at_call 128;exact Calls.wide (HC0.out _)) | fail))
     refine wpQuiet_nil ?_;rintro _ ⟨q1,rfl⟩;have HB1:=upB HW q1.b;have Ck:=upK Gk q1.b;clear hne0 HW HB HC0 k0 k1 k2 k3 k4 k5 n0w n2w Gk Bk pk c0 c1 c2 c3 c4 c5 c6 hb;have HB:=HB1;clear HB1;have Bk:=Ck;clear Ck
     by_cases hq : cpuOf n.n c.ps ≤ n.c
     ·have HCq:=hidK hq;go_wp2_with fail;refine ⟨⟨k + 1,by omega,by go_num,fun j z hj hz => ?_,HB.out,Bk.out⟩,by simp [intOf];omega⟩
      by_cases e : j = k
      ·subst e;rw [HXn.out] at hz;obtain rfl:=Option.some.inj hz;exact HCq.out
      ·exact HQ.out j z (by omega) hz
     ·have HCq:=hidK hq
      go_wp2
      go_ret;exact BoolB.f (fun h => by have h1 : cpuOf n.n c.ps ≤ n.c:=h.2 k n HXn.out;have h2:=HCq.out;omega) HB.out
    ·obtain rfl : l1 = k:=by omega
     go_wp2
     go_ret;exact BoolB.t ⟨HQ1.out,fun j n hz => HQ.out j n (by have:=(List.getElem?_eq_some_iff.1 hz).1;omega) hz⟩ HB.out

def AttachedS (c : Cl) : Prop:=(∀ (j : Nat) z,c.vs[j]? = some z → AQ1 c z) ∧ ∀ (j : Nat) n,c.ns[j]? = some n → onOf n.n c.vs ≤ n.s

theorem sattached_any (d : Ad) (c : Cl) (w : World) (hr : ClRow w d c.raw) (hn : RisBy Nd.n c.ns) (hvs8 : c.vs.length ≤ 8) :
  Calls Tryz.prog 100 #[.agg #[.slice d.a1 d.l1 d.c1,.slice d.a2 d.l2 d.c2,.slice d.a3 d.l3 d.c3,.slice d.a4 d.l4 d.c4,.slice d.a5 d.l5 d.c5,.int .i64 c.now]] w (BoolB (AttachedS c) w):=by
 obtain ⟨a1,l1,y1,a2,l2,y2,a3,l3,y3,a4,l4,y4,a5,l5,y5⟩:=d;dsimp only;have HR:=hidK hr
 have hl1 : c.ns.length = l1:=by simpa using (show (c.ns.map ndF).length = l1 from hr.n.1)
 have hm1 : l1 ≤ 9223372036854775807:=Nat.le_trans hr.n.2.1 hr.n.2.2.1
 have hl2 : c.ks.length = l2:=by simpa using (show (c.ks.map kdF).length = l2 from hr.k.1)
 have hm2 : l2 ≤ 9223372036854775807:=Nat.le_trans hr.k.2.1 hr.k.2.2.1
 have hl3 : c.vs.length = l3:=by simpa using (show (c.vs.map vdF).length = l3 from hr.v.1)
 have hm3 : l3 ≤ 9223372036854775807:=Nat.le_trans hr.v.2.1 hr.v.2.2.1
 have hl4 : c.xs.length = l4:=by simpa using (show (c.xs.map xdF).length = l4 from hr.x.1)
 have hm4 : l4 ≤ 9223372036854775807:=Nat.le_trans hr.x.2.1 hr.x.2.2.1
 have hl5 : c.ps.length = l5:=by simpa using (show (c.ps.map pdF).length = l5 from hr.p.1)
 have hm5 : l5 ≤ 9223372036854775807:=Nat.le_trans hr.p.2.1 hr.p.2.2.1;clear hr;have HNR:=hidK hn;have HL3:=hidK hvs8;clear hn hvs8
 go_enter Tryz.func100,Tryz.ntmps100
 go_wp2
 go_loopw [3] (fun i wr => ∃ k : Nat,k ≤ l3 ∧ i = .int .i64 k ∧ Hid (∀ (j : Nat) z,j < k → c.vs[j]? = some z → AQ1 c z) ∧ Hid (Below w.heap.size w wr) ∧ Hid (wr.heap[w.heap.size]? = some (.cells #[.slice a1 l1 y1,.slice a2 l2 y2,.slice a3 l3 y3,.slice a4 l4 y4,.slice a5 l5 y5,.int .i64 c.now] 36 (0,0)))) (fun i _ => l3 - (intOf i).toNat)
 case atStart => exact ⟨0,by omega,rfl,fun _ _ h => absurd h (by omega),below1 _ _,Array.getElem?_push_size⟩
 case round =>
  obtain ⟨k,hk,rfl,HQ,HB,Bk⟩:=hrel;have pk : wr.cell? ⟨w.heap.size,2,none⟩ = some (.slice a3 l3 y3):=cellK Bk.out 2;have pkl : w.heap.size < wr.heap.size:=lt_of_some Bk.out
  by_cases hlt : k < l3
  ·obtain ⟨b,o,v,rfl,hb,hx,hat⟩:=vd_at (HR.out.v.below HB.out) hlt;obtain ⟨va,vl,vc,hvr,z0,z2,z3,z5,c0,c1,c2,c3,c4,c5,c6,c7⟩:=vd_cells hat;have HXv:=hidK hx;have HTv:=hidK hvr;have HZv0:=hidK z0;have HZv2:=hidK z2;have HZv3:=hidK z3;have HZv5:=hidK z5;clear hat hx z0 z2 z3 z5 hvr;have hvl : v.zs.length = vl:=HTv.out.1;have hvc : vl ≤ 9223372036854775807:=Nat.le_trans HTv.out.2.1 HTv.out.2.2.1;have HVL:=hidK hvl;clear hvl;have KV : Hid ((wr.alloc (.cells #[.string v.n,.int .i64 v.c,.string v.z,.string v.k,.bool v.x,.string v.m,.bool v.y,.slice va vl vc] 63)).heap[w.heap.size]? = some (.cells #[.slice a1 l1 y1,.slice a2 l2 y2,.slice (some ⟨b,o,none⟩) l3 y3,.slice a4 l4 y4,.slice a5 l5 y5,.int .i64 c.now] 36 (0,0))):=(Below.heap_alloc wr (.cells #[.string v.n,.int .i64 v.c,.string v.z,.string v.k,.bool v.x,.string v.m,.bool v.y,.slice va vl vc] 63) _ (lt_of_some Bk.out)).trans Bk.out;have GV : Hid ((wr.alloc (.cells #[.string v.n,.int .i64 v.c,.string v.z,.string v.k,.bool v.x,.string v.m,.bool v.y,.slice va vl vc] 63)).heap[wr.heap.size]? = some (.cells #[.string v.n,.int .i64 v.c,.string v.z,.string v.k,.bool v.x,.string v.m,.bool v.y,.slice va vl vc] 63 (0,0))):=Array.getElem?_push_size;have BV:=hidK (HB.out.trans ((below1 wr (.cells #[.string v.n,.int .i64 v.c,.string v.z,.string v.k,.bool v.x,.string v.m,.bool v.y,.slice va vl vc] 63)).mono HB.out.size));have TT:=hidK (HTv.out.below (below1 wr (.cells #[.string v.n,.int .i64 v.c,.string v.z,.string v.k,.bool v.x,.string v.m,.bool v.y,.slice va vl vc] 63)));obtain ⟨W,hW⟩ : ∃ W,W = wr.alloc (.cells #[.string v.n,.int .i64 v.c,.string v.z,.string v.k,.bool v.x,.string v.m,.bool v.y,.slice va vl vc] 63):=⟨_,rfl⟩;obtain ⟨gb,hgb⟩ : ∃ gb,gb = wr.heap.size:=⟨_,rfl⟩;rw [← hW] at KV GV BV TT;rw [← hgb] at GV
   go_wp2
   rw [← hW,← hgb];clear hW hgb HB Bk HTv c0 c1 c2 c3 c4 c5 c6 c7 hb pk pkl
   go_loopw [5] (fun i wr => ∃ kq : Nat,kq ≤ vl ∧ i = .int .i64 kq ∧ Hid (∀ (j : Nat) t,j < kq → v.zs[j]? = some t → ∃ (i : Nat) (n : Nd),c.ns[i]? = some n ∧ n.n = t ∧ n.z = v.z) ∧ Hid (Below W.heap.size W wr)) (fun i _ => vl - (intOf i).toNat)
   case atStart => exact ⟨0,by omega,rfl,fun _ _ h => absurd h (by omega),Below.refl _ _⟩
   case round =>
    obtain ⟨kq,hkq,rfl,HQ2,HBW⟩:=hrel;have HB:=hidK (BV.out.trans (HBW.out.mono BV.out.size));have Bk:=upK KV HBW.out;have Bv:=upK GV HBW.out;have pv : wr.cell? ⟨gb,7,none⟩ = some (.slice va vl vc):=cellK Bv.out 7
    by_cases hlt2 : kq < vl
    ·obtain ⟨b2,o2,t,rfl,hb,hx,hc,hsz⟩:=(TT.out.below HBW.out).at hlt2;have HXt:=hidK hx;clear hx hsz
     by_cases hnn : ∃ (i : Nat) (n : Nd),c.ns[i]? = some n ∧ n.n = t
     rotate_left
     ·have HH:=hidK hnn;clear hnn;have Gk:=Bk;have Gv:=Bv;have HW:=HB;obtain ⟨k0,k1,k2,k3,k4,k5⟩:=sl6 Gk;have v7:=fun q : Wd wr => q.slot (o:=7) Gv.out rfl;have tw:=fun q : Wd wr => (q.cell hb).trans hc;have hne0:=Wd.ne wr;have HC0:=hidK (fun q : Wd wr => sxnd_miss ⟨a1,l1,y1,a2,l2,y2,(some ⟨b,o,none⟩),l3,y3,a4,l4,y4,a5,l5,y5⟩ c.now c.ns t q.w (HR.out.n.below (HW.out.trans (q.b.mono HW.out.size))) (fun i n h1 h2 => HH.out ⟨i,n,h1,h2⟩));go_wp2_with fail;refine wp_region_wide (by kernel_rfl) (by kernel_rfl) ?_
      repeat (go_big_quiet_step (first | (go_at_call 126;exact Calls.wide (HC0.out _)) | fail))
      refine wpQuiet_nil ?_;rintro _ ⟨q1,rfl⟩;have HB1:=upB HW q1.b;have Ck:=upK Gk q1.b;have Cv:=upK Gv q1.b;clear hne0 HW HB HC0 k0 k1 k2 k3 k4 k5 v7 tw Gk Gv Bk Bv pv;have HB:=HB1;clear HB1;have Bk:=Ck;clear Ck;have Bv:=Cv;clear Cv;have Gk:=Bk;have Gv:=Bv;have HW:=HB;have k0:=fun q : Wd q1.w => q.slot (o:=0) Gk.out rfl;obtain ⟨v0,v1,v2,v3,v4,v5,v6,v7⟩:=sl8 Gv;have hne0:=Wd.ne q1.w;go_wp2_with fail;refine wp_region_wide (by kernel_rfl) (by kernel_rfl) ?_
      repeat (go_big_quiet_step (first | fail))
      refine wpQuiet_nil ?_;rintro _ ⟨q2,rfl⟩;have HB2:=upB HW q2.b;have Ck:=upK Gk q2.b;have Cv:=upK Gv q2.b;clear hne0 HW HB k0 v0 v1 v2 v3 v4 v5 v6 v7 Gk Gv Bk Bv;have HB:=HB2;clear HB2;have Bk:=Ck;clear Ck;have Bv:=Cv;clear Cv
      go_wp2
      go_ret;refine BoolB.f (fun h => ?_) HB.out;obtain ⟨i,n,h2,h3,_⟩:=(h.1 k v HXv.out) kq t HXt.out;exact HH.out ⟨i,n,h2,h3⟩
     obtain ⟨j1,n,h1,h2⟩:=hnn
     have hl1' : j1 < l1:=by have h3:=(List.getElem?_eq_some_iff.1 h1).1;omega
     obtain ⟨b1,o1,n',rfl,hb1n,hn',hat⟩:=nd_at HR.out.n hl1';rw [h1] at hn';obtain rfl:=Option.some.inj hn';obtain ⟨na,nl,nc,hnr,z0,z1,d0,d1,d2,d3,d4,d5,d6⟩:=nd_cells hat;have HJn:=hidK h1;have HNn:=hidK h2;have HCn:=hidK d1;have HBn:=hidK hb1n
     have hj11 : decide ((j1 : Int) < 0) = false:=by simp
     clear hn' hat hnr z0 z1 d0 d1 d2 d3 d4 d5 d6 h1 h2 hb1n;have Gk:=Bk;have Gv:=Bv;have HW:=HB;obtain ⟨k0,k1,k2,k3,k4,k5⟩:=sl6 Gk;have v7:=fun q : Wd wr => q.slot (o:=7) Gv.out rfl;have tw:=fun q : Wd wr => (q.cell hb).trans hc;have hne0:=Wd.ne wr;have HC0:=hidK (fun q : Wd wr => sxnd_hit ⟨(some ⟨b1,o1,none⟩),l1,y1,a2,l2,y2,(some ⟨b,o,none⟩),l3,y3,a4,l4,y4,a5,l5,y5⟩ c.now c.ns t q.w (HR.out.n.below (HW.out.trans (q.b.mono HW.out.size))) HNR.out HJn.out HNn.out);go_wp2_with fail;refine wp_region_wide (by kernel_rfl) (by kernel_rfl) ?_
     repeat (go_big_quiet_step (first | (go_at_call 126;exact Calls.wide (HC0.out _)) | fail))
     refine wpQuiet_nil ?_;rintro _ ⟨q1,rfl⟩;have HB1:=upB HW q1.b;have Ck:=upK Gk q1.b;have Cv:=upK Gv q1.b;clear hne0 HW HB HC0 k0 k1 k2 k3 k4 k5 v7 tw Gk Gv Bk Bv pv hb hc;have HB:=HB1;clear HB1;have Bk:=Ck;clear Ck;have Bv:=Cv;clear Cv;have HBW1:=upB HBW q1.b;have hbn : b1 < q1.w.heap.size:=Nat.lt_of_lt_of_le HBn.out HB.out.size;have n1:=(cell_below HB.out HBn.out).trans HCn.out;clear HBW
     by_cases hz : n.z = v.z
     ·have q8:=tl_yes hz;have HZ:=hidK hz;clear hz;have Gk:=Bk;have Gv:=Bv;have HW:=HB;have k0:=fun q : Wd q1.w => q.slot (o:=0) Gk.out rfl;obtain ⟨v0,v1,v2,v3,v4,v5,v6,v7⟩:=sl8 Gv;have nw:=fun q : Wd q1.w => (q.cell hbn).trans n1;have hne0:=Wd.ne q1.w;go_wp2_with fail;refine wp_region_wide (by kernel_rfl) (by kernel_rfl) ?_
      repeat (go_big_quiet_step (first | fail))
      refine wpQuiet_nil ?_;rintro _ ⟨q2,rfl⟩;have HB2:=upB HW q2.b;have Ck:=upK Gk q2.b;have Cv:=upK Gv q2.b;clear hne0 HW HB k0 v0 v1 v2 v3 v4 v5 v6 v7 nw Gk Gv Bk Bv hbn n1;have HB:=HB2;clear HB2;have Bk:=Ck;clear Ck;have Bv:=Cv;clear Cv;clear q8;go_wp2_with fail;refine ⟨⟨kq + 1,by omega,by go_num,fun j s hj hs => ?_,HBW1.out.trans (q2.b.mono HBW1.out.size)⟩,by simp [intOf];omega⟩
      by_cases e : j = kq
      ·subst e;rw [HXt.out] at hs;obtain rfl:=Option.some.inj hs;exact ⟨j1,n,HJn.out,HNn.out,HZ.out⟩
      ·exact HQ2.out j s (by omega) hs
     ·have q8:=tl_no hz;have HZ:=hidK hz;clear hz;have Gk:=Bk;have Gv:=Bv;have HW:=HB;have k0:=fun q : Wd q1.w => q.slot (o:=0) Gk.out rfl;obtain ⟨v0,v1,v2,v3,v4,v5,v6,v7⟩:=sl8 Gv;have nw:=fun q : Wd q1.w => (q.cell hbn).trans n1;have hne0:=Wd.ne q1.w;go_wp2_with fail;refine wp_region_wide (by kernel_rfl) (by kernel_rfl) ?_
      repeat (go_big_quiet_step (first | fail))
      refine wpQuiet_nil ?_;rintro _ ⟨q2,rfl⟩;have HB2:=upB HW q2.b;have Ck:=upK Gk q2.b;have Cv:=upK Gv q2.b;clear hne0 HW HB k0 v0 v1 v2 v3 v4 v5 v6 v7 nw Gk Gv Bk Bv hbn n1;have HB:=HB2;clear HB2;have Bk:=Ck;clear Ck;have Bv:=Cv;clear Cv
      go_wp2
      go_ret;refine BoolB.f (fun h => ?_) HB.out;obtain ⟨i,m2,e1,e2,e3⟩:=(h.1 k v HXv.out) kq t HXt.out;obtain ⟨_,rfl⟩:=HNR.out.inj e1 HJn.out (e2.trans HNn.out.symm);exact HZ.out e3
    ·obtain rfl : vl = kq:=by omega
     go_wp2_with fail;refine ⟨⟨k + 1,by omega,by go_num,fun j z hj hz => ?_,HB.out,Bk.out⟩,by simp [intOf];omega⟩
     by_cases e : j = k
     ·subst e;rw [HXv.out] at hz;obtain rfl:=Option.some.inj hz;exact fun j s hs => HQ2.out j s (by have h1:=(List.getElem?_eq_some_iff.1 hs).1;have h2:=HVL.out;omega) hs
     ·exact HQ.out j z (by omega) hz
  ·obtain rfl : l3 = k:=by omega
   have HQ1 : Hid (∀ (j : Nat) z,c.vs[j]? = some z → AQ1 c z):=fun j z hz => HQ.out j z (by have:=(List.getElem?_eq_some_iff.1 hz).1;omega) hz;clear HQ;have kc : wr.cell? ⟨w.heap.size,0,none⟩ = some (.slice a1 l1 y1):=cellK Bk.out 0
   go_wp2
   clear pk kc
   go_loopw [7] (fun i wr => ∃ k : Nat,k ≤ l1 ∧ i = .int .i64 k ∧ Hid (∀ (j : Nat) n,j < k → c.ns[j]? = some n → onOf n.n c.vs ≤ n.s) ∧ Hid (Below w.heap.size w wr) ∧ Hid (wr.heap[w.heap.size]? = some (.cells #[.slice a1 l1 y1,.slice a2 l2 y2,.slice a3 l3 y3,.slice a4 l4 y4,.slice a5 l5 y5,.int .i64 c.now] 36 (0,0)))) (fun i _ => l1 - (intOf i).toNat)
   case atStart => exact ⟨0,by omega,rfl,fun _ _ h => absurd h (by omega),HB.out,Bk.out⟩
   case round =>
    obtain ⟨k,hk,rfl,HQ,HB,Bk⟩:=hrel;have pk : wr.cell? ⟨w.heap.size,0,none⟩ = some (.slice a1 l1 y1):=cellK Bk.out 0
    by_cases hlt : k < l1
    ·obtain ⟨b,o,n,rfl,hb,hx,hat⟩:=nd_at (HR.out.n.below HB.out) hlt;obtain ⟨va,vl,vc,hvr,z0,z1,c0,c1,c2,c3,c4,c5,c6⟩:=nd_cells hat;have HXn:=hidK hx;have HTn:=hidK hvr;have HZn0:=hidK z0;have HZn1:=hidK z1;clear hat hx z0 z1 hvr;have Gk:=Bk;have HW:=HB;obtain ⟨k0,k1,k2,k3,k4,k5⟩:=sl6 Gk;have n0w:=fun q : Wd wr => (q.cell hb).trans c0;have n2w:=fun q : Wd wr => (q.cell hb).trans c3;have hne0:=Wd.ne wr;have HC0:=hidK (fun q : Wd wr => son_any ⟨(some ⟨b,o,none⟩),l1,y1,a2,l2,y2,a3,l3,y3,a4,l4,y4,a5,l5,y5⟩ c.now c.vs n.n q.w (HR.out.v.below (HW.out.trans (q.b.mono HW.out.size))) HL3.out);go_wp2_with fail;refine wp_region_wide (by kernel_rfl) (by kernel_rfl) ?_
     repeat (go_big_quiet_step (first | (go_at_call 129;exact Calls.wide (HC0.out _)) | fail))
     refine wpQuiet_nil ?_;rintro _ ⟨q1,rfl⟩;have HB1:=upB HW q1.b;have Ck:=upK Gk q1.b;clear hne0 HW HB HC0 k0 k1 k2 k3 k4 k5 n0w n2w Gk Bk pk c0 c1 c2 c3 c4 c5 c6 hb;have HB:=HB1;clear HB1;have Bk:=Ck;clear Ck
     by_cases hq : onOf n.n c.vs ≤ n.s
     ·have HCq:=hidK hq;go_wp2_with fail;refine ⟨⟨k + 1,by omega,by go_num,fun j z hj hz => ?_,HB.out,Bk.out⟩,by simp [intOf];omega⟩
      by_cases e : j = k
      ·subst e;rw [HXn.out] at hz;obtain rfl:=Option.some.inj hz;exact HCq.out
      ·exact HQ.out j z (by omega) hz
     ·have HCq:=hidK hq
      go_wp2
      go_ret;exact BoolB.f (fun h => by have h1 : onOf n.n c.vs ≤ n.s:=h.2 k n HXn.out;have h2:=HCq.out;omega) HB.out
    ·obtain rfl : l1 = k:=by omega
     go_wp2
     go_ret;exact BoolB.t ⟨HQ1.out,fun j n hz => HQ.out j n (by have:=(List.getElem?_eq_some_iff.1 hz).1;omega) hz⟩ HB.out

def FreshN (W : World) : Fact:=fun v w => ∃ g,v = .pointer (some ⟨g,0,none⟩) ∧ W.heap.size ≤ g ∧ w.heap[g]? = some (.cells #[.string ⟨#[]⟩,.string ⟨#[]⟩,.int .i64 0,.int .i64 0,.int .i64 0,.bool false,.slice none 0 0] 106 (0,0))
theorem FreshN.mono (W : World) : Fact.Mono (FreshN W):=by
 rintro v w w' ⟨g,h1,h2,h3⟩ hb;exact ⟨g,h1,h2,(hb.block g (lt_of_some h3)).trans h3⟩
theorem put7N {w : World} {g : Nat} {v0 v1 v2 v3 v4 v5 v6 : Value} (h : w.heap[g]? = some (.cells #[.string ⟨#[]⟩,.string ⟨#[]⟩,.int .i64 0,.int .i64 0,.int .i64 0,.bool false,.slice none 0 0] 106 (0,0))) :
  (((((((w.setCell ⟨g,0,none⟩ (v0)).setCell ⟨g,1,none⟩ (v1)).setCell ⟨g,2,none⟩ (v2)).setCell ⟨g,3,none⟩ (v3)).setCell ⟨g,4,none⟩ (v4)).setCell ⟨g,5,none⟩ (v5)).setCell ⟨g,6,none⟩ (v6)).heap[g]? = some (.cells #[v0,v1,v2,v3,v4,v5,v6] 106 (0,0)):=by
 have:=block_set (i:=6) (block_set (i:=5) (block_set (i:=4) (block_set (i:=3) (block_set (i:=2) (block_set (i:=1) (block_set (i:=0) h v0) v1) v2) v3) v4) v5) v6
 simpa using this
theorem set_below7 {W w : World} {g : Nat} {v0 v1 v2 v3 v4 v5 v6 : Value} (hg : W.heap.size ≤ g) (h : Below W.heap.size W w) : Below W.heap.size W (((((((w.setCell ⟨g,0,none⟩ (v0)).setCell ⟨g,1,none⟩ (v1)).setCell ⟨g,2,none⟩ (v2)).setCell ⟨g,3,none⟩ (v3)).setCell ⟨g,4,none⟩ (v4)).setCell ⟨g,5,none⟩ (v5)).setCell ⟨g,6,none⟩ (v6)) :=
 set_below hg (set_below hg (set_below hg (set_below hg (set_below hg (set_below hg (set_below hg h))))))
def AllS (c : Cl) (p : Pd) (n : Nd) : Prop:=∀ (j : Nat) t,p.zs[j]? = some t → ∃ v,IsBd c t v ∧ InL n.zs v.n

theorem sall_any (d : Ad) (c : Cl) (p : Pd) (pa : Option Addr) (pl pc : Nat) (j1 : Nat) (n : Nd) (w : World) (hr : ClRow w d c.raw) (hn : RisBy Nd.n c.ns) (hx : RisBy Xd.n c.xs) (hv : RisBy Vd.n c.vs) (hne : ∀ (j : Nat) v,c.vs[j]? = some v → ¬ v.n = ⟨#[]⟩) (hp : TxRow w pa pl pc p.zs) (hj1 : c.ns[j1]? = some n) (hnn : n.n = p.d) (hbd : ∀ (j : Nat) t,p.zs[j]? = some t → ∃ v,IsBd c t v) :
  Calls Tryz.prog 130 #[.agg #[.slice d.a1 d.l1 d.c1,.slice d.a2 d.l2 d.c2,.slice d.a3 d.l3 d.c3,.slice d.a4 d.l4 d.c4,.slice d.a5 d.l5 d.c5,.int .i64 c.now],.agg #[.string p.n,.int .i64 p.c,.string p.z,.slice pa pl pc,.string p.d,.int .i64 p.p]] w (BoolB (AllS c p n) w):=by
 obtain ⟨a1,l1,y1,a2,l2,y2,a3,l3,y3,a4,l4,y4,a5,l5,y5⟩:=d;dsimp only;have HR:=hidK hr
 have hl1 : c.ns.length = l1:=by simpa using (show (c.ns.map ndF).length = l1 from hr.n.1)
 have hm1 : l1 ≤ 9223372036854775807:=Nat.le_trans hr.n.2.1 hr.n.2.2.1
 have hl2 : c.ks.length = l2:=by simpa using (show (c.ks.map kdF).length = l2 from hr.k.1)
 have hm2 : l2 ≤ 9223372036854775807:=Nat.le_trans hr.k.2.1 hr.k.2.2.1
 have hl3 : c.vs.length = l3:=by simpa using (show (c.vs.map vdF).length = l3 from hr.v.1)
 have hm3 : l3 ≤ 9223372036854775807:=Nat.le_trans hr.v.2.1 hr.v.2.2.1
 have hl4 : c.xs.length = l4:=by simpa using (show (c.xs.map xdF).length = l4 from hr.x.1)
 have hm4 : l4 ≤ 9223372036854775807:=Nat.le_trans hr.x.2.1 hr.x.2.2.1
 have hl5 : c.ps.length = l5:=by simpa using (show (c.ps.map pdF).length = l5 from hr.p.1)
 have hm5 : l5 ≤ 9223372036854775807:=Nat.le_trans hr.p.2.1 hr.p.2.2.1;clear hr;have HNR:=hidK hn;have HX:=hidK hx;have HV:=hidK hv;have HNE:=hidK hne;have HP:=hidK hp;have HBD:=hidK hbd;have hlc : pl ≤ 9223372036854775807:=Nat.le_trans hp.2.1 hp.2.2.1;have hzl : p.zs.length = pl:=hp.1
 have hl1' : j1 < l1:=by have h3:=(List.getElem?_eq_some_iff.1 hj1).1;omega
 obtain ⟨b1,o1,n',rfl,hb1n,hn',hat⟩:=nd_at HR.out.n hl1';rw [hj1] at hn';obtain rfl:=Option.some.inj hn';obtain ⟨na,nl,nc,hnr,z0,z1,d0,d1,d2,d3,d4,d5,d6⟩:=nd_cells hat;have HJn:=hidK hj1;have HNn:=hidK hnn;have HTn:=hidK hnr;have HBn:=hidK hb1n;have HD : Hid (w.cell? ⟨b1,o1 + j1 * 7,none⟩ = some (.string n.n) ∧ w.cell? ⟨b1,o1 + j1 * 7 + 1,none⟩ = some (.string n.z) ∧ w.cell? ⟨b1,o1 + j1 * 7 + 2,none⟩ = some (.int .i64 n.c) ∧ w.cell? ⟨b1,o1 + j1 * 7 + 3,none⟩ = some (.int .i64 n.s) ∧ w.cell? ⟨b1,o1 + j1 * 7 + 4,none⟩ = some (.int .i64 n.u) ∧ w.cell? ⟨b1,o1 + j1 * 7 + 5,none⟩ = some (.bool n.d) ∧ w.cell? ⟨b1,o1 + j1 * 7 + 6,none⟩ = some (.slice na nl nc)):=⟨d0,d1,d2,d3,d4,d5,d6⟩;clear hn' hat hnr z0 z1 d0 d1 d2 d3 d4 d5 d6 hj1 hnn hb1n hn hx hv hne hp hbd;obtain ⟨W,hW0⟩ : ∃ W,W = (w.alloc (.cells #[.slice (some ⟨b1,o1,none⟩) l1 y1,.slice a2 l2 y2,.slice a3 l3 y3,.slice a4 l4 y4,.slice a5 l5 y5,.int .i64 c.now] 36)).alloc (.cells #[.string p.n,.int .i64 p.c,.string p.z,.slice pa pl pc,.string p.d,.int .i64 p.p] 58):=⟨_,rfl⟩
 have GK : Hid (W.heap[w.heap.size]? = some (.cells #[.slice (some ⟨b1,o1,none⟩) l1 y1,.slice a2 l2 y2,.slice a3 l3 y3,.slice a4 l4 y4,.slice a5 l5 y5,.int .i64 c.now] 36 (0,0))):=by rw [hW0];exact heap2_0 _ _ _
 have GP : Hid (W.heap[w.heap.size + 1]? = some (.cells #[.string p.n,.int .i64 p.c,.string p.z,.slice pa pl pc,.string p.d,.int .i64 p.p] 58 (0,0))):=by rw [hW0];exact heap2_1 _ _ _
 have BW : Hid (Below w.heap.size w W):=by rw [hW0];exact below2 _ _ _
 go_enter Tryz.func130,Tryz.ntmps130
 go_wp2_with fail;rw [← hW0];clear hW0;rename_i K0 hK0;refine wp_region_grow_last (by kernel_rfl) rfl rfl (by kernel_rfl) ?_;refine' Grow.stepC _ rfl ?_ ?_;rotate_left 1
 ·refine Obl.plain rfl ?_;intro ac wg K hsz hW hf hK;clear hsz;have e2:=hf 2 (by decide)
  simp [slotFact,List.lookup] at e2
  clear hf;go_simp;refine hK _ _ (Below.refl _ _) ?_;with_reducible rfl
 refine' Grow.stepC _ rfl ?_ ?_;rotate_left 1
 ·refine Obl.plain rfl ?_;intro ac wg K hsz hW hf hK;clear hsz;have e7:=hf 7 (by decide)
  simp [slotFact,List.lookup] at e7
  clear hf;obtain ⟨k0,k1,k2,k3,k4,k5⟩:=cs6 ((hW.block _ (lt_of_some GK.out)).trans GK.out);go_simp;refine hK _ _ (Below.refl _ _) ?_;with_reducible rfl
 refine' Grow.stepC _ rfl ?_ ?_;rotate_left 1
 ·refine Obl.plain rfl ?_;intro ac wg K hsz hW hf hK;clear hsz;have e2:=hf 2 (by decide)
  simp [slotFact,List.lookup] at e2
  clear hf;obtain ⟨k0,k1,k2,k3,k4,k5⟩:=cs6 ((hW.block _ (lt_of_some GK.out)).trans GK.out);go_simp;refine hK _ _ (Below.refl _ _) ?_;with_reducible rfl
 refine' Grow.stepC _ rfl ?_ ?_;rotate_left 1
 ·refine Obl.plain rfl ?_;intro ac wg K hsz hW hf hK;clear hsz;have e3:=hf 3 (by decide)
  simp [slotFact,List.lookup] at e3
  clear hf;go_simp;refine hK _ _ (Below.refl _ _) ?_;with_reducible rfl
 refine' Grow.stepC _ rfl ?_ ?_;rotate_left 1
 ·refine Obl.plain rfl ?_;intro ac wg K hsz hW hf hK;clear hsz;have e10:=hf 10 (by decide)
  simp [slotFact,List.lookup] at e10
  clear hf;obtain ⟨r0,r1,r2,r3,r4,r5⟩:=cs6 ((hW.block _ (lt_of_some GP.out)).trans GP.out);go_simp;refine hK _ _ (Below.refl _ _) ?_;with_reducible rfl
 refine' Grow.stepC (.int .i64 j1) rfl ?_ ?_
 ·refine Obl.plain rfl ?_;intro ac wg K hsz hW hf hK;clear hsz;have e9:=hf 9 (by decide)
  simp [slotFact,List.lookup] at e9
  have e11:=hf 11 (by decide)
  simp [slotFact,List.lookup] at e11
  clear hf;go_simp;refine (sxnd_hit ⟨(some ⟨b1,o1,none⟩),l1,y1,a2,l2,y2,a3,l3,y3,a4,l4,y4,a5,l5,y5⟩ c.now c.ns p.d _ (HR.out.n.below (BW.out.trans (hW.mono BW.out.size))) HNR.out HJn.out HNn.out).mono ?_;rintro e w5 ⟨rfl,hb5⟩;exact hK _ _ hb5 rfl
 refine' Grow.stepC _ rfl ?_ ?_;rotate_left 1
 ·refine Obl.plain rfl ?_;intro ac wg K hsz hW hf hK;clear hsz;have e8:=hf 8 (by decide)
  simp [slotFact,List.lookup] at e8
  have e12:=hf 12 (by decide)
  simp [slotFact,List.lookup] at e12
  clear hf;go_simp;refine hK _ _ (Below.refl _ _) ?_;with_reducible rfl
 refine' Grow.stepC _ rfl ?_ ?_;rotate_left 1
 ·refine Obl.plain rfl ?_;intro ac wg K hsz hW hf hK;clear hsz;have e13:=hf 13 (by decide)
  simp [slotFact,List.lookup] at e13
  clear hf;have hBg:=BW.out.trans (hW.mono BW.out.size);obtain ⟨d0,d1,d2,d3,d4,d5,d6⟩:=HD.out;have g0:=(cell_below hBg HBn.out).trans d0;have g1:=(cell_below hBg HBn.out).trans d1;have g2:=(cell_below hBg HBn.out).trans d2;have g3:=(cell_below hBg HBn.out).trans d3;have g4:=(cell_below hBg HBn.out).trans d4;have g5:=(cell_below hBg HBn.out).trans d5;have g6:=(cell_below hBg HBn.out).trans d6;clear d0 d1 d2 d3 d4 d5 d6 hBg;go_simp;refine hK _ _ (Below.refl _ _) ?_;with_reducible rfl
 refine Grow.step (FreshN W) rfl (FreshN.mono W) ?_ ?_
 ·refine Obl.plain rfl ?_;intro ac wg K hsz hW hf hK;clear hsz;clear hf;go_simp;exact hK _ _ (below1 _ _) ⟨_,rfl,hW.size,Array.getElem?_push_size⟩
 refine Grow.done ?_;intro q wz hW hf;simp only [List.forall_mem_cons] at hf;obtain ⟨⟨g5,h5,hbW,hgb⟩,h14,-⟩:=hf;have r0 : wz.cell? ⟨g5,0,none⟩ = some (.string ⟨#[]⟩):=cellK hgb 0;have r1 : wz.cell? ⟨g5,1,none⟩ = some (.string ⟨#[]⟩):=cellK hgb 1;have r2 : wz.cell? ⟨g5,2,none⟩ = some (.int .i64 0):=cellK hgb 2;have r3 : wz.cell? ⟨g5,3,none⟩ = some (.int .i64 0):=cellK hgb 3;have r4 : wz.cell? ⟨g5,4,none⟩ = some (.int .i64 0):=cellK hgb 4;have r5 : wz.cell? ⟨g5,5,none⟩ = some (.bool false):=cellK hgb 5;have r6 : wz.cell? ⟨g5,6,none⟩ = some (.slice none 0 0):=cellK hgb 6;have f0:=froK hgb 0;have f1:=froK hgb 1;have f2:=froK hgb 2;have f3:=froK hgb 3;have f4:=froK hgb 4;have f5:=froK hgb 5;have f6:=froK hgb 6;have GN:=hidK (put7N (v0:=.string n.n) (v1:=.string n.z) (v2:=.int .i64 n.c) (v3:=.int .i64 n.s) (v4:=.int .i64 n.u) (v5:=.bool n.d) (v6:=.slice na nl nc) hgb);have BN:=hidK (set_below7 (v0:=.string n.n) (v1:=.string n.z) (v2:=.int .i64 n.c) (v3:=.int .i64 n.s) (v4:=.int .i64 n.u) (v5:=.bool n.d) (v6:=.slice na nl nc) hbW hW);clear hgb hW;intro K hK;rw [if_pos (by rfl)];simp only [putsAll,List.foldr,Act.put,List.setIfInBounds_toArray,List.set_cons_zero,List.set_cons_succ,h5,h14];simp only [List.getLast];go_simp;refine hK _ _ ?_;refine hK0 _ _ ?_;clear hK hK0 K K0
 generalize (((((((wz.setCell ⟨g5,0,none⟩ (.string n.n)).setCell ⟨g5,1,none⟩ (.string n.z)).setCell ⟨g5,2,none⟩ (.int .i64 n.c)).setCell ⟨g5,3,none⟩ (.int .i64 n.s)).setCell ⟨g5,4,none⟩ (.int .i64 n.u)).setCell ⟨g5,5,none⟩ (.bool n.d)).setCell ⟨g5,6,none⟩ (.slice na nl nc)) = Y at GN BN ⊢
 clear r0 f0 r1 f1 r2 f2 r3 f3 r4 f4 r5 f5 r6 f6;have KV:=upK GK BN.out;have PVv:=upK GP BN.out;have BV:=hidK (BW.out.trans (BN.out.mono BW.out.size));clear GK GP BW BN hbW;have pp : Y.cell? ⟨w.heap.size + 1,3,none⟩ = some (.slice pa pl pc):=cellK PVv.out 3
 go_wp2
 clear pp
 go_loopw [6] (fun i wr => ∃ k : Nat,k ≤ pl ∧ i = .int .i64 k ∧ Hid (∀ (j : Nat) t,j < k → p.zs[j]? = some t → ∃ v,IsBd c t v ∧ InL n.zs v.n) ∧ Hid (Below Y.heap.size Y wr)) (fun i _ => pl - (intOf i).toNat)
 case atStart => exact ⟨0,by omega,rfl,fun _ _ h => absurd h (by omega),Below.refl _ _⟩
 case round =>
  obtain ⟨k,hk,rfl,HQ,HBY⟩:=hrel;have HB:=hidK (BV.out.trans (HBY.out.mono BV.out.size));have Bk:=upK KV HBY.out;have Bp:=upK PVv HBY.out;have Bn:=upK GN HBY.out;have pp : wr.cell? ⟨w.heap.size + 1,3,none⟩ = some (.slice pa pl pc):=cellK Bp.out 3
  by_cases hlt : k < pl
  ·obtain ⟨b,o,t,rfl,hb,hxt,hc,hsz⟩:=(HP.out.below HB.out).at hlt;have HXt:=hidK hxt;clear hxt hsz;obtain ⟨v,hbd⟩:=HBD.out k t HXt.out;obtain ⟨j3,hj3⟩:=hbd.at
   have hl3' : j3 < l3:=by have h1:=(List.getElem?_eq_some_iff.1 hj3).1;omega
   obtain ⟨b3,o3,v',rfl,hb3,hv',hat⟩:=vd_at HR.out.v hl3';rw [hj3] at hv';obtain rfl:=Option.some.inj hv';obtain ⟨xa,xl,xc,hvr,z0,z2,z3,z5,d0,d1,d2,d3,d4,d5,d6,d7⟩:=vd_cells hat;have HJ:=hidK hj3;have HDb:=hidK hbd;have hbv : b3 < wr.heap.size:=Nat.lt_of_lt_of_le hb3 HB.out.size;have v0:=(cell_below HB.out hb3).trans d0;clear hv' hat hvr z0 z2 z3 z5 d0 d1 d2 d3 d4 d5 d6 d7 hj3 hbd hb3
   by_cases hin : InL n.zs v.n
   ·have HIn:=hidK hin;clear hin;have Gk:=Bk;have Gp:=Bp;have Gn:=Bn;have HW:=HB;obtain ⟨k0,k1,k2,k3,k4,k5⟩:=sl6 Gk;have p3:=fun q : Wd wr => q.slot (o:=3) Gp.out rfl;have n6:=fun q : Wd wr => q.slot (o:=6) Gn.out rfl;have tw:=fun q : Wd wr => (q.cell hb).trans hc;have vw:=fun q : Wd wr => (q.cell hbv).trans v0;have hne0:=Wd.ne wr;have HC0:=hidK (fun q : Wd wr => sbind_hit ⟨(some ⟨b1,o1,none⟩),l1,y1,a2,l2,y2,(some ⟨b3,o3,none⟩),l3,y3,a4,l4,y4,a5,l5,y5⟩ c t q.w (HR.out.below (HW.out.trans (q.b.mono HW.out.size))) HX.out HV.out HNE.out HJ.out HDb.out);have HC1:=hidK (fun q : Wd wr => (shas_any na nl nc n.zs v.n q.w (HTn.out.below (HW.out.trans (q.b.mono HW.out.size)))).mono (fun _ _ h => BoolB.yes h HIn.out));go_wp2_with fail;refine wp_region_wide (by kernel_rfl) (by kernel_rfl) ?_
    repeat (go_big_quiet_step (first | (go_at_call 24;exact Calls.wide (HC0.out _)) | (go_at_call 26;exact Calls.wide (HC1.out _)) | fail))
    refine wpQuiet_nil ?_;rintro _ ⟨q2,rfl⟩;have HB1:=upB HW q2.b;have Ck:=upK Gk q2.b;have Cp:=upK Gp q2.b;have Cn:=upK Gn q2.b;clear hne0 HW HB HC0 HC1 k0 k1 k2 k3 k4 k5 p3 n6 tw vw Gk Gp Gn Bk Bp Bn pp hb hc hbv v0;have HB:=HB1;clear HB1;have Bk:=Ck;clear Ck;have Bp:=Cp;clear Cp;have Bn:=Cn;clear Cn;go_wp2_with fail;refine ⟨⟨k + 1,by omega,by go_num,fun j s hj hs => ?_,HBY.out.trans (q2.b.mono HBY.out.size)⟩,by simp [intOf];omega⟩
    by_cases e : j = k
    ·subst e;rw [HXt.out] at hs;obtain rfl:=Option.some.inj hs;exact ⟨v,HDb.out,HIn.out⟩
    ·exact HQ.out j s (by omega) hs
   ·have HIn:=hidK hin;clear hin;have Gk:=Bk;have Gp:=Bp;have Gn:=Bn;have HW:=HB;obtain ⟨k0,k1,k2,k3,k4,k5⟩:=sl6 Gk;have p3:=fun q : Wd wr => q.slot (o:=3) Gp.out rfl;have n6:=fun q : Wd wr => q.slot (o:=6) Gn.out rfl;have tw:=fun q : Wd wr => (q.cell hb).trans hc;have vw:=fun q : Wd wr => (q.cell hbv).trans v0;have hne0:=Wd.ne wr;have HC0:=hidK (fun q : Wd wr => sbind_hit ⟨(some ⟨b1,o1,none⟩),l1,y1,a2,l2,y2,(some ⟨b3,o3,none⟩),l3,y3,a4,l4,y4,a5,l5,y5⟩ c t q.w (HR.out.below (HW.out.trans (q.b.mono HW.out.size))) HX.out HV.out HNE.out HJ.out HDb.out);have HC1:=hidK (fun q : Wd wr => (shas_any na nl nc n.zs v.n q.w (HTn.out.below (HW.out.trans (q.b.mono HW.out.size)))).mono (fun _ _ h => BoolB.no h HIn.out));go_wp2_with fail;refine wp_region_wide (by kernel_rfl) (by kernel_rfl) ?_
    repeat (go_big_quiet_step (first | (go_at_call 24;exact Calls.wide (HC0.out _)) | (go_at_call 26;exact Calls.wide (HC1.out _)) | fail))
    refine wpQuiet_nil ?_;rintro _ ⟨q2,rfl⟩;have HB1:=upB HW q2.b;have Ck:=upK Gk q2.b;have Cp:=upK Gp q2.b;have Cn:=upK Gn q2.b;clear hne0 HW HB HC0 HC1 k0 k1 k2 k3 k4 k5 p3 n6 tw vw Gk Gp Gn Bk Bp Bn pp hb hc hbv v0;have HB:=HB1;clear HB1;have Bk:=Ck;clear Ck;have Bp:=Cp;clear Cp;have Bn:=Cn;clear Cn
    go_wp2
    go_ret;refine BoolB.f (fun h => ?_) HB.out;obtain ⟨v2,e1,e2⟩:=h k t HXt.out;obtain rfl:=IsBd.inj HX.out HV.out HDb.out e1;exact HIn.out e2
  ·obtain rfl : pl = k:=by omega
   go_wp2
   go_ret;exact BoolB.t (fun j t ht => HQ.out j t (by have:=(List.getElem?_eq_some_iff.1 ht).1;omega) ht) HB.out

theorem smounted_any (d : Ad) (c : Cl) (w : World) (hr : ClRow w d c.raw) (hn : RisBy Nd.n c.ns) (hx : RisBy Xd.n c.xs) (hv : RisBy Vd.n c.vs) (hne : ∀ (j : Nat) v,c.vs[j]? = some v → ¬ v.n = ⟨#[]⟩) (hrun : ∀ (j : Nat) p,c.ps[j]? = some p → p.p = 2 → (∃ (i : Nat) (n : Nd),c.ns[i]? = some n ∧ n.n = p.d) ∧ ∀ (j : Nat) t,p.zs[j]? = some t → ∃ v,IsBd c t v) :
  Calls Tryz.prog 101 #[.agg #[.slice d.a1 d.l1 d.c1,.slice d.a2 d.l2 d.c2,.slice d.a3 d.l3 d.c3,.slice d.a4 d.l4 d.c4,.slice d.a5 d.l5 d.c5,.int .i64 c.now]] w (BoolB (MountedI c) w):=by
 obtain ⟨a1,l1,y1,a2,l2,y2,a3,l3,y3,a4,l4,y4,a5,l5,y5⟩:=d;dsimp only;have HR:=hidK hr
 have hl1 : c.ns.length = l1:=by simpa using (show (c.ns.map ndF).length = l1 from hr.n.1)
 have hm1 : l1 ≤ 9223372036854775807:=Nat.le_trans hr.n.2.1 hr.n.2.2.1
 have hl2 : c.ks.length = l2:=by simpa using (show (c.ks.map kdF).length = l2 from hr.k.1)
 have hm2 : l2 ≤ 9223372036854775807:=Nat.le_trans hr.k.2.1 hr.k.2.2.1
 have hl3 : c.vs.length = l3:=by simpa using (show (c.vs.map vdF).length = l3 from hr.v.1)
 have hm3 : l3 ≤ 9223372036854775807:=Nat.le_trans hr.v.2.1 hr.v.2.2.1
 have hl4 : c.xs.length = l4:=by simpa using (show (c.xs.map xdF).length = l4 from hr.x.1)
 have hm4 : l4 ≤ 9223372036854775807:=Nat.le_trans hr.x.2.1 hr.x.2.2.1
 have hl5 : c.ps.length = l5:=by simpa using (show (c.ps.map pdF).length = l5 from hr.p.1)
 have hm5 : l5 ≤ 9223372036854775807:=Nat.le_trans hr.p.2.1 hr.p.2.2.1;clear hr;have HNR:=hidK hn;have HX:=hidK hx;have HV:=hidK hv;have HNE:=hidK hne;have HRun:=hidK hrun;clear hn hx hv hne hrun
 go_enter Tryz.func101,Tryz.ntmps101
 go_wp2
 go_loopw [3] (fun i wr => ∃ k : Nat,k ≤ l1 ∧ i = .int .i64 k ∧ Hid (∀ (j : Nat) z,j < k → c.ns[j]? = some z → MntI c z) ∧ Hid (Below w.heap.size w wr) ∧ Hid (wr.heap[w.heap.size]? = some (.cells #[.slice a1 l1 y1,.slice a2 l2 y2,.slice a3 l3 y3,.slice a4 l4 y4,.slice a5 l5 y5,.int .i64 c.now] 36 (0,0)))) (fun i _ => l1 - (intOf i).toNat)
 case atStart => exact ⟨0,by omega,rfl,fun _ _ h => absurd h (by omega),below1 _ _,Array.getElem?_push_size⟩
 case round =>
  obtain ⟨k,hk,rfl,HQ,HB,Bk⟩:=hrel;have pk : wr.cell? ⟨w.heap.size,0,none⟩ = some (.slice a1 l1 y1):=cellK Bk.out 0;have pkl : w.heap.size < wr.heap.size:=lt_of_some Bk.out
  by_cases hlt : k < l1
  ·obtain ⟨b,o,n,rfl,hb,hx,hat⟩:=nd_at (HR.out.n.below HB.out) hlt;obtain ⟨va,vl,vc,hvr,z0,z1,c0,c1,c2,c3,c4,c5,c6⟩:=nd_cells hat;have HXn:=hidK hx;have HTn:=hidK hvr;have HZn0:=hidK z0;have HZn1:=hidK z1;clear hat hx z0 z1 hvr;have hvl : n.zs.length = vl:=HTn.out.1;have hvc : vl ≤ 9223372036854775807:=Nat.le_trans HTn.out.2.1 HTn.out.2.2.1;have HVL:=hidK hvl;clear hvl;have KV : Hid ((wr.alloc (.cells #[.string n.n,.string n.z,.int .i64 n.c,.int .i64 n.s,.int .i64 n.u,.bool n.d,.slice va vl vc] 106)).heap[w.heap.size]? = some (.cells #[.slice (some ⟨b,o,none⟩) l1 y1,.slice a2 l2 y2,.slice a3 l3 y3,.slice a4 l4 y4,.slice a5 l5 y5,.int .i64 c.now] 36 (0,0))):=(Below.heap_alloc wr (.cells #[.string n.n,.string n.z,.int .i64 n.c,.int .i64 n.s,.int .i64 n.u,.bool n.d,.slice va vl vc] 106) _ (lt_of_some Bk.out)).trans Bk.out;have GV : Hid ((wr.alloc (.cells #[.string n.n,.string n.z,.int .i64 n.c,.int .i64 n.s,.int .i64 n.u,.bool n.d,.slice va vl vc] 106)).heap[wr.heap.size]? = some (.cells #[.string n.n,.string n.z,.int .i64 n.c,.int .i64 n.s,.int .i64 n.u,.bool n.d,.slice va vl vc] 106 (0,0))):=Array.getElem?_push_size;have BV:=hidK (HB.out.trans ((below1 wr (.cells #[.string n.n,.string n.z,.int .i64 n.c,.int .i64 n.s,.int .i64 n.u,.bool n.d,.slice va vl vc] 106)).mono HB.out.size));have TT:=hidK (HTn.out.below (below1 wr (.cells #[.string n.n,.string n.z,.int .i64 n.c,.int .i64 n.s,.int .i64 n.u,.bool n.d,.slice va vl vc] 106)));obtain ⟨W,hW⟩ : ∃ W,W = wr.alloc (.cells #[.string n.n,.string n.z,.int .i64 n.c,.int .i64 n.s,.int .i64 n.u,.bool n.d,.slice va vl vc] 106):=⟨_,rfl⟩;obtain ⟨gb,hgb⟩ : ∃ gb,gb = wr.heap.size:=⟨_,rfl⟩;rw [← hW] at KV GV BV TT;rw [← hgb] at GV
   go_wp2
   rw [← hW,← hgb];clear hW hgb HB Bk HTn c0 c1 c2 c3 c4 c5 c6 hb pk pkl
   go_loopw [5] (fun i wr => ∃ kq : Nat,kq ≤ vl ∧ i = .int .i64 kq ∧ Hid (∀ (j : Nat) t,j < kq → n.zs[j]? = some t → ∃ (i : Nat) (v : Vd),c.vs[i]? = some v ∧ v.n = t ∧ (n.d = true ∨ InL v.zs n.n)) ∧ Hid (Below W.heap.size W wr)) (fun i _ => vl - (intOf i).toNat)
   case atStart => exact ⟨0,by omega,rfl,fun _ _ h => absurd h (by omega),Below.refl _ _⟩
   case round =>
    obtain ⟨kq,hkq,rfl,HQ2,HBW⟩:=hrel;have HB:=hidK (BV.out.trans (HBW.out.mono BV.out.size));have Bk:=upK KV HBW.out;have Bv:=upK GV HBW.out;have pv : wr.cell? ⟨gb,6,none⟩ = some (.slice va vl vc):=cellK Bv.out 6
    by_cases hlt2 : kq < vl
    ·obtain ⟨b2,o2,t,rfl,hb,hx,hc,hsz⟩:=(TT.out.below HBW.out).at hlt2;have HXt:=hidK hx;clear hx hsz
     by_cases hnn : ∃ (i : Nat) (v : Vd),c.vs[i]? = some v ∧ v.n = t
     rotate_left
     ·have HH:=hidK hnn;clear hnn;have Gk:=Bk;have Gv:=Bv;have HW:=HB;obtain ⟨k0,k1,k2,k3,k4,k5⟩:=sl6 Gk;have v6:=fun q : Wd wr => q.slot (o:=6) Gv.out rfl;have tw:=fun q : Wd wr => (q.cell hb).trans hc;have hne0:=Wd.ne wr;have HC0:=hidK (fun q : Wd wr => sxvd_miss ⟨(some ⟨b,o,none⟩),l1,y1,a2,l2,y2,a3,l3,y3,a4,l4,y4,a5,l5,y5⟩ c.now c.vs t q.w (HR.out.v.below (HW.out.trans (q.b.mono HW.out.size))) (fun i v h1 h2 => HH.out ⟨i,v,h1,h2⟩));go_wp2_with fail;refine wp_region_wide (by kernel_rfl) (by kernel_rfl) ?_
      repeat (go_big_quiet_step (first | (go_at_call 53;exact Calls.wide (HC0.out _)) | fail))
      refine wpQuiet_nil ?_;rintro _ ⟨q1,rfl⟩;have HB1:=upB HW q1.b;have Ck:=upK Gk q1.b;have Cv:=upK Gv q1.b;clear hne0 HW HB HC0 k0 k1 k2 k3 k4 k5 v6 tw Gk Gv Bk Bv pv;have HB:=HB1;clear HB1;have Bk:=Ck;clear Ck;have Bv:=Cv;clear Cv;have Gk:=Bk;have Gv:=Bv;have HW:=HB;have k2:=fun q : Wd q1.w => q.slot (o:=2) Gk.out rfl;obtain ⟨v0,v1,v2,v3,v4,v5,v6⟩:=sl7 Gv;have hne0:=Wd.ne q1.w;go_wp2_with fail;refine wp_region_wide (by kernel_rfl) (by kernel_rfl) ?_
      repeat (go_big_quiet_step (first | fail))
      refine wpQuiet_nil ?_;rintro _ ⟨q2,rfl⟩;have HB2:=upB HW q2.b;have Ck:=upK Gk q2.b;have Cv:=upK Gv q2.b;clear hne0 HW HB k2 v0 v1 v2 v3 v4 v5 v6 Gk Gv Bk Bv;have HB:=HB2;clear HB2;have Bk:=Ck;clear Ck;have Bv:=Cv;clear Cv
      go_wp2
      go_ret;refine BoolB.f (fun h => ?_) HB.out;obtain ⟨i,v,h2,h3,_⟩:=(h.1 k n HXn.out) kq t HXt.out;exact HH.out ⟨i,v,h2,h3⟩
     obtain ⟨j3,v,h1,h2⟩:=hnn
     have hl3' : j3 < l3:=by have h3:=(List.getElem?_eq_some_iff.1 h1).1;omega
     obtain ⟨b3,o3,v',rfl,hb3,hv',hat⟩:=vd_at HR.out.v hl3';rw [h1] at hv';obtain rfl:=Option.some.inj hv';obtain ⟨xa,xl,xc,hvr,z0,z2,z3,z5,d0,d1,d2,d3,d4,d5,d6,d7⟩:=vd_cells hat;have HJ:=hidK h1;have HNv:=hidK h2;have HTx:=hidK hvr;have HC7:=hidK d7;have HB3:=hidK hb3
     have hj31 : decide ((j3 : Int) < 0) = false:=by simp
     clear hv' hat hvr z0 z2 z3 z5 d0 d1 d2 d3 d4 d5 d6 d7 h1 h2 hb3;have Gk:=Bk;have Gv:=Bv;have HW:=HB;obtain ⟨k0,k1,k2,k3,k4,k5⟩:=sl6 Gk;have v6:=fun q : Wd wr => q.slot (o:=6) Gv.out rfl;have tw:=fun q : Wd wr => (q.cell hb).trans hc;have hne0:=Wd.ne wr;have HC0:=hidK (fun q : Wd wr => sxvd_hit ⟨(some ⟨b,o,none⟩),l1,y1,a2,l2,y2,(some ⟨b3,o3,none⟩),l3,y3,a4,l4,y4,a5,l5,y5⟩ c.now c.vs t q.w (HR.out.v.below (HW.out.trans (q.b.mono HW.out.size))) HV.out HJ.out HNv.out);go_wp2_with fail;refine wp_region_wide (by kernel_rfl) (by kernel_rfl) ?_
     repeat (go_big_quiet_step (first | (go_at_call 53;exact Calls.wide (HC0.out _)) | fail))
     refine wpQuiet_nil ?_;rintro _ ⟨q1,rfl⟩;have HB1:=upB HW q1.b;have Ck:=upK Gk q1.b;have Cv:=upK Gv q1.b;clear hne0 HW HB HC0 k0 k1 k2 k3 k4 k5 v6 tw Gk Gv Bk Bv pv hb hc;have HB:=HB1;clear HB1;have Bk:=Ck;clear Ck;have Bv:=Cv;clear Cv;have HBW1:=upB HBW q1.b;have hbv : b3 < q1.w.heap.size:=Nat.lt_of_lt_of_le HB3.out HB.out.size;have v7:=(cell_below HB.out HB3.out).trans HC7.out;clear HBW
     rcases Bool.eq_false_or_eq_true n.d with hd | hd
     ·have HDd:=hidK hd;clear hd
      have Bv2 : Hid (q1.w.heap[gb]? = some (.cells #[.string n.n,.string n.z,.int .i64 n.c,.int .i64 n.s,.int .i64 n.u,.bool true,.slice (some ⟨b2,o2,none⟩) vl vc] 106 (0,0))):=by have:=Bv.out;rw [HDd.out] at this;exact this
      clear Bv;have Bv:=Bv2;clear Bv2;have Gk:=Bk;have Gv:=Bv;have HW:=HB;have k2:=fun q : Wd q1.w => q.slot (o:=2) Gk.out rfl;obtain ⟨v0,v1,v2,v3,v4,v5,v6⟩:=sl7 Gv;have vw:=fun q : Wd q1.w => (q.cell hbv).trans v7;have hne0:=Wd.ne q1.w;go_wp2_with fail;refine wp_region_wide (by kernel_rfl) (by kernel_rfl) ?_
      repeat (go_big_quiet_step (first | fail))
      refine wpQuiet_nil ?_;rintro _ ⟨q2,rfl⟩;have HB2:=upB HW q2.b;have Ck:=upK Gk q2.b;have Cv:=upK Gv q2.b;clear hne0 HW HB k2 v0 v1 v2 v3 v4 v5 v6 vw Gk Gv Bk Bv hbv v7;have HB:=HB2;clear HB2;have Bk:=Ck;clear Ck;have Bv:=Cv;clear Cv;go_wp2_with fail;refine ⟨⟨kq + 1,by omega,by go_num,fun j s hj hs => ?_,HBW1.out.trans (q2.b.mono HBW1.out.size)⟩,by simp [intOf];omega⟩
      by_cases e : j = kq
      ·subst e;rw [HXt.out] at hs;obtain rfl:=Option.some.inj hs;exact ⟨j3,v,HJ.out,HNv.out,.inl HDd.out⟩
      ·exact HQ2.out j s (by omega) hs
     ·have HDd:=hidK hd;clear hd
      have Bv2 : Hid (q1.w.heap[gb]? = some (.cells #[.string n.n,.string n.z,.int .i64 n.c,.int .i64 n.s,.int .i64 n.u,.bool false,.slice (some ⟨b2,o2,none⟩) vl vc] 106 (0,0))):=by have:=Bv.out;rw [HDd.out] at this;exact this
      clear Bv;have Bv:=Bv2;clear Bv2
      by_cases hin : InL v.zs n.n
      ·have HIn:=hidK hin;clear hin;have Gk:=Bk;have Gv:=Bv;have HW:=HB;have k2:=fun q : Wd q1.w => q.slot (o:=2) Gk.out rfl;obtain ⟨v0,v1,v2,v3,v4,v5,v6⟩:=sl7 Gv;have vw:=fun q : Wd q1.w => (q.cell hbv).trans v7;have hne0:=Wd.ne q1.w;have HC0:=hidK (fun q : Wd q1.w => (shas_any xa xl xc v.zs n.n q.w (HTx.out.below (HW.out.trans (q.b.mono HW.out.size)))).mono (fun _ _ h => BoolB.yes h HIn.out));go_wp2_with fail;refine wp_region_wide (by kernel_rfl) (by kernel_rfl) ?_
       repeat (go_big_quiet_step (first | (go_at_call 26;exact Calls.wide (HC0.out _)) | fail))
       refine wpQuiet_nil ?_;rintro _ ⟨q2,rfl⟩;have HB2:=upB HW q2.b;have Ck:=upK Gk q2.b;have Cv:=upK Gv q2.b;clear hne0 HW HB HC0 k2 v0 v1 v2 v3 v4 v5 v6 vw Gk Gv Bk Bv hbv v7;have HB:=HB2;clear HB2;have Bk:=Ck;clear Ck;have Bv:=Cv;clear Cv;go_wp2_with fail;refine ⟨⟨kq + 1,by omega,by go_num,fun j s hj hs => ?_,HBW1.out.trans (q2.b.mono HBW1.out.size)⟩,by simp [intOf];omega⟩
       by_cases e : j = kq
       ·subst e;rw [HXt.out] at hs;obtain rfl:=Option.some.inj hs;exact ⟨j3,v,HJ.out,HNv.out,.inr HIn.out⟩
       ·exact HQ2.out j s (by omega) hs
      ·have HIn:=hidK hin;clear hin;have Gk:=Bk;have Gv:=Bv;have HW:=HB;have k2:=fun q : Wd q1.w => q.slot (o:=2) Gk.out rfl;obtain ⟨v0,v1,v2,v3,v4,v5,v6⟩:=sl7 Gv;have vw:=fun q : Wd q1.w => (q.cell hbv).trans v7;have hne0:=Wd.ne q1.w;have HC0:=hidK (fun q : Wd q1.w => (shas_any xa xl xc v.zs n.n q.w (HTx.out.below (HW.out.trans (q.b.mono HW.out.size)))).mono (fun _ _ h => BoolB.no h HIn.out));go_wp2_with fail;refine wp_region_wide (by kernel_rfl) (by kernel_rfl) ?_
       repeat (go_big_quiet_step (first | (go_at_call 26;exact Calls.wide (HC0.out _)) | fail))
       refine wpQuiet_nil ?_;rintro _ ⟨q2,rfl⟩;have HB2:=upB HW q2.b;have Ck:=upK Gk q2.b;have Cv:=upK Gv q2.b;clear hne0 HW HB HC0 k2 v0 v1 v2 v3 v4 v5 v6 vw Gk Gv Bk Bv hbv v7;have HB:=HB2;clear HB2;have Bk:=Ck;clear Ck;have Bv:=Cv;clear Cv
       go_wp2
       go_ret;refine BoolB.f (fun h => ?_) HB.out;obtain ⟨i,v2,e1,e2,e3⟩:=(h.1 k n HXn.out) kq t HXt.out;obtain ⟨_,rfl⟩:=HV.out.inj e1 HJ.out (e2.trans HNv.out.symm)
       rcases e3 with e3 | e3
       ·rw [HDd.out] at e3;cases e3
       ·exact HIn.out e3
    ·obtain rfl : vl = kq:=by omega
     go_wp2_with fail;refine ⟨⟨k + 1,by omega,by go_num,fun j z hj hz => ?_,HB.out,Bk.out⟩,by simp [intOf];omega⟩
     by_cases e : j = k
     ·subst e;rw [HXn.out] at hz;obtain rfl:=Option.some.inj hz;exact fun j s hs => HQ2.out j s (by have h1:=(List.getElem?_eq_some_iff.1 hs).1;have h2:=HVL.out;omega) hs
     ·exact HQ.out j z (by omega) hz
  ·obtain rfl : l1 = k:=by omega
   have HQ1 : Hid (∀ (j : Nat) z,c.ns[j]? = some z → MntI c z):=fun j z hz => HQ.out j z (by have:=(List.getElem?_eq_some_iff.1 hz).1;omega) hz;clear HQ;have kc : wr.cell? ⟨w.heap.size,4,none⟩ = some (.slice a5 l5 y5):=cellK Bk.out 4
   go_wp2
   clear pk pkl kc
   go_loopw [7] (fun i wr => ∃ k : Nat,k ≤ l5 ∧ i = .int .i64 k ∧ Hid (∀ (j : Nat) z,j < k → c.ps[j]? = some z → MQ2 c z) ∧ Hid (Below w.heap.size w wr) ∧ Hid (wr.heap[w.heap.size]? = some (.cells #[.slice a1 l1 y1,.slice a2 l2 y2,.slice a3 l3 y3,.slice a4 l4 y4,.slice a5 l5 y5,.int .i64 c.now] 36 (0,0)))) (fun i _ => l5 - (intOf i).toNat)
   case atStart => exact ⟨0,by omega,rfl,fun _ _ h => absurd h (by omega),HB.out,Bk.out⟩
   case round =>
    obtain ⟨k,hk,rfl,HQ,HB,Bk⟩:=hrel;have pk : wr.cell? ⟨w.heap.size,4,none⟩ = some (.slice a5 l5 y5):=cellK Bk.out 4;have pkl : w.heap.size < wr.heap.size:=lt_of_some Bk.out
    by_cases hlt : k < l5
    ·obtain ⟨b,o,p,rfl,hb,hx,hat⟩:=pd_at (HR.out.p.below HB.out) hlt;obtain ⟨va,vl,vc,hvr,z0,z2,z4,c0,c1,c2,c3,c4,c5⟩:=pd_cells hat;have HXp:=hidK hx;have HTp:=hidK hvr;have HZp0:=hidK z0;have HZp2:=hidK z2;have HZp4:=hidK z4;clear hat hx z0 z2 z4 hvr
     by_cases hp2 : p.p = 2
     rotate_left
     ·have HP2:=hidK hp2
      have hp3 : (p.p == 2) = false:=by simpa using hp2
      have hszv1 : (wr.alloc (.cells #[.string p.n,.int .i64 p.c,.string p.z,.slice va vl vc,.string p.d,.int .i64 p.p] 58)).heap.size = wr.heap.size + 1:=by simp
      have Gk : Hid ((wr.alloc (.cells #[.string p.n,.int .i64 p.c,.string p.z,.slice va vl vc,.string p.d,.int .i64 p.p] 58)).heap[w.heap.size]? = some (.cells #[.slice a1 l1 y1,.slice a2 l2 y2,.slice a3 l3 y3,.slice a4 l4 y4,.slice (some ⟨b,o,none⟩) l5 y5,.int .i64 c.now] 36 (0,0))):=(Below.heap_alloc _ _ _ (lt_of_some Bk.out)).trans (Bk.out);have Gr : Hid ((wr.alloc (.cells #[.string p.n,.int .i64 p.c,.string p.z,.slice va vl vc,.string p.d,.int .i64 p.p] 58)).heap[wr.heap.size]? = some (.cells #[.string p.n,.int .i64 p.c,.string p.z,.slice va vl vc,.string p.d,.int .i64 p.p] 58 (0,0))):=Array.getElem?_push_size;have HW : Hid (Below w.heap.size w (wr.alloc (.cells #[.string p.n,.int .i64 p.c,.string p.z,.slice va vl vc,.string p.d,.int .i64 p.p] 58))):=(HB.out.trans ((below1 _ _).mono HB.out.size));obtain ⟨k0,k1,k2,k3,k4,k5⟩:=sl6 Gk;obtain ⟨r0,r1,r2,r3,r4,r5⟩:=sl6 Gr;have hne0:=Wd.ne (wr.alloc (.cells #[.string p.n,.int .i64 p.c,.string p.z,.slice va vl vc,.string p.d,.int .i64 p.p] 58));go_wp2_with fail;refine wp_region_wide (by kernel_rfl) (by kernel_rfl) ?_
      repeat (go_big_quiet_step (first | fail))
      refine wpQuiet_nil ?_;rintro _ ⟨q1,rfl⟩;have HB1:=upB HW q1.b;have Ck:=upK Gk q1.b;have Cr:=upK Gr q1.b;clear hne0 HW HB k0 k1 k2 k3 k4 k5 r0 r1 r2 r3 r4 r5 Gk Gr Bk hszv1 pk pkl hb c0 c1 c2 c3 c4 c5;have HB:=HB1;clear HB1;have Bk:=Ck;clear Ck;have Br:=Cr;clear Cr;clear hp2 hp3;go_wp2_with fail;refine ⟨⟨k + 1,by omega,by go_num,fun j z hj hz => ?_,HB.out,Bk.out⟩,by simp [intOf];omega⟩
      by_cases e : j = k
      ·subst e;rw [HXp.out] at hz;obtain rfl:=Option.some.inj hz;exact fun h => absurd h HP2.out
      ·exact HQ.out j z (by omega) hz
     have HP2:=hidK hp2;obtain ⟨⟨j1,n,h1,h2⟩,hbd⟩:=HRun.out k p HXp.out hp2;rw [hp2] at c5;clear hp2;have HBD:=hidK hbd
     have hl1' : j1 < l1:=by have h3:=(List.getElem?_eq_some_iff.1 h1).1;omega
     obtain ⟨b1,o1,n',rfl,hb1n,hn',hat⟩:=nd_at HR.out.n hl1';rw [h1] at hn';obtain rfl:=Option.some.inj hn';obtain ⟨na,nl,nc,hnr,z0,z1,d0,d1,d2,d3,d4,d5,d6⟩:=nd_cells hat;have HJn:=hidK h1;have HNn:=hidK h2;have e5:=(cell_below HB.out hb1n).trans d5;have hbn : b1 < wr.heap.size:=Nat.lt_of_lt_of_le hb1n HB.out.size;clear hn' hat hnr z0 z1 d0 d1 d2 d3 d4 d5 d6 h1 h2 hb1n hbd
     rcases Bool.eq_false_or_eq_true n.d with hd | hd
     ·have HDd:=hidK hd;rw [hd] at e5;clear hd
      have hbnv : b1 < (wr.alloc (.cells #[.string p.n,.int .i64 p.c,.string p.z,.slice va vl vc,.string p.d,.int .i64 2] 58)).heap.size:=by simp;omega
      have e5v:=(cell_below (below1 wr (.cells #[.string p.n,.int .i64 p.c,.string p.z,.slice va vl vc,.string p.d,.int .i64 2] 58)) hbn).trans e5
      have hszv1 : (wr.alloc (.cells #[.string p.n,.int .i64 p.c,.string p.z,.slice va vl vc,.string p.d,.int .i64 2] 58)).heap.size = wr.heap.size + 1:=by simp
      have Gk : Hid ((wr.alloc (.cells #[.string p.n,.int .i64 p.c,.string p.z,.slice va vl vc,.string p.d,.int .i64 2] 58)).heap[w.heap.size]? = some (.cells #[.slice (some ⟨b1,o1,none⟩) l1 y1,.slice a2 l2 y2,.slice a3 l3 y3,.slice a4 l4 y4,.slice (some ⟨b,o,none⟩) l5 y5,.int .i64 c.now] 36 (0,0))):=(Below.heap_alloc _ _ _ (lt_of_some Bk.out)).trans (Bk.out);have Gr : Hid ((wr.alloc (.cells #[.string p.n,.int .i64 p.c,.string p.z,.slice va vl vc,.string p.d,.int .i64 2] 58)).heap[wr.heap.size]? = some (.cells #[.string p.n,.int .i64 p.c,.string p.z,.slice va vl vc,.string p.d,.int .i64 2] 58 (0,0))):=Array.getElem?_push_size;have HW : Hid (Below w.heap.size w (wr.alloc (.cells #[.string p.n,.int .i64 p.c,.string p.z,.slice va vl vc,.string p.d,.int .i64 2] 58))):=(HB.out.trans ((below1 _ _).mono HB.out.size));obtain ⟨k0,k1,k2,k3,k4,k5⟩:=sl6 Gk;obtain ⟨r0,r1,r2,r3,r4,r5⟩:=sl6 Gr;have nw:=fun q : Wd (wr.alloc (.cells #[.string p.n,.int .i64 p.c,.string p.z,.slice va vl vc,.string p.d,.int .i64 2] 58)) => (q.cell hbnv).trans e5v;have hne0:=Wd.ne (wr.alloc (.cells #[.string p.n,.int .i64 p.c,.string p.z,.slice va vl vc,.string p.d,.int .i64 2] 58));have HC0:=hidK (fun q : Wd (wr.alloc (.cells #[.string p.n,.int .i64 p.c,.string p.z,.slice va vl vc,.string p.d,.int .i64 2] 58)) => sxnd_hit ⟨(some ⟨b1,o1,none⟩),l1,y1,a2,l2,y2,a3,l3,y3,a4,l4,y4,(some ⟨b,o,none⟩),l5,y5⟩ c.now c.ns p.d q.w (HR.out.n.below (HW.out.trans (q.b.mono HW.out.size))) HNR.out HJn.out HNn.out);go_wp2_with fail;refine wp_region_wide (by kernel_rfl) (by kernel_rfl) ?_
      repeat (go_big_quiet_step (first | (go_at_call 126;exact Calls.wide (HC0.out _)) | fail))
      refine wpQuiet_nil ?_;rintro _ ⟨q1,rfl⟩;have HB1:=upB HW q1.b;have Ck:=upK Gk q1.b;have Cr:=upK Gr q1.b;clear hne0 HW HB HC0 k0 k1 k2 k3 k4 k5 r0 r1 r2 r3 r4 r5 nw Gk Gr Bk hszv1 pk pkl hb hbn e5 hbnv e5v c0 c1 c2 c3 c4 c5;have HB:=HB1;clear HB1;have Bk:=Ck;clear Ck;have Br:=Cr;clear Cr
      go_wp2
      go_ret;refine BoolB.f (fun h => ?_) HB.out;obtain ⟨i,m,e1,e2,e3,_⟩:=(h.2 k p HXp.out) HP2.out;obtain ⟨_,rfl⟩:=HNR.out.inj e1 HJn.out (e2.trans HNn.out.symm);rw [HDd.out] at e3
      cases e3
     ·by_cases hal : AllS c p n
      ·have HAl:=hidK hal;clear hal;have HDd:=hidK hd;rw [hd] at e5;clear hd
       have hbnv : b1 < (wr.alloc (.cells #[.string p.n,.int .i64 p.c,.string p.z,.slice va vl vc,.string p.d,.int .i64 2] 58)).heap.size:=by simp;omega
       have e5v:=(cell_below (below1 wr (.cells #[.string p.n,.int .i64 p.c,.string p.z,.slice va vl vc,.string p.d,.int .i64 2] 58)) hbn).trans e5
       have HCA : Hid (∀ q : Wd (wr.alloc (.cells #[.string p.n,.int .i64 p.c,.string p.z,.slice va vl vc,.string p.d,.int .i64 2] 58)),Calls Tryz.prog 130 #[.agg #[.slice (some ⟨b1,o1,none⟩) l1 y1,.slice a2 l2 y2,.slice a3 l3 y3,.slice a4 l4 y4,.slice (some ⟨b,o,none⟩) l5 y5,.int .i64 c.now],.agg #[.string p.n,.int .i64 p.c,.string p.z,.slice va vl vc,.string p.d,.int .i64 2]] q.w fun e w' => e = .returned (.bool true) ∧ Below q.w.heap.size q.w w'):=by
        intro q;have h0:=(sall_any ⟨(some ⟨b1,o1,none⟩),l1,y1,a2,l2,y2,a3,l3,y3,a4,l4,y4,(some ⟨b,o,none⟩),l5,y5⟩ c p va vl vc j1 n q.w (HR.out.below (HB.out.trans (((below1 wr _).trans (q.b.mono (by simp))).mono HB.out.size))) HNR.out HX.out HV.out HNE.out (HTp.out.below ((below1 wr _).trans (q.b.mono (by simp)))) HJn.out HNn.out HBD.out).mono (fun _ _ h => BoolB.yes h HAl.out);rw [HP2.out] at h0;exact h0
       have hszv1 : (wr.alloc (.cells #[.string p.n,.int .i64 p.c,.string p.z,.slice va vl vc,.string p.d,.int .i64 2] 58)).heap.size = wr.heap.size + 1:=by simp
       have Gk : Hid ((wr.alloc (.cells #[.string p.n,.int .i64 p.c,.string p.z,.slice va vl vc,.string p.d,.int .i64 2] 58)).heap[w.heap.size]? = some (.cells #[.slice (some ⟨b1,o1,none⟩) l1 y1,.slice a2 l2 y2,.slice a3 l3 y3,.slice a4 l4 y4,.slice (some ⟨b,o,none⟩) l5 y5,.int .i64 c.now] 36 (0,0))):=(Below.heap_alloc _ _ _ (lt_of_some Bk.out)).trans (Bk.out);have Gr : Hid ((wr.alloc (.cells #[.string p.n,.int .i64 p.c,.string p.z,.slice va vl vc,.string p.d,.int .i64 2] 58)).heap[wr.heap.size]? = some (.cells #[.string p.n,.int .i64 p.c,.string p.z,.slice va vl vc,.string p.d,.int .i64 2] 58 (0,0))):=Array.getElem?_push_size;have HW : Hid (Below w.heap.size w (wr.alloc (.cells #[.string p.n,.int .i64 p.c,.string p.z,.slice va vl vc,.string p.d,.int .i64 2] 58))):=(HB.out.trans ((below1 _ _).mono HB.out.size));obtain ⟨k0,k1,k2,k3,k4,k5⟩:=sl6 Gk;obtain ⟨r0,r1,r2,r3,r4,r5⟩:=sl6 Gr;have nw:=fun q : Wd (wr.alloc (.cells #[.string p.n,.int .i64 p.c,.string p.z,.slice va vl vc,.string p.d,.int .i64 2] 58)) => (q.cell hbnv).trans e5v;have hne0:=Wd.ne (wr.alloc (.cells #[.string p.n,.int .i64 p.c,.string p.z,.slice va vl vc,.string p.d,.int .i64 2] 58));have HC0:=hidK (fun q : Wd (wr.alloc (.cells #[.string p.n,.int .i64 p.c,.string p.z,.slice va vl vc,.string p.d,.int .i64 2] 58)) => sxnd_hit ⟨(some ⟨b1,o1,none⟩),l1,y1,a2,l2,y2,a3,l3,y3,a4,l4,y4,(some ⟨b,o,none⟩),l5,y5⟩ c.now c.ns p.d q.w (HR.out.n.below (HW.out.trans (q.b.mono HW.out.size))) HNR.out HJn.out HNn.out);have HC1:=hidK (fun q : Wd (wr.alloc (.cells #[.string p.n,.int .i64 p.c,.string p.z,.slice va vl vc,.string p.d,.int .i64 2] 58)) => HCA.out q);go_wp2_with fail;refine wp_region_wide (by kernel_rfl) (by kernel_rfl) ?_
       repeat (go_big_quiet_step (first | (go_at_call 126;exact Calls.wide (HC0.out _)) | (go_at_call 130;exact Calls.wide (HC1.out _)) | fail))
       refine wpQuiet_nil ?_;rintro _ ⟨q1,rfl⟩;have HB1:=upB HW q1.b;have Ck:=upK Gk q1.b;have Cr:=upK Gr q1.b;clear hne0 HW HB HC0 HC1 k0 k1 k2 k3 k4 k5 r0 r1 r2 r3 r4 r5 nw Gk Gr Bk hszv1 pk pkl hb hbn e5 hbnv e5v c0 c1 c2 c3 c4 c5;have HB:=HB1;clear HB1;have Bk:=Ck;clear Ck;have Br:=Cr;clear Cr;go_wp2_with fail;refine ⟨⟨k + 1,by omega,by go_num,fun j z hj hz => ?_,HB.out,Bk.out⟩,by simp [intOf];omega⟩
       by_cases e : j = k
       ·subst e;rw [HXp.out] at hz;obtain rfl:=Option.some.inj hz;exact fun _ => ⟨j1,n,HJn.out,HNn.out,HDd.out,HAl.out⟩
       ·exact HQ.out j z (by omega) hz
      ·have HAl:=hidK hal;clear hal;have HDd:=hidK hd;rw [hd] at e5;clear hd
       have hbnv : b1 < (wr.alloc (.cells #[.string p.n,.int .i64 p.c,.string p.z,.slice va vl vc,.string p.d,.int .i64 2] 58)).heap.size:=by simp;omega
       have e5v:=(cell_below (below1 wr (.cells #[.string p.n,.int .i64 p.c,.string p.z,.slice va vl vc,.string p.d,.int .i64 2] 58)) hbn).trans e5
       have HCA : Hid (∀ q : Wd (wr.alloc (.cells #[.string p.n,.int .i64 p.c,.string p.z,.slice va vl vc,.string p.d,.int .i64 2] 58)),Calls Tryz.prog 130 #[.agg #[.slice (some ⟨b1,o1,none⟩) l1 y1,.slice a2 l2 y2,.slice a3 l3 y3,.slice a4 l4 y4,.slice (some ⟨b,o,none⟩) l5 y5,.int .i64 c.now],.agg #[.string p.n,.int .i64 p.c,.string p.z,.slice va vl vc,.string p.d,.int .i64 2]] q.w fun e w' => e = .returned (.bool false) ∧ Below q.w.heap.size q.w w'):=by
        intro q;have h0:=(sall_any ⟨(some ⟨b1,o1,none⟩),l1,y1,a2,l2,y2,a3,l3,y3,a4,l4,y4,(some ⟨b,o,none⟩),l5,y5⟩ c p va vl vc j1 n q.w (HR.out.below (HB.out.trans (((below1 wr _).trans (q.b.mono (by simp))).mono HB.out.size))) HNR.out HX.out HV.out HNE.out (HTp.out.below ((below1 wr _).trans (q.b.mono (by simp)))) HJn.out HNn.out HBD.out).mono (fun _ _ h => BoolB.no h HAl.out);rw [HP2.out] at h0;exact h0
       have hszv1 : (wr.alloc (.cells #[.string p.n,.int .i64 p.c,.string p.z,.slice va vl vc,.string p.d,.int .i64 2] 58)).heap.size = wr.heap.size + 1:=by simp
       have Gk : Hid ((wr.alloc (.cells #[.string p.n,.int .i64 p.c,.string p.z,.slice va vl vc,.string p.d,.int .i64 2] 58)).heap[w.heap.size]? = some (.cells #[.slice (some ⟨b1,o1,none⟩) l1 y1,.slice a2 l2 y2,.slice a3 l3 y3,.slice a4 l4 y4,.slice (some ⟨b,o,none⟩) l5 y5,.int .i64 c.now] 36 (0,0))):=(Below.heap_alloc _ _ _ (lt_of_some Bk.out)).trans (Bk.out);have Gr : Hid ((wr.alloc (.cells #[.string p.n,.int .i64 p.c,.string p.z,.slice va vl vc,.string p.d,.int .i64 2] 58)).heap[wr.heap.size]? = some (.cells #[.string p.n,.int .i64 p.c,.string p.z,.slice va vl vc,.string p.d,.int .i64 2] 58 (0,0))):=Array.getElem?_push_size;have HW : Hid (Below w.heap.size w (wr.alloc (.cells #[.string p.n,.int .i64 p.c,.string p.z,.slice va vl vc,.string p.d,.int .i64 2] 58))):=(HB.out.trans ((below1 _ _).mono HB.out.size));obtain ⟨k0,k1,k2,k3,k4,k5⟩:=sl6 Gk;obtain ⟨r0,r1,r2,r3,r4,r5⟩:=sl6 Gr;have nw:=fun q : Wd (wr.alloc (.cells #[.string p.n,.int .i64 p.c,.string p.z,.slice va vl vc,.string p.d,.int .i64 2] 58)) => (q.cell hbnv).trans e5v;have hne0:=Wd.ne (wr.alloc (.cells #[.string p.n,.int .i64 p.c,.string p.z,.slice va vl vc,.string p.d,.int .i64 2] 58));have HC0:=hidK (fun q : Wd (wr.alloc (.cells #[.string p.n,.int .i64 p.c,.string p.z,.slice va vl vc,.string p.d,.int .i64 2] 58)) => sxnd_hit ⟨(some ⟨b1,o1,none⟩),l1,y1,a2,l2,y2,a3,l3,y3,a4,l4,y4,(some ⟨b,o,none⟩),l5,y5⟩ c.now c.ns p.d q.w (HR.out.n.below (HW.out.trans (q.b.mono HW.out.size))) HNR.out HJn.out HNn.out);have HC1:=hidK (fun q : Wd (wr.alloc (.cells #[.string p.n,.int .i64 p.c,.string p.z,.slice va vl vc,.string p.d,.int .i64 2] 58)) => HCA.out q);go_wp2_with fail;refine wp_region_wide (by kernel_rfl) (by kernel_rfl) ?_
       repeat (go_big_quiet_step (first | (go_at_call 126;exact Calls.wide (HC0.out _)) | (go_at_call 130;exact Calls.wide (HC1.out _)) | fail))
       refine wpQuiet_nil ?_;rintro _ ⟨q1,rfl⟩;have HB1:=upB HW q1.b;have Ck:=upK Gk q1.b;have Cr:=upK Gr q1.b;clear hne0 HW HB HC0 HC1 k0 k1 k2 k3 k4 k5 r0 r1 r2 r3 r4 r5 nw Gk Gr Bk hszv1 pk pkl hb hbn e5 hbnv e5v c0 c1 c2 c3 c4 c5;have HB:=HB1;clear HB1;have Bk:=Ck;clear Ck;have Br:=Cr;clear Cr
       go_wp2
       go_ret;refine BoolB.f (fun h => ?_) HB.out;obtain ⟨i,m,e1,e2,e3,e4⟩:=(h.2 k p HXp.out) HP2.out;obtain ⟨_,rfl⟩:=HNR.out.inj e1 HJn.out (e2.trans HNn.out.symm);exact HAl.out e4
    ·obtain rfl : l5 = k:=by omega
     go_wp2
     go_ret;exact BoolB.t ⟨HQ1.out,fun j z hz => HQ.out j z (by have:=(List.getElem?_eq_some_iff.1 hz).1;omega) hz⟩ HB.out

theorem hit_iff {α : Type} {nm : α → ByteArray} {xs : List α} {t : ByteArray} (h : RisBy nm xs) : hit nm xs t = true ↔ ∃ (i : Nat) (x : α),xs[i]? = some x ∧ nm x = t:=by
 constructor
 ·intro e;obtain ⟨x,h1,h2⟩:=hit_yes e;exact ⟨_,x,h1,h2⟩
 ·rintro ⟨i,x,h1,h2⟩;exact (hit_at h h1 h2).2
theorem bound_iff {c : Cl} (h : RowsOk c) : BoundI c ↔ BoundS c:=by
 have hk:=h.2.1.2.2;have hv:=h.2.2.1.2.2;have hx:=h.2.2.2.1.2.2
 constructor
 ·rintro ⟨h1,h2⟩;refine ⟨fun j v e => ?_,fun j x e => ?_⟩
  ·obtain ⟨a,b⟩:=h1 j v e;refine ⟨(hit_iff hk).1 a,b.imp id ?_⟩;rintro ⟨i,j',x,v',e1,e2,e3,e4,e5,e6,_⟩;exact ⟨i,x,e1,e2,e5⟩
  ·obtain ⟨a,b⟩:=h2 j x e;refine ⟨(hit_iff hk).1 a,b.imp id ?_⟩;rintro ⟨i,j',x',v',e1,e2,e3,e4,e5,e6,e7,e8,e9⟩;obtain ⟨_,rfl⟩:=hx.inj e1 e e2;exact ⟨j',v',e3,e4,e6,e7,e8,e9⟩
 ·rintro ⟨h1,h2⟩;refine ⟨fun j v e => ?_,fun j x e => ?_⟩
  ·obtain ⟨a,b⟩:=h1 j v e;refine ⟨(hit_iff hk).2 a,b.imp id ?_⟩;rintro ⟨i,x,e1,e2,e3⟩;have hne : ¬ x.v = ⟨#[]⟩:=fun q => h.ne j v e (e3.symm.trans q);obtain ⟨_,b2⟩:=h2 i x e1
   rcases b2 with b2 | ⟨j',v',f1,f2,f3,f4,f5,f6⟩
   ·exact absurd b2 hne
   obtain ⟨_,rfl⟩:=hv.inj f1 e (f2.trans e3);exact ⟨i,j,x,v',e1,e2,e,rfl,e3,rfl,f4,f5,f6⟩
  ·obtain ⟨a,b⟩:=h2 j x e;refine ⟨(hit_iff hk).2 a,b.imp id ?_⟩;rintro ⟨j',v,e1,e2,e3,e4,e5,e6⟩;exact ⟨j,j',x,v,e,rfl,e1,e2,rfl,e3,e4,e5,e6⟩
theorem placed_iff {c : Cl} (h : RowsOk c) (hb : BoundS c) : PlacedI c ↔ PlacedS c:=by
 have hn:=h.1.2.2;have hv:=h.2.2.1.2.2;have hx:=h.2.2.2.1.2.2
 have one : (∀ (j : Nat) z,c.vs[j]? = some z → PQ3 c z) ↔ ∀ (k : Nat) p,c.ps[k]? = some p → PSc c k p:=by
  constructor
  ·intro h3 k p hp j q hj hq
   by_cases e1 : q.d = ⟨#[]⟩
   ·exact .inl e1
   by_cases e2 : p.d = ⟨#[]⟩
   ·exact .inr (.inl e2)
   by_cases e3 : q.d = p.d
   ·exact .inr (.inr (.inl e3))
   refine .inr (.inr (.inr fun i t ht v hbd hs hin => e3 ?_));obtain ⟨i1,j1,x,f1,f2,f3,f4⟩:=hbd;have hxv : ¬ x.v = ⟨#[]⟩:=fun z => h.ne j1 v f3 (f4.trans z)
   have hvm : v.m = t:=by
    rcases (hb.2 i1 x f1).2 with z | ⟨j2,v2,g1,g2,g3,_⟩
    ·exact absurd z hxv
    ·obtain ⟨_,rfl⟩:=hv.inj g1 f3 (g2.trans f4.symm);rw [g3,f2]
   have ht0 : ¬ v.m = ⟨#[]⟩:=fun z => by
    have h1:=(h.2.2.2.1.2.1 i1 x f1).1.1;rw [f2,← hvm,z] at h1;exact absurd h1 (by decide)
   have:=h3 j1 v f3 hs ht0;rw [hvm] at this;exact this j k q p hq hp e1 e2 ⟨i,ht⟩ hin
  ·intro h3 j v hj hs hm i1 i2 p q hp hq d1 d2 in1 in2;obtain ⟨i4,x,f1,f2,f3⟩:=(hb.1 j v hj).2.resolve_left hm;have hbd : IsBd c v.m v:=⟨i4,j,x,f1,f2,hj,f3.symm⟩
   rcases Nat.lt_trichotomy i1 i2 with k | k | k
   ·obtain ⟨r,hr⟩:=in1
    rcases h3 i2 q hq i1 p k hp with z | z | z | z
    ·exact absurd z d1
    ·exact absurd z d2
    ·exact z
    ·exact absurd in2 (z r v.m hr v hbd hs)
   ·subst k;rw [hp] at hq;rw [Option.some.inj hq]
   ·obtain ⟨r,hr⟩:=in2
    rcases h3 i1 p hp i2 q k hq with z | z | z | z
    ·exact absurd z d2
    ·exact absurd z d1
    ·exact z.symm
    ·exact absurd in1 (z r v.m hr v hbd hs)
 constructor
 ·rintro ⟨h1,h2,h3⟩;refine ⟨fun k p hp => ⟨?_,?_,one.1 h3 k p hp⟩,h2⟩
  ·rcases (h1 k p hp).2 with z | ⟨i,n,e1,e2,e3,e4⟩
   ·exact .inl z
   ·exact .inr ⟨i,n,e1,e2,e3.imp id Eq.symm⟩
  ·intro j t ht;refine ⟨(hit_iff hx).1 ((h1 k p hp).1 j t ht),?_⟩
   rcases (h1 k p hp).2 with z | ⟨i,n,e1,e2,e3,e4⟩
   ·exact .inl z
   ·obtain ⟨v,f1,f2⟩:=e4 j t ht;exact .inr ⟨v,i,n,f1,e1,e2,f2⟩
 ·rintro ⟨h1,h2⟩;refine ⟨fun k p hp => ⟨fun j t ht => (hit_iff hx).2 ((h1 k p hp).2.1 j t ht).1,?_⟩,h2,one.2 (fun k p hp => (h1 k p hp).2.2)⟩
  rcases (h1 k p hp).1 with z | ⟨i,n,e1,e2,e3⟩
  ·exact .inl z
  by_cases z : p.d = ⟨#[]⟩
  ·exact .inl z
  refine .inr ⟨i,n,e1,e2,e3.imp id Eq.symm,fun j t ht => ?_⟩;obtain ⟨v,i',n',f1,f2,f3,f4⟩:=((h1 k p hp).2.1 j t ht).2.resolve_left z;obtain ⟨_,rfl⟩:=hn.inj f2 e1 (f3.trans e2.symm);exact ⟨v,f1,f4⟩
theorem running {c : Cl} (h : RowsOk c) (hp : PlacedS c) (j : Nat) (p : Pd) (hj : c.ps[j]? = some p) (h2 : p.p = 2) : (∃ (i : Nat) (n : Nd),c.ns[i]? = some n ∧ n.n = p.d) ∧ ∀ (j : Nat) t,p.zs[j]? = some t → ∃ v,IsBd c t v:=by
 have hd : ¬ p.d = ⟨#[]⟩:=fun e => by
  have h1:=(h.2.2.2.2.2.1 j p hj).2.2.2.2
  rcases h1 with ⟨h3,_⟩ | ⟨_,h3⟩
  ·rw [h2] at h3;cases h3
  ·have h4:=h3.1;rw [e] at h4;exact absurd h4 (by decide)
 obtain ⟨a,b,_⟩:=hp.1 j p hj;obtain ⟨i,n,e1,e2,_⟩:=a.resolve_left hd;refine ⟨⟨i,n,e1,e2⟩,fun k t ht => ?_⟩;obtain ⟨v,_,_,e3,_⟩:=(b k t ht).2.resolve_left hd;exact ⟨v,e3⟩

theorem sright_any (d : Ad) (c : Cl) (w : World) (hr : ClRow w d c.raw) :
  Calls Tryz.prog 61 #[.agg #[.slice d.a1 d.l1 d.c1,.slice d.a2 d.l2 d.c2,.slice d.a3 d.l3 d.c3,.slice d.a4 d.l4 d.c4,.slice d.a5 d.l5 d.c5,.int .i64 c.now]] w (BoolB (RightI c) w):=by
 have HR:=hidK hr;have HB:=hidK (Below.refl w.heap.size w);clear hr
 go_enter Tryz.func61,Tryz.ntmps61
 go_wp2_with fail;refine (ktime_any c.now _).mono ?_;rintro e w1 ⟨r,rfl,hi,hw⟩
 have hb : Below (w.alloc (.cells #[.slice d.a1 d.l1 d.c1,.slice d.a2 d.l2 d.c2,.slice d.a3 d.l3 d.c3,.slice d.a4 d.l4 d.c4,.slice d.a5 d.l5 d.c5,.int .i64 c.now] 36)).heap.size (w.alloc (.cells #[.slice d.a1 d.l1 d.c1,.slice d.a2 d.l2 d.c2,.slice d.a3 d.l3 d.c3,.slice d.a4 d.l4 d.c4,.slice d.a5 d.l5 d.c5,.int .i64 c.now] 36)) w1:=by first | (rw [hw];exact Below.refl _ _) | (rw [← hw];exact Below.refl _ _)
 clear hw;obtain ⟨HA0,hbx⟩:=slots1 hb;have Bk:=hidK HA0;replace HB:=upB HB hbx;clear hb hbx HA0;have HI1:=hidK hi;clear hi
 cases r
 ·obtain ⟨k0,k1,k2,k3,k4,k5⟩:=cs6 Bk.out;have ltk_1:=lt_of_some Bk.out
  go_wp2
  go_ret;exact BoolB.f (fun h => by have:=HI1.out.2 h.1;cases this) HB.out
 obtain ⟨k0,k1,k2,k3,k4,k5⟩:=cs6 Bk.out;have ltk_1:=lt_of_some Bk.out;go_wp2_with fail;refine (seach_any d c _ (HR.out.below HB.out)).mono ?_;rintro e w2 ⟨r,rfl,hi,hb⟩;clear k0 k1 k2 k3 k4 k5 ltk_1;replace Bk:=upK Bk hb;replace HB:=upB HB hb;clear hb;have HI2:=hidK hi;clear hi
 cases r
 ·obtain ⟨k0,k1,k2,k3,k4,k5⟩:=cs6 Bk.out;have ltk_2:=lt_of_some Bk.out
  go_wp2
  go_ret;exact BoolB.f (fun h => by have:=HI2.out.2 h.2.1;cases this) HB.out
 have HOK:=hidK (HI2.out.1 (by first | trivial | rfl));obtain ⟨k0,k1,k2,k3,k4,k5⟩:=cs6 Bk.out;have ltk_2:=lt_of_some Bk.out;go_wp2_with fail;refine (sbound_any d c _ (HR.out.below HB.out) HOK.out.2.1.2.2 HOK.out.2.2.2.1.2.2 HOK.out.2.2.1.2.2).mono ?_;rintro e w3 ⟨r,rfl,hi,hb⟩;clear k0 k1 k2 k3 k4 k5 ltk_2;replace Bk:=upK Bk hb;replace HB:=upB HB hb;clear hb;have HI3:=hidK hi;clear hi
 cases r
 ·obtain ⟨k0,k1,k2,k3,k4,k5⟩:=cs6 Bk.out;have ltk_3:=lt_of_some Bk.out
  go_wp2
  go_ret;exact BoolB.f (fun h => by have:=HI3.out.2 ((bound_iff HOK.out).1 h.2.2.1);cases this) HB.out
 have HBd:=hidK (HI3.out.1 (by first | trivial | rfl));obtain ⟨k0,k1,k2,k3,k4,k5⟩:=cs6 Bk.out;have ltk_3:=lt_of_some Bk.out;go_wp2_with fail;refine (splaced_any d c _ (HR.out.below HB.out) HOK.out.1.2.2 HOK.out.2.2.2.1.2.2 HOK.out.2.2.1.2.2 HOK.out.ne (by have:=HOK.out.2.2.2.2.1;omega) HOK.out.cpu).mono ?_;rintro e w4 ⟨r,rfl,hi,hb⟩;clear k0 k1 k2 k3 k4 k5 ltk_3;replace Bk:=upK Bk hb;replace HB:=upB HB hb;clear hb;have HI4:=hidK hi;clear hi
 cases r
 ·obtain ⟨k0,k1,k2,k3,k4,k5⟩:=cs6 Bk.out;have ltk_4:=lt_of_some Bk.out
  go_wp2
  go_ret;exact BoolB.f (fun h => by have:=HI4.out.2 ((placed_iff HOK.out HBd.out).1 h.2.2.2.1);cases this) HB.out
 have HPl:=hidK (HI4.out.1 (by first | trivial | rfl));obtain ⟨k0,k1,k2,k3,k4,k5⟩:=cs6 Bk.out;have ltk_4:=lt_of_some Bk.out;go_wp2_with fail;refine (sattached_any d c _ (HR.out.below HB.out) HOK.out.1.2.2 (by have:=HOK.out.2.2.1.1;omega)).mono ?_;rintro e w5 ⟨r,rfl,hi,hb⟩;clear k0 k1 k2 k3 k4 k5 ltk_4;replace Bk:=upK Bk hb;replace HB:=upB HB hb;clear hb;have HI5:=hidK hi;clear hi
 cases r
 ·obtain ⟨k0,k1,k2,k3,k4,k5⟩:=cs6 Bk.out;have ltk_5:=lt_of_some Bk.out
  go_wp2
  go_ret;exact BoolB.f (fun h => by have:=HI5.out.2 h.2.2.2.2.1;cases this) HB.out
 obtain ⟨k0,k1,k2,k3,k4,k5⟩:=cs6 Bk.out;have ltk_5:=lt_of_some Bk.out;go_wp2_with fail;refine (smounted_any d c _ (HR.out.below HB.out) HOK.out.1.2.2 HOK.out.2.2.2.1.2.2 HOK.out.2.2.1.2.2 HOK.out.ne (running HOK.out HPl.out)).mono ?_;rintro e w6 ⟨r,rfl,hi,hb⟩;clear k0 k1 k2 k3 k4 k5 ltk_5;replace Bk:=upK Bk hb;replace HB:=upB HB hb;clear hb;have HI6:=hidK hi;clear hi
 cases r
 ·obtain ⟨k0,k1,k2,k3,k4,k5⟩:=cs6 Bk.out;have ltk_6:=lt_of_some Bk.out
  go_wp2
  go_ret;exact BoolB.f (fun h => by have:=HI6.out.2 h.2.2.2.2.2;cases this) HB.out
 go_wp2
 go_ret;exact BoolB.t ⟨HI1.out.1 (by first | trivial | rfl),HOK.out,(bound_iff HOK.out).2 HBd.out,(placed_iff HOK.out HBd.out).2 HPl.out,HI5.out.1 (by first | trivial | rfl),HI6.out.1 (by first | trivial | rfl)⟩ HB.out

end Rc
end Go.Proofs.YtkecljccapjkpaaGreatDoor

namespace Go.Proofs.YtkecljccapjkpaaGreatDoor
open Go.RowKit Go.Extern.Stop Go.Stop Go.Extern
namespace Rc

structure Ers (w : World) (E : Nat → Addr) : Prop where
 v0 : w.cell? ⟨0,0,none⟩ = some (.iface 190 (.pointer (some (E 0))))
 v1 : w.cell? ⟨1,0,none⟩ = some (.iface 190 (.pointer (some (E 1))))
 v2 : w.cell? ⟨2,0,none⟩ = some (.iface 190 (.pointer (some (E 2))))
 v3 : w.cell? ⟨5,0,none⟩ = some (.iface 190 (.pointer (some (E 3))))
 v4 : w.cell? ⟨7,0,none⟩ = some (.iface 190 (.pointer (some (E 4))))
 v5 : w.cell? ⟨3,0,none⟩ = some (.iface 190 (.pointer (some (E 5))))
 v6 : w.cell? ⟨6,0,none⟩ = some (.iface 190 (.pointer (some (E 6))))
 v7 : w.cell? ⟨8,0,none⟩ = some (.iface 190 (.pointer (some (E 7))))
 v8 : w.cell? ⟨9,0,none⟩ = some (.iface 190 (.pointer (some (E 8))))
 v9 : w.cell? ⟨4,0,none⟩ = some (.iface 190 (.pointer (some (E 9))))
 blk : ∀ i,i < 10 → ∃ cs T,w.heap[(E i).block]? = some (.cells cs T (0,0))
 inj : ∀ i j,i < 10 → j < 10 → E i = E j → i = j
theorem cell_lt {w : World} {b o : Nat} {v : Value} (h : w.cell? ⟨b,o,none⟩ = some v) : b < w.heap.size:=World.block_lt_of_cell? w _ h
theorem Ers.below {w w' : World} {E : Nat → Addr} (h : Ers w E) (hb : Below w.heap.size w w') : Ers w' E :=
 ⟨(cell_below hb (cell_lt h.v0)).trans h.v0,(cell_below hb (cell_lt h.v1)).trans h.v1,(cell_below hb (cell_lt h.v2)).trans h.v2,(cell_below hb (cell_lt h.v3)).trans h.v3,(cell_below hb (cell_lt h.v4)).trans h.v4,(cell_below hb (cell_lt h.v5)).trans h.v5,(cell_below hb (cell_lt h.v6)).trans h.v6,(cell_below hb (cell_lt h.v7)).trans h.v7,(cell_below hb (cell_lt h.v8)).trans h.v8,(cell_below hb (cell_lt h.v9)).trans h.v9,fun i hi => by
  obtain ⟨cs,T,h1⟩:=h.blk i hi
  exact ⟨cs,T,(hb.block _ (lt_of_some h1)).trans h1⟩,h.inj⟩
theorem Ers.ens {w : World} {E : Nat → Addr} (h : Ers w E) : ens w:=⟨_,_,h.v2⟩

theorem isTypeOf (v : Value) (w : World) : (Extern.ReflectliteType.typeOf #[.iface 190 v]).run Tryz.prog w = .ok (.iface 179 (.agg #[.pointer (some ⟨10,190,none⟩)])) w:=by kernel_rfl
def cmpF : Array Value → Sem Value:=Extern.ReflectliteType.method fun t => do Rtype.noPackHeld "Comparable" t;pure (.bool (← typeInfo t).comparable)
theorem isComparable (w : World) : (cmpF #[.agg #[.pointer (some ⟨10,190,none⟩)]]).run Tryz.prog w = .ok (.bool true) w:=by kernel_rfl
theorem isMethodComparable (v : Value) (w : World) : (Go.method 337 179 v "Comparable").run Tryz.prog w = .ok (211,v) w:=by kernel_rfl
theorem isComp : (Tryz.prog.info? 190).map (·.comparable) = some true:=by kernel_rfl
theorem isSize : (Tryz.prog.info? 225).map (·.size) = some 1:=by kernel_rfl
theorem noIsE (v : Value) (xT : TypeId) (w : World) : (Instr.typeAssert (.iface 190 v) xT 181 true).run Tryz.prog w = .ok (.tuple #[.nilIface,.bool false]) w:=run_typeAssert_lacksB Tryz.underlying181 (by kernel_rfl) (by kernel_rfl) v xT w
theorem noUnwrapE (v : Value) (xT : TypeId) (w : World) : (Instr.typeAssert (.iface 190 v) xT 184 true).run Tryz.prog w = .ok (.tuple #[.nilIface,.bool false]) w:=run_typeAssert_lacksB Tryz.underlying184 (by kernel_rfl) (by kernel_rfl) v xT w
theorem noUnwrapsE (v : Value) (xT : TypeId) (w : World) : (Instr.typeAssert (.iface 190 v) xT 186 true).run Tryz.prog w = .ok (.tuple #[.nilIface,.bool false]) w:=run_typeAssert_lacksB Tryz.underlying186 (by kernel_rfl) (by kernel_rfl) v xT w

theorem is_same (a : Addr) (w : World)  :
  Calls Tryz.prog 111 #[.iface 190 (.pointer (some (a))),.iface 190 (.pointer (some (a)))] w fun e w' => e = .returned (.bool true) ∧ w' = w:=by
 obtain ⟨i,hi,hcmp⟩:=Option.map_eq_some_iff.1 isComp;obtain ⟨j,hj,hjs⟩:=Option.map_eq_some_iff.1 isSize;have h8:=@run_callFunc_extern Tryz.prog 148 _ Extern.ReflectliteType.typeOf Tryz.func148 (by kernel_rfl) (by kernel_rfl) (by kernel_rfl) (by kernel_rfl);have h32:=@run_callFunc_extern Tryz.prog 211 _ cmpF Tryz.func211 (by kernel_rfl) (by kernel_rfl) (by kernel_rfl) (by kernel_rfl);have tT:=isTypeOf;have cT:=isComparable;have mR:=isMethodComparable;have heq:=run_eql_iface_ptr_same (P:=Tryz.prog) w a Tryz.underlying71 Tryz.underlying190 hi hcmp hj
 go_enter Tryz.func111,Tryz.ntmps111
 go_wp2
 refine wp_loop_rounds 1 ?_;rw [rounds_succ]
 go_wp2
 go_ret;exact ⟨rfl,rfl⟩

theorem is_other (a b : Addr) (ca cb : Array Value) (ta tb : TypeId) (w : World) (hne : a ≠ b) (ha : w.heap[a.block]? = some (.cells ca ta (0,0))) (hb : w.heap[b.block]? = some (.cells cb tb (0,0))) :
  Calls Tryz.prog 111 #[.iface 190 (.pointer (some (a))),.iface 190 (.pointer (some (b)))] w fun e w' => e = .returned (.bool false) ∧ w' = w:=by
 obtain ⟨i,hi,hcmp⟩:=Option.map_eq_some_iff.1 isComp;obtain ⟨j,hj,hjs⟩:=Option.map_eq_some_iff.1 isSize;have h8:=@run_callFunc_extern Tryz.prog 148 _ Extern.ReflectliteType.typeOf Tryz.func148 (by kernel_rfl) (by kernel_rfl) (by kernel_rfl) (by kernel_rfl);have h32:=@run_callFunc_extern Tryz.prog 211 _ cmpF Tryz.func211 (by kernel_rfl) (by kernel_rfl) (by kernel_rfl) (by kernel_rfl);have tT:=isTypeOf;have cT:=isComparable;have mR:=isMethodComparable;have nE:=noIsE;have uE:=noUnwrapE;have vE:=noUnwrapsE;have heq:=run_eql_iface_ptr_other (P:=Tryz.prog) w Tryz.underlying71 Tryz.underlying190 hi hcmp hj (by rw [hjs];decide) hne ha hb
 go_enter Tryz.func111,Tryz.ntmps111
 go_wp2
 refine wp_loop_rounds 1 ?_;rw [rounds_succ]
 go_wp2
 go_ret;exact ⟨rfl,rfl⟩

theorem is_words {w : World} {E : Nat → Addr} (h : Ers w E) (i j : Nat) (hi : i < 10) (hj : j < 10) (hne : ¬ i = j) :
  Calls Tryz.prog 111 #[.iface 190 (.pointer (some (E i))),.iface 190 (.pointer (some (E j)))] w fun e w' => e = .returned (.bool false) ∧ w' = w:=by
 obtain ⟨ca,ta,h1⟩:=h.blk i hi;obtain ⟨cb,tb,h2⟩:=h.blk j hj;exact is_other (E i) (E j) ca cb ta tb w (fun e => hne (h.inj i j hi hj e)) h1 h2

def codeOf : Nat → Int
 | 0 => 2
 | 1 => 1
 | 2 => 6
 | 3 => 7
 | 4 => 9
 | 5 => 11
 | 6 => 7
 | 7 => 11
 | 8 => 10
 | 9 => 3
 | _ => 0

theorem why0 (E : Nat → Addr) (w : World) (h : Ers w E) : Calls Tryz.prog 72 #[.iface 190 (.pointer (some (E 0)))] w fun e w' => e = .returned (.int .i64 2) ∧ w' = w:=by
 have HE:=hidK h;have v0:=h.v0;have v1:=h.v1;have v2:=h.v2;have v3:=h.v3;have v4:=h.v4;have v5:=h.v5;have v6:=h.v6;have v7:=h.v7;have v8:=h.v8;have v9:=h.v9;clear h
 go_enter Tryz.func72,Tryz.ntmps72
 go_wp2_with fail;refine (is_same (E 0) _).mono ?_;rintro e w' ⟨rfl,rfl⟩
 go_wp2
 go_ret;exact ⟨rfl,rfl⟩

theorem why1 (E : Nat → Addr) (w : World) (h : Ers w E) : Calls Tryz.prog 72 #[.iface 190 (.pointer (some (E 1)))] w fun e w' => e = .returned (.int .i64 1) ∧ w' = w:=by
 have HE:=hidK h;have v0:=h.v0;have v1:=h.v1;have v2:=h.v2;have v3:=h.v3;have v4:=h.v4;have v5:=h.v5;have v6:=h.v6;have v7:=h.v7;have v8:=h.v8;have v9:=h.v9;clear h
 go_enter Tryz.func72,Tryz.ntmps72
 go_wp2_with fail;refine (is_words HE.out 1 0 (by decide) (by decide) (by decide)).mono ?_;rintro e w' ⟨rfl,rfl⟩;go_wp2_with fail;refine (is_words HE.out 1 9 (by decide) (by decide) (by decide)).mono ?_;rintro e w' ⟨rfl,rfl⟩;go_wp2_with fail;refine (is_words HE.out 1 2 (by decide) (by decide) (by decide)).mono ?_;rintro e w' ⟨rfl,rfl⟩;go_wp2_with fail;refine (is_words HE.out 1 3 (by decide) (by decide) (by decide)).mono ?_;rintro e w' ⟨rfl,rfl⟩;go_wp2_with fail;refine (is_words HE.out 1 6 (by decide) (by decide) (by decide)).mono ?_;rintro e w' ⟨rfl,rfl⟩;go_wp2_with fail;refine (is_words HE.out 1 4 (by decide) (by decide) (by decide)).mono ?_;rintro e w' ⟨rfl,rfl⟩;go_wp2_with fail;refine (is_words HE.out 1 5 (by decide) (by decide) (by decide)).mono ?_;rintro e w' ⟨rfl,rfl⟩;go_wp2_with fail;refine (is_words HE.out 1 7 (by decide) (by decide) (by decide)).mono ?_;rintro e w' ⟨rfl,rfl⟩;go_wp2_with fail;refine (is_words HE.out 1 8 (by decide) (by decide) (by decide)).mono ?_;rintro e w' ⟨rfl,rfl⟩
 go_wp2
 go_ret;exact ⟨rfl,rfl⟩

theorem why2 (E : Nat → Addr) (w : World) (h : Ers w E) : Calls Tryz.prog 72 #[.iface 190 (.pointer (some (E 2)))] w fun e w' => e = .returned (.int .i64 6) ∧ w' = w:=by
 have HE:=hidK h;have v0:=h.v0;have v1:=h.v1;have v2:=h.v2;have v3:=h.v3;have v4:=h.v4;have v5:=h.v5;have v6:=h.v6;have v7:=h.v7;have v8:=h.v8;have v9:=h.v9;clear h
 go_enter Tryz.func72,Tryz.ntmps72
 go_wp2_with fail;refine (is_words HE.out 2 0 (by decide) (by decide) (by decide)).mono ?_;rintro e w' ⟨rfl,rfl⟩;go_wp2_with fail;refine (is_words HE.out 2 9 (by decide) (by decide) (by decide)).mono ?_;rintro e w' ⟨rfl,rfl⟩;go_wp2_with fail;refine (is_same (E 2) _).mono ?_;rintro e w' ⟨rfl,rfl⟩
 go_wp2
 go_ret;exact ⟨rfl,rfl⟩

theorem why3 (E : Nat → Addr) (w : World) (h : Ers w E) : Calls Tryz.prog 72 #[.iface 190 (.pointer (some (E 3)))] w fun e w' => e = .returned (.int .i64 7) ∧ w' = w:=by
 have HE:=hidK h;have v0:=h.v0;have v1:=h.v1;have v2:=h.v2;have v3:=h.v3;have v4:=h.v4;have v5:=h.v5;have v6:=h.v6;have v7:=h.v7;have v8:=h.v8;have v9:=h.v9;clear h
 go_enter Tryz.func72,Tryz.ntmps72
 go_wp2_with fail;refine (is_words HE.out 3 0 (by decide) (by decide) (by decide)).mono ?_;rintro e w' ⟨rfl,rfl⟩;go_wp2_with fail;refine (is_words HE.out 3 9 (by decide) (by decide) (by decide)).mono ?_;rintro e w' ⟨rfl,rfl⟩;go_wp2_with fail;refine (is_words HE.out 3 2 (by decide) (by decide) (by decide)).mono ?_;rintro e w' ⟨rfl,rfl⟩;go_wp2_with fail;refine (is_same (E 3) _).mono ?_;rintro e w' ⟨rfl,rfl⟩
 go_wp2
 go_ret;exact ⟨rfl,rfl⟩

theorem why4 (E : Nat → Addr) (w : World) (h : Ers w E) : Calls Tryz.prog 72 #[.iface 190 (.pointer (some (E 4)))] w fun e w' => e = .returned (.int .i64 9) ∧ w' = w:=by
 have HE:=hidK h;have v0:=h.v0;have v1:=h.v1;have v2:=h.v2;have v3:=h.v3;have v4:=h.v4;have v5:=h.v5;have v6:=h.v6;have v7:=h.v7;have v8:=h.v8;have v9:=h.v9;clear h
 go_enter Tryz.func72,Tryz.ntmps72
 go_wp2_with fail;refine (is_words HE.out 4 0 (by decide) (by decide) (by decide)).mono ?_;rintro e w' ⟨rfl,rfl⟩;go_wp2_with fail;refine (is_words HE.out 4 9 (by decide) (by decide) (by decide)).mono ?_;rintro e w' ⟨rfl,rfl⟩;go_wp2_with fail;refine (is_words HE.out 4 2 (by decide) (by decide) (by decide)).mono ?_;rintro e w' ⟨rfl,rfl⟩;go_wp2_with fail;refine (is_words HE.out 4 3 (by decide) (by decide) (by decide)).mono ?_;rintro e w' ⟨rfl,rfl⟩;go_wp2_with fail;refine (is_words HE.out 4 6 (by decide) (by decide) (by decide)).mono ?_;rintro e w' ⟨rfl,rfl⟩;go_wp2_with fail;refine (is_same (E 4) _).mono ?_;rintro e w' ⟨rfl,rfl⟩
 go_wp2
 go_ret;exact ⟨rfl,rfl⟩

theorem why5 (E : Nat → Addr) (w : World) (h : Ers w E) : Calls Tryz.prog 72 #[.iface 190 (.pointer (some (E 5)))] w fun e w' => e = .returned (.int .i64 11) ∧ w' = w:=by
 have HE:=hidK h;have v0:=h.v0;have v1:=h.v1;have v2:=h.v2;have v3:=h.v3;have v4:=h.v4;have v5:=h.v5;have v6:=h.v6;have v7:=h.v7;have v8:=h.v8;have v9:=h.v9;clear h
 go_enter Tryz.func72,Tryz.ntmps72
 go_wp2_with fail;refine (is_words HE.out 5 0 (by decide) (by decide) (by decide)).mono ?_;rintro e w' ⟨rfl,rfl⟩;go_wp2_with fail;refine (is_words HE.out 5 9 (by decide) (by decide) (by decide)).mono ?_;rintro e w' ⟨rfl,rfl⟩;go_wp2_with fail;refine (is_words HE.out 5 2 (by decide) (by decide) (by decide)).mono ?_;rintro e w' ⟨rfl,rfl⟩;go_wp2_with fail;refine (is_words HE.out 5 3 (by decide) (by decide) (by decide)).mono ?_;rintro e w' ⟨rfl,rfl⟩;go_wp2_with fail;refine (is_words HE.out 5 6 (by decide) (by decide) (by decide)).mono ?_;rintro e w' ⟨rfl,rfl⟩;go_wp2_with fail;refine (is_words HE.out 5 4 (by decide) (by decide) (by decide)).mono ?_;rintro e w' ⟨rfl,rfl⟩;go_wp2_with fail;refine (is_same (E 5) _).mono ?_;rintro e w' ⟨rfl,rfl⟩
 go_wp2
 go_ret;exact ⟨rfl,rfl⟩

theorem why6 (E : Nat → Addr) (w : World) (h : Ers w E) : Calls Tryz.prog 72 #[.iface 190 (.pointer (some (E 6)))] w fun e w' => e = .returned (.int .i64 7) ∧ w' = w:=by
 have HE:=hidK h;have v0:=h.v0;have v1:=h.v1;have v2:=h.v2;have v3:=h.v3;have v4:=h.v4;have v5:=h.v5;have v6:=h.v6;have v7:=h.v7;have v8:=h.v8;have v9:=h.v9;clear h
 go_enter Tryz.func72,Tryz.ntmps72
 go_wp2_with fail;refine (is_words HE.out 6 0 (by decide) (by decide) (by decide)).mono ?_;rintro e w' ⟨rfl,rfl⟩;go_wp2_with fail;refine (is_words HE.out 6 9 (by decide) (by decide) (by decide)).mono ?_;rintro e w' ⟨rfl,rfl⟩;go_wp2_with fail;refine (is_words HE.out 6 2 (by decide) (by decide) (by decide)).mono ?_;rintro e w' ⟨rfl,rfl⟩;go_wp2_with fail;refine (is_words HE.out 6 3 (by decide) (by decide) (by decide)).mono ?_;rintro e w' ⟨rfl,rfl⟩;go_wp2_with fail;refine (is_same (E 6) _).mono ?_;rintro e w' ⟨rfl,rfl⟩
 go_wp2
 go_ret;exact ⟨rfl,rfl⟩

theorem why7 (E : Nat → Addr) (w : World) (h : Ers w E) : Calls Tryz.prog 72 #[.iface 190 (.pointer (some (E 7)))] w fun e w' => e = .returned (.int .i64 11) ∧ w' = w:=by
 have HE:=hidK h;have v0:=h.v0;have v1:=h.v1;have v2:=h.v2;have v3:=h.v3;have v4:=h.v4;have v5:=h.v5;have v6:=h.v6;have v7:=h.v7;have v8:=h.v8;have v9:=h.v9;clear h
 go_enter Tryz.func72,Tryz.ntmps72
 go_wp2_with fail;refine (is_words HE.out 7 0 (by decide) (by decide) (by decide)).mono ?_;rintro e w' ⟨rfl,rfl⟩;go_wp2_with fail;refine (is_words HE.out 7 9 (by decide) (by decide) (by decide)).mono ?_;rintro e w' ⟨rfl,rfl⟩;go_wp2_with fail;refine (is_words HE.out 7 2 (by decide) (by decide) (by decide)).mono ?_;rintro e w' ⟨rfl,rfl⟩;go_wp2_with fail;refine (is_words HE.out 7 3 (by decide) (by decide) (by decide)).mono ?_;rintro e w' ⟨rfl,rfl⟩;go_wp2_with fail;refine (is_words HE.out 7 6 (by decide) (by decide) (by decide)).mono ?_;rintro e w' ⟨rfl,rfl⟩;go_wp2_with fail;refine (is_words HE.out 7 4 (by decide) (by decide) (by decide)).mono ?_;rintro e w' ⟨rfl,rfl⟩;go_wp2_with fail;refine (is_words HE.out 7 5 (by decide) (by decide) (by decide)).mono ?_;rintro e w' ⟨rfl,rfl⟩;go_wp2_with fail;refine (is_same (E 7) _).mono ?_;rintro e w' ⟨rfl,rfl⟩
 go_wp2
 go_ret;exact ⟨rfl,rfl⟩

theorem why8 (E : Nat → Addr) (w : World) (h : Ers w E) : Calls Tryz.prog 72 #[.iface 190 (.pointer (some (E 8)))] w fun e w' => e = .returned (.int .i64 10) ∧ w' = w:=by
 have HE:=hidK h;have v0:=h.v0;have v1:=h.v1;have v2:=h.v2;have v3:=h.v3;have v4:=h.v4;have v5:=h.v5;have v6:=h.v6;have v7:=h.v7;have v8:=h.v8;have v9:=h.v9;clear h
 go_enter Tryz.func72,Tryz.ntmps72
 go_wp2_with fail;refine (is_words HE.out 8 0 (by decide) (by decide) (by decide)).mono ?_;rintro e w' ⟨rfl,rfl⟩;go_wp2_with fail;refine (is_words HE.out 8 9 (by decide) (by decide) (by decide)).mono ?_;rintro e w' ⟨rfl,rfl⟩;go_wp2_with fail;refine (is_words HE.out 8 2 (by decide) (by decide) (by decide)).mono ?_;rintro e w' ⟨rfl,rfl⟩;go_wp2_with fail;refine (is_words HE.out 8 3 (by decide) (by decide) (by decide)).mono ?_;rintro e w' ⟨rfl,rfl⟩;go_wp2_with fail;refine (is_words HE.out 8 6 (by decide) (by decide) (by decide)).mono ?_;rintro e w' ⟨rfl,rfl⟩;go_wp2_with fail;refine (is_words HE.out 8 4 (by decide) (by decide) (by decide)).mono ?_;rintro e w' ⟨rfl,rfl⟩;go_wp2_with fail;refine (is_words HE.out 8 5 (by decide) (by decide) (by decide)).mono ?_;rintro e w' ⟨rfl,rfl⟩;go_wp2_with fail;refine (is_words HE.out 8 7 (by decide) (by decide) (by decide)).mono ?_;rintro e w' ⟨rfl,rfl⟩;go_wp2_with fail;refine (is_same (E 8) _).mono ?_;rintro e w' ⟨rfl,rfl⟩
 go_wp2
 go_ret;exact ⟨rfl,rfl⟩

theorem whyCode_any (E : Nat → Addr) (i : Nat) (w : World) (h : Ers w E) (hi : i < 9) : Calls Tryz.prog 72 #[.iface 190 (.pointer (some (E i)))] w fun e w' => e = .returned (.int .i64 (codeOf i)) ∧ w' = w:=by
 match i,hi with
 | 0,_ => exact why0 E w h
 | 1,_ => exact why1 E w h
 | 2,_ => exact why2 E w h
 | 3,_ => exact why3 E w h
 | 4,_ => exact why4 E w h
 | 5,_ => exact why5 E w h
 | 6,_ => exact why6 E w h
 | 7,_ => exact why7 E w h
 | 8,_ => exact why8 E w h

theorem refused_any (E : Nat → Addr) (i : Nat) (cc : Int) (hcc : cc = codeOf i) (w : World) (h : Ers w E) (hi : i < 9) : Calls Tryz.prog 37 #[.iface 190 (.pointer (some (E i)))] w fun e w' => e = .returned (.agg #[.slice none 0 0,.slice none 0 0,.slice none 0 0,.slice none 0 0,.slice none 0 0,.int .i64 0,.string ⟨#[]⟩,.int .i64 cc]) ∧ Below w.heap.size w w':=by
 have HE:=hidK (h.below (below1 w (.cells #[.slice none 0 0,.slice none 0 0,.slice none 0 0,.slice none 0 0,.slice none 0 0,.int .i64 0,.string ⟨#[]⟩,.int .i64 0] 38)));clear h
 go_enter Tryz.func37,Tryz.ntmps37
 go_wp2_with fail;refine (whyCode_any E i _ HE.out hi).mono ?_;rintro e w' ⟨rfl,rfl⟩;rw [← hcc];clear hcc
 go_wp2
 exact bodyPost_ret (v:=.agg #[.slice none 0 0,.slice none 0 0,.slice none 0 0,.slice none 0 0,.slice none 0 0,.int .i64 0,.string ⟨#[]⟩,.int .i64 cc]) (by simp [results,Tryz.results37,go_sem]) rfl ⟨rfl,below1 _ _⟩

end Rc
end Go.Proofs.YtkecljccapjkpaaGreatDoor

namespace Go.Proofs.YtkecljccapjkpaaGreatDoor
open Go.RowKit

theorem long_any (s : ByteArray) (w : World) :
  Calls Tryz.prog 68 #[.string s] w fun e w' => e = .returned (.bool (decide (8000 < s.size))) ∧ w = w':=by
 go_enter Tryz.func68,Tryz.ntmps68
 go_wp2
 go_ret;exact ⟨by simp;omega,rfl⟩
theorem long_yes (s : ByteArray) (w : World) (h : 8000 < s.size) :
  Calls Tryz.prog 68 #[.string s] w fun e w' => e = .returned (.bool true) ∧ w = w':=by
 have:=long_any s w;rw [decide_eq_true h] at this;exact this
theorem long_no (s : ByteArray) (w : World) (h : ¬ 8000 < s.size) :
  Calls Tryz.prog 68 #[.string s] w fun e w' => e = .returned (.bool false) ∧ w = w':=by
 have:=long_any s w;rw [decide_eq_false h] at this;exact this

end Go.Proofs.YtkecljccapjkpaaGreatDoor

namespace Go.Proofs.YtkecljccapjkpaaGreatDoor
open Go.RowKit
namespace Rc
open Mk

def HasX (c : Cl) (t : ByteArray) : Prop:=∃ (i : Nat) (x : Xd),c.xs[i]? = some x ∧ x.n = t
theorem HasX.no {c : Cl} {t : ByteArray} (hr : RightI c) (h : hit Xd.n c.xs t = false) : ¬ HasX c t:=fun ⟨i,x,h1,h2⟩ => by
 have:=(hit_at hr.2.1.2.2.2.1.2.2 h1 h2).2;rw [h] at this
 cases this
def BegIs (c : Cl) (t : ByteArray) (p : Int) : Prop:=(8000 < t.size ∧ p = 2) ∨ (¬ 8000 < t.size ∧ ¬ RightI c ∧ p = 1) ∨ (¬ 8000 < t.size ∧ RightI c ∧ p = 0)

theorem sbeg_any (d : Ad) (c : Cl) (t : ByteArray) (w : World) (hr : ClRow w d c.raw) :
  Calls Tryz.prog 21 #[.agg #[.slice d.a1 d.l1 d.c1,.slice d.a2 d.l2 d.c2,.slice d.a3 d.l3 d.c3,.slice d.a4 d.l4 d.c4,.slice d.a5 d.l5 d.c5,.int .i64 c.now],.string t] w fun e w' => ∃ p : Int,e = .returned (.int .i64 p) ∧ BegIs c t p ∧ Below w.heap.size w w':=by
 have HR:=hidK hr;have HB:=hidK (Below.refl w.heap.size w);clear hr
 by_cases hl : 8000 < t.size
 ·go_enter Tryz.func21,Tryz.ntmps21
  go_wp2
  go_ret;exact ⟨2,rfl,.inl ⟨hl,rfl⟩,below1 _ _⟩
 go_enter Tryz.func21,Tryz.ntmps21
 go_wp2_with fail;refine (sright_any d c _ (HR.out.below (HB.out.trans ((below1 _ _).mono HB.out.size)))).mono ?_;rintro e w1 ⟨r,rfl,hi,hb⟩;obtain ⟨HA0,hbx⟩:=slots1 hb;have Bk:=hidK HA0;replace HB:=upB HB hbx;clear hb hbx HA0;have HI:=hidK hi;clear hi
 cases r
 ·go_wp2
  go_ret;exact ⟨1,rfl,.inr (.inl ⟨hl,fun h => (by have:=HI.out.2 h;cases this),rfl⟩),HB.out⟩
 ·go_wp2
  go_ret;exact ⟨0,rfl,.inr (.inr ⟨hl,HI.out.1 (by first | trivial | rfl),rfl⟩),HB.out⟩

structure Co where
 c : Cl
 n : ByteArray
 p : Int
def cl0 : Cl:=⟨[],[],[],[],[],0⟩
def co0 (p : Int) : Co:=⟨cl0,⟨#[]⟩,p⟩
def ad0 : Ad:=⟨none,0,0,none,0,0,none,0,0,none,0,0,none,0,0⟩
theorem own0 (w : World) (S : Nat → Prop) : ClOwn w ad0 cl0.raw S:=⟨fun _ => 1,ROwn.nil _ _ _ _ _ (by decide),ROwn.nil _ _ _ _ _ (by decide),ROwn.nil _ _ _ _ _ (by decide),ROwn.nil _ _ _ _ _ (by decide),ROwn.nil _ _ _ _ _ (by decide)⟩
def OutI (Is : Co → Prop) (w : World) (e : Ending) (w' : World) : Prop:=∃ g o,e = .returned (.agg #[.slice g.a1 g.l1 g.c1,.slice g.a2 g.l2 g.c2,.slice g.a3 g.l3 g.c3,.slice g.a4 g.l4 g.c4,.slice g.a5 g.l5 g.c5,.int .i64 o.c.now,.string o.n,.int .i64 o.p]) ∧ Is o ∧ ClOwn w' g o.c.raw (fun k => w.heap.size ≤ k) ∧ Below w.heap.size w w'
def OutS (Is : Co → Prop) (w : World) (e : Ending) (w' : World) : Prop:=∃ g o,e = .returned (.agg #[.slice g.a1 g.l1 g.c1,.slice g.a2 g.l2 g.c2,.slice g.a3 g.l3 g.c3,.slice g.a4 g.l4 g.c4,.slice g.a5 g.l5 g.c5,.int .i64 o.c.now,.string o.n,.int .i64 o.p]) ∧ Is o ∧ ClRow w' g o.c.raw ∧ Below w.heap.size w w'

theorem eqCout_any (g g' : Ad) (o : Co) (w : World) (hr : ClRow w g o.c.raw) (hr' : ClRow w g' o.c.raw) :
  Calls Tryz.prog 9 #[.agg #[.slice g.a1 g.l1 g.c1,.slice g.a2 g.l2 g.c2,.slice g.a3 g.l3 g.c3,.slice g.a4 g.l4 g.c4,.slice g.a5 g.l5 g.c5,.int .i64 o.c.now,.string o.n,.int .i64 o.p],.agg #[.slice g'.a1 g'.l1 g'.c1,.slice g'.a2 g'.l2 g'.c2,.slice g'.a3 g'.l3 g'.c3,.slice g'.a4 g'.l4 g'.c4,.slice g'.a5 g'.l5 g'.c5,.int .i64 o.c.now,.string o.n,.int .i64 o.p]] w fun e w' => e = .returned (.bool true) ∧ Below w.heap.size w w':=by
 have HR:=hidK hr;have HR':=hidK hr';have HB:=hidK (Below.refl w.heap.size w);clear hr hr'
 go_enter Tryz.func9,Tryz.ntmps9
 go_wp2_with fail;refine (eqCluster_any g g' o.c _ (HR.out.below (HB.out.trans ((below2 _ _ _).mono HB.out.size))) (HR'.out.below (HB.out.trans ((below2 _ _ _).mono HB.out.size)))).mono ?_;rintro e w1 ⟨rfl,hb⟩;obtain ⟨HA0,HA1,hbx⟩:=slots2 hb;have Ba:=hidK HA0;have Bb:=hidK HA1;replace HB:=upB HB hbx;clear hb hbx HA0 HA1;obtain ⟨a0,a1,a2,a3,a4,a5,a6,a7⟩:=cs8 Ba.out;have lta_1:=lt_of_some Ba.out;obtain ⟨b0,b1,b2,b3,b4,b5,b6,b7⟩:=cs8 Bb.out;have ltb_1:=lt_of_some Bb.out
 go_wp2
 go_ret;exact ⟨rfl,HB.out⟩

theorem markCout_any (g : Ad) (o : Co) (N : Int) (S : Nat → Prop) (w : World) (ho : ClOwn w g o.c.raw S) (hS : ∀ k,S k → k < w.heap.size) (hN : 0 < N) (hb : mkCn N o.c.raw ≤ 1152921504606846976) :
  Calls Tryz.prog 12 #[.agg #[.slice g.a1 g.l1 g.c1,.slice g.a2 g.l2 g.c2,.slice g.a3 g.l3 g.c3,.slice g.a4 g.l4 g.c4,.slice g.a5 g.l5 g.c5,.int .i64 o.c.now,.string o.n,.int .i64 o.p],.int .i64 N] w fun e w' => e = .returned (.int .i64 (mkCn N o.c.raw)) ∧ ClOwn w' g (mkC N o.c.raw) S ∧ KeptS S w w':=by
 have HO:=hidK (ho.below (below1 w (.cells #[.slice g.a1 g.l1 g.c1,.slice g.a2 g.l2 g.c2,.slice g.a3 g.l3 g.c3,.slice g.a4 g.l4 g.c4,.slice g.a5 g.l5 g.c5,.int .i64 o.c.now,.string o.n,.int .i64 o.p] 38)));have HS:=hidK hS;clear ho hS
 go_enter Tryz.func12,Tryz.ntmps12
 go_wp2_with fail;refine (markCluster_any g o.c N S _ HO.out (fun k s => by have:=HS.out k s;simp;omega) hN hb).mono ?_;rintro e w1 ⟨rfl,ho,hk⟩;have HO1:=hidK ho;have HK:=hidK ((KeptS.of_below (S:=S) (below1 w (.cells #[.slice g.a1 g.l1 g.c1,.slice g.a2 g.l2 g.c2,.slice g.a3 g.l3 g.c3,.slice g.a4 g.l4 g.c4,.slice g.a5 g.l5 g.c5,.int .i64 o.c.now,.string o.n,.int .i64 o.p] 38))).trans hk);clear ho hk
 go_wp2
 go_ret;exact ⟨rfl,HO1.out,HK.out⟩

theorem heldCout_any (g : Ad) (o : Co) (N : Int) (w : World) (hr : ClRow w g (mkC N o.c.raw)) (hN : 0 < N) (hb : mkCn N o.c.raw ≤ 1152921504606846976) :
  Calls Tryz.prog 13 #[.agg #[.slice g.a1 g.l1 g.c1,.slice g.a2 g.l2 g.c2,.slice g.a3 g.l3 g.c3,.slice g.a4 g.l4 g.c4,.slice g.a5 g.l5 g.c5,.int .i64 o.c.now,.string o.n,.int .i64 o.p],.int .i64 N] w fun e w' => e = .returned (.int .i64 (mkCn N o.c.raw)) ∧ Below w.heap.size w w':=by
 have HR:=hidK (hr.below (below1 w (.cells #[.slice g.a1 g.l1 g.c1,.slice g.a2 g.l2 g.c2,.slice g.a3 g.l3 g.c3,.slice g.a4 g.l4 g.c4,.slice g.a5 g.l5 g.c5,.int .i64 o.c.now,.string o.n,.int .i64 o.p] 38)));clear hr;obtain ⟨M,hM⟩ : ∃ M,M = mkCn N o.c.raw:=⟨_,rfl⟩
 have hM0 : ¬ M < 0:=by rw [hM];have:=mkCn_ge N o.c.raw;omega
 have HM:=hidK hM;clear hM
 go_enter Tryz.func13,Tryz.ntmps13
 go_wp2_with fail;refine (heldCluster_any g o.c o.c.now N _ HR.out hN hb).mono ?_;rintro e w1 ⟨rfl,hb1⟩;rw [← HM.out];have HB:=hidK (slots1 hb1).2;clear hb1
 go_wp2
 go_ret;exact ⟨by rw [← HM.out];rfl,HB.out⟩

def wo {α : Type} (nm : α → ByteArray) (t : ByteArray) (xs : List α) : List α:=xs.filter fun x => !((nm x).toList == t.toList)
theorem wo_yes {α : Type} {nm : α → ByteArray} {t : ByteArray} {xs : List α} {k : Nat} {x : α} (h : xs[k]? = some x) (hn : ((nm x).toList == t.toList) = false) : wo nm t (xs.take (k + 1)) = wo nm t (xs.take k) ++ [x]:=by
 unfold wo;rw [List.take_add_one,h,List.filter_append]
 simp [hn]
theorem wo_no {α : Type} {nm : α → ByteArray} {t : ByteArray} {xs : List α} {k : Nat} {x : α} (h : xs[k]? = some x) (hn : ((nm x).toList == t.toList) = true) : wo nm t (xs.take (k + 1)) = wo nm t (xs.take k):=by
 unfold wo;rw [List.take_add_one,h,List.filter_append]
 simp [hn]
theorem wo_le {α : Type} (nm : α → ByteArray) (t : ByteArray) (xs : List α) : (wo nm t xs).length ≤ xs.length:=List.length_filter_le _ _
structure Sel {α β : Type} (xs ys : List α) (vss ws : List β) (k : Nat) (f : Nat → Nat) : Prop where
 len : ws.length = ys.length
 y : ∀ j,j < ys.length → ys[j]? = xs[f j]?
 v : ∀ j,j < ys.length → ws[j]? = vss[f j]?
 lt : ∀ j,j < ys.length → f j < k
 inj : ∀ i j,i < ys.length → j < ys.length → f i = f j → i = j
theorem Sel.nil {α β : Type} (xs : List α) (vss : List β) (k : Nat) (f : Nat → Nat) : Sel xs [] vss [] k f:=⟨rfl,fun j h => by simp at h,fun j h => by simp at h,fun j h => by simp at h,fun i j h => by simp at h⟩
theorem Sel.up {α β : Type} {xs ys : List α} {vss ws : List β} {k : Nat} {f : Nat → Nat} (h : Sel xs ys vss ws k f) : Sel xs ys vss ws (k + 1) f:=⟨h.len,h.y,h.v,fun j hj => Nat.lt_succ_of_lt (h.lt j hj),h.inj⟩
theorem Sel.push {α β : Type} {xs ys : List α} {vss ws : List β} {k : Nat} {f : Nat → Nat} (h : Sel xs ys vss ws k f) {x : α} {u : β} (hx : xs[k]? = some x) (hu : vss[k]? = some u) : Sel xs (ys ++ [x]) vss (ws ++ [u]) (k + 1) (fun j => if j = ys.length then k else f j):=by
 have hl:=h.len;refine ⟨by simp [hl],fun j hj => ?_,fun j hj => ?_,fun j hj => ?_,fun i j hi hj e => ?_⟩
 ·by_cases e : j = ys.length
  ·subst e;simp [hx]
  ·have hj' : j < ys.length:=by simp at hj;omega
   rw [List.getElem?_append_left hj',if_neg e];exact h.y j hj'
 ·by_cases e : j = ys.length
  ·subst e;rw [if_pos rfl,hu,List.getElem?_append_right (by omega),hl,Nat.sub_self]
   rfl
  ·have hj' : j < ys.length:=by simp at hj;omega
   rw [List.getElem?_append_left (by omega),if_neg e];exact h.v j hj'
 ·by_cases e : j = ys.length
  ·simp only [if_pos e];omega
  ·have hj' : j < ys.length:=by simp at hj;omega
   simp only [if_neg e];have:=h.lt j hj'
   omega
 ·by_cases e1 : i = ys.length <;> by_cases e2 : j = ys.length
  ·omega
  ·have hj' : j < ys.length:=by simp at hj;omega
   simp only [if_pos e1,if_neg e2] at e;have:=h.lt j hj'
   omega
  ·have hi' : i < ys.length:=by simp at hi;omega
   simp only [if_pos e2,if_neg e1] at e;have:=h.lt i hi'
   omega
  ·simp only [if_neg e1,if_neg e2] at e;exact h.inj i j (by simp at hi;omega) (by simp at hj;omega) e
theorem Sel.recs {w : World} {S : Nat → Prop} {m k : Nat} {α : Type} {F : α → List Fv} {xs ys : List α} {vss ws : List (List Value)} {H : Nat → Nat → Nat} {f : Nat → Nat} (h : Sel xs ys vss ws k f) (hv : VRecs w S m (xs.map F) vss H) : VRecs w S m (ys.map F) ws (fun j => H (f j)) :=
 hv.sel f (by rw [h.len,List.length_map]) (fun j hj => by rw [List.length_map] at hj;rw [List.getElem?_map,List.getElem?_map,h.y j hj]) (fun j hj => by rw [List.length_map] at hj;exact h.v j hj) (fun i j hi hj e => h.inj i j (by simpa using hi) (by simpa using hj) e)
theorem vals_eq8 {vs : List Value} {a0 a1 a2 a3 a4 a5 a6 a7 : Value} (hl : vs.length = 8) (h0 : vs[0]? = some a0) (h1 : vs[1]? = some a1) (h2 : vs[2]? = some a2) (h3 : vs[3]? = some a3) (h4 : vs[4]? = some a4) (h5 : vs[5]? = some a5) (h6 : vs[6]? = some a6) (h7 : vs[7]? = some a7) : vs = [a0,a1,a2,a3,a4,a5,a6,a7]:=by
 apply List.ext_getElem?
 intro i
 rcases i with _ | _ | _ | _ | _ | _ | _ | _ | i
 ·exact h0
 ·exact h1
 ·exact h2
 ·exact h3
 ·exact h4
 ·exact h5
 ·exact h6
 ·exact h7
 ·rw [List.getElem?_eq_none (by omega),List.getElem?_eq_none (by simp)]
theorem recs_at {w : World} {S : Nat → Prop} {m g : Nat} {rs : List (List Fv)} {vss : List (List Value)} {H : Nat → Nat → Nat} (hV : VRecs w S m rs vss H) (hc : ∀ (k : Nat) u,vss.flatten[k]? = some u → w.cell? ⟨g,k,none⟩ = some u) {k : Nat} {vs : List Value} (hk : vss[k]? = some vs) {i : Nat} {u : Value} (hi : i < m) (hu : w.cell? ⟨g,k * m + i,none⟩ = some u) : vs[i]? = some u:=by
 have hl:=hV.all k vs hk;have h1 : vs[i]? = some (vs[i]'(by omega)):=List.getElem?_eq_getElem _;have h2:=hc _ _ (flat_at hV.all hk h1);rw [hu] at h2;rw [h1];exact h2.symm

theorem iwovd_any (a : Option Addr) (len cap : Nat) (xs : List Vd) (t : ByteArray) (Q : Nat → Prop) (w : World) (ho : ROwn w a len cap 8 63 (xs.map vdF) Q) (hl : len ≤ 8) :
  Calls Tryz.prog 55 #[.slice a len cap,.string t] w fun e w' => ∃ a' l' c',e = .returned (.slice a' l' c') ∧ ROwn w' a' l' c' 8 63 ((wo Vd.n t xs).map vdF) (fun k => Q k ∨ w.heap.size ≤ k) ∧ Below w.heap.size w w':=by
 have HR:=hidK ho.row
 have hxl : xs.length = len:=by simpa using ho.1
 obtain ⟨vss,H,hV,hcell⟩:=ho.recs;have HV:=hidK hV;have HC:=hidK hcell
 have hvl : vss.length = xs.length:=by rw [hV.len,List.length_map]
 clear ho hV hcell;obtain ⟨i0,hi,hz0,hz1,hz2⟩:=info_parts infovd;have HI0:=hidK (And.intro hi (And.intro hz0 (And.intro hz1 hz2)));clear hi hz0 hz1 hz2
 have hmcalled : ∀ (v : Value) (w : World),(method 337 63 v "loop.example/g00571/impl.called").run Tryz.prog w = .ok (189,v) w:=fun _ _ => by kernel_rfl
 go_enter Tryz.func55,Tryz.ntmps55
 go_wp2
 go_loopw [5,10] (fun vo vi wr => ∃ (k : Nat) (ws : List (List Value)) (f : Nat → Nat),k ≤ len ∧ vi = .int .i64 k ∧ Hid (wr.ownsRow w.heap.size 63 8 vo (wo Vd.n t (xs.take k)).length ws.flatten) ∧ Hid (Sel xs (wo Vd.n t (xs.take k)) vss ws k f) ∧ Hid (Below w.heap.size w wr)) (fun _ vi _ => len - (intOf vi).toNat)
 case atStart => exact ⟨0,[],fun _ => 0,by omega,rfl,World.ownsRow_nil _ _ _ _,Sel.nil _ _ _ _,Below.refl _ _⟩
 case round =>
  obtain ⟨k,ws,f,hk,rfl,HO,HF,HB⟩:=hrel;have hBs:=HB.out.size
  by_cases hlt : k < len
  ·obtain ⟨b,o,x,rfl,hb,hx,hat⟩:=vd_at HR.out hlt;obtain ⟨va,vl,vc,hvr,z0,z2,z3,z5,c0,c1,c2,c3,c4,c5,c6,c7⟩:=vd_cells hat
   have hvk : vss[k]? = some [.string x.n,.int .i64 x.c,.string x.z,.string x.k,.bool x.x,.string x.m,.bool x.y,.slice va vl vc]:=by
    have hkv : k < vss.length:=by omega
    have h1:=List.getElem?_eq_getElem hkv
    have hoz : o = 0:=by
     have h2 : 0 < (vss[k]).length:=by rw [HV.out.all k _ h1];decide
     obtain ⟨g,e,_,_⟩:=HC.out _ _ (flat_at HV.out.all h1 (List.getElem?_eq_getElem h2))
     cases e
     rfl
    subst hoz
    have hc2 : ∀ (j : Nat) u,vss.flatten[j]? = some u → w.cell? ⟨b,j,none⟩ = some u:=fun j u hj => by
     obtain ⟨g,e,_,h3⟩:=HC.out j u hj
     cases e
     exact h3
    rw [h1];refine congrArg some (vals_eq8 (HV.out.all k _ h1) (recs_at HV.out hc2 h1 (by decide) (by simpa using c0)) (recs_at HV.out hc2 h1 (by decide) (by simpa using c1)) (recs_at HV.out hc2 h1 (by decide) (by simpa using c2)) (recs_at HV.out hc2 h1 (by decide) (by simpa using c3)) (recs_at HV.out hc2 h1 (by decide) (by simpa using c4)) (recs_at HV.out hc2 h1 (by decide) (by simpa using c5)) (recs_at HV.out hc2 h1 (by decide) (by simpa using c6)) (recs_at HV.out hc2 h1 (by decide) (by simpa using c7)))
   have HX:=hidK hx;have HVK:=hidK hvk;replace c0:=(cell_below HB.out hb).trans c0;replace c1:=(cell_below HB.out hb).trans c1;replace c2:=(cell_below HB.out hb).trans c2;replace c3:=(cell_below HB.out hb).trans c3;replace c4:=(cell_below HB.out hb).trans c4;replace c5:=(cell_below HB.out hb).trans c5;replace c6:=(cell_below HB.out hb).trans c6;replace c7:=(cell_below HB.out hb).trans c7;have hbr : b < wr.heap.size:=Nat.lt_of_lt_of_le hb hBs;clear hat hx hvk hvr z0 z2 z3 z5;have hn8:=wo_le Vd.n t (xs.take k)
   have hn9 : (wo Vd.n t (xs.take k)).length ≤ k:=by rw [List.length_take] at hn8;omega
   go_wp2_with fail;refine (calledvd_any x va vl vc _).mono ?_;rintro e w1 ⟨rfl,hb1⟩;obtain ⟨hn1,hbx⟩:=slots1 hb1;obtain ⟨n0,n1,n2,n3,n4,n5,n6,n7⟩:=cs8 hn1;have hs1:=lt_of_some hn1;have HO1:=hidK (owns_below HO.out hbx);have HB1:=hidK (HB.out.trans (hbx.mono hBs));clear hb1 hbx hn1 c0 c1 c2 c3 c4 c5 c6 c7
   cases hq : (x.n.toList == t.toList)
   ·have hq2 : (x.n.toList != t.toList) = true:=by simp [bne,hq]
    go_wp2_with (first | (at_builtin;refine wpList_append_own _ rfl _ _ 92 rfl w.heap.size 63 i0 (.agg #[.string ⟨#[]⟩,.int .i64 0,.string ⟨#[]⟩,.string ⟨#[]⟩,.bool false,.string ⟨#[]⟩,.bool false,.slice none 0 0]) 8 112 Tryz.underlying92 HI0.out.1 HI0.out.2.1 HI0.out.2.2.1 HI0.out.2.2.2 rfl (by decide) _ _ _ rfl (HO1.out.alloc _) ⟨w1.heap.size,0,none⟩ 1 1 [.string x.n,.int .i64 x.c,.string x.z,.string x.k,.bool x.x,.string x.m,.bool x.y,.slice va vl vc] rfl rfl ?c1 ?c2 ?c3 ?c4 ?c5 ?_))
    case c1 => exact news_alloc _ _ _
    case c2 => intro u hu;simp only [List.mem_cons,List.not_mem_nil,or_false] at hu;rcases hu with rfl | rfl | rfl | rfl | rfl | rfl | rfl | rfl <;> rfl
    case c3 => unfold maxLen;omega
    case c4 => omega
    case c5 => simp;omega
    rintro v' w3 hown3 hgrow -
    have HO3 : Hid (w3.ownsRow w.heap.size 63 8 v' (wo Vd.n t (xs.take (k + 1))).length (ws ++ ([[.string x.n,.int .i64 x.c,.string x.z,.string x.k,.bool x.x,.string x.m,.bool x.y,.slice va vl vc]] : List (List Value))).flatten):=by
     show World.ownsRow _ _ _ _ _ _ _
     rw [wo_yes HX.out hq,List.length_append,List.flatten_append]
     simpa using hown3
    have hF:=HF.out.push HX.out HVK.out;rw [← wo_yes HX.out hq] at hF;have HF3:=hidK hF;have HB3:=hidK ((HB1.out.trans ((below1 _ _).mono HB1.out.size)).grown hgrow (by simp;omega) (fun g hg => (HO1.out.lt g hg).1));clear hown3 hgrow hF
    go_wp2
    exact ⟨⟨k + 1,_,_,by omega,by go_num,HO3,HF3,HB3⟩,by simp [intOf];omega⟩
   ·have hq2 : (x.n.toList != t.toList) = false:=by simp [bne,hq]
    have HF3:=hidK HF.out.up;rw [← wo_no HX.out hq] at HF3 HO1
    go_wp2
    exact ⟨⟨k + 1,ws,f,by omega,by go_num,HO1,HF3,HB1⟩,by simp [intOf];omega⟩
  ·obtain rfl : len = k:=by omega
   have h5:=HF.out;have HO5:=HO;rw [List.take_of_length_le (by omega)] at h5 HO5;have h6:=(h5.recs (HV.out.below HB.out)).keep (w':=wr) (S':=fun k => Q k ∨ w.heap.size ≤ k) (fun _ _ _ _ => rfl) (fun _ _ s => .inl s);obtain ⟨a',c',e,hR⟩:=h6.own HO5.out (by simp) (by decide) (fun g hg => .inr (HO5.out.lt g hg).1);subst e;have HR5:=hidK hR;clear h5 h6 hR HF HO HO5
   go_wp2
   go_ret;exact ⟨a',_,c',rfl,by simpa using HR5.out,HB.out⟩

theorem ClOwnP.put3 {w2 w3 w4 : World} {d : Ad} {c : Cr} {B : Nat} {P : Nat → Nat} (h : ClOwnP w2 d c (fun k => B ≤ k) P) (hB : B ≤ w2.heap.size) {a : Option Addr} {l cp : Nat} {rs : List (List Fv)} (hN : ROwn w3 a l cp 8 63 rs (fun k => ((B ≤ k ∧ P k = 3) ∧ k < w2.heap.size) ∨ w2.heap.size + 1 ≤ k)) (hb : Below w2.heap.size w2 w3) (hk : ∀ k,B ≤ k → ¬ k = w2.heap.size → w4.heap[k]? = w3.heap[k]?) : ClOwn w4 ⟨d.a1,d.l1,d.c1,d.a2,d.l2,d.c2,a,l,cp,d.a4,d.l4,d.c4,d.a5,d.l5,d.c5⟩ ⟨c.n,c.k,rs,c.x,c.p⟩ (fun k => B ≤ k):=by
 refine ⟨fun k => if w2.heap.size + 1 ≤ k then 3 else P k,?_,?_,?_,?_,?_⟩
 ·exact h.n.keep (fun k hl s => (hk k s.1 (by omega)).trans (hb.block k hl)) (fun k hl s => ⟨s.1,by show (if w2.heap.size + 1 ≤ k then 3 else P k) = 1;rw [if_neg (by omega)];exact s.2⟩)
 ·exact h.k.keep (fun k hl s => (hk k s.1 (by omega)).trans (hb.block k hl)) (fun k hl s => ⟨s.1,by show (if w2.heap.size + 1 ≤ k then 3 else P k) = 2;rw [if_neg (by omega)];exact s.2⟩)
 ·refine hN.keep (fun k _ s => hk k (by rcases s with s | s;exact s.1.1;omega) (by rcases s with s | s <;> omega)) (fun k _ s => ?_)
  rcases s with s | s
  ·exact ⟨s.1.1,by show (if w2.heap.size + 1 ≤ k then 3 else P k) = 3;rw [if_neg (by omega)];exact s.1.2⟩
  ·exact ⟨by show B ≤ k;omega,if_pos s⟩
 ·exact h.x.keep (fun k hl s => (hk k s.1 (by omega)).trans (hb.block k hl)) (fun k hl s => ⟨s.1,by show (if w2.heap.size + 1 ≤ k then 3 else P k) = 4;rw [if_neg (by omega)];exact s.2⟩)
 ·exact h.p.keep (fun k hl s => (hk k s.1 (by omega)).trans (hb.block k hl)) (fun k hl s => ⟨s.1,by show (if w2.heap.size + 1 ≤ k then 3 else P k) = 5;rw [if_neg (by omega)];exact s.2⟩)
def DwWhy (c : Cl) (t : ByteArray) (St : Nat → Prop) : Nat → Prop
 | 0 => 8000 < t.size
 | 1 => ¬ 8000 < t.size ∧ ¬ RightI c
 | i + 2 => ¬ 8000 < t.size ∧ RightI c ∧ St (i + 2)
def WhyI (E : Nat → Addr) (Why : Nat → Prop) (ok : Prop) (w : World) (e : Ending) (w' : World) : Prop:=Below w.heap.size w w' ∧ ((∃ i,i < 9 ∧ Why i ∧ e = .returned (.iface 190 (.pointer (some (E i))))) ∨ (ok ∧ e = .returned .nilIface))
def DwOk (c : Cl) (t : ByteArray) (ok : Prop) : Prop:=¬ 8000 < t.size ∧ RightI c ∧ ok
def DropIs (c : Cl) (t : ByteArray) (St : Nat → Prop) (ok : Prop) (r : Cl) (o : Co) : Prop:=(∃ i,DwWhy c t St i ∧ o = co0 (codeOf i)) ∨ (¬ 8000 < t.size ∧ RightI c ∧ ok ∧ o = ⟨r,⟨#[]⟩,0⟩)
theorem DropIs.same {c : Cl} {t : ByteArray} {St : Nat → Prop} {ok : Prop} {r : Cl} (h1 : ∀ i j,St i → St j → i = j) (h2 : ∀ i,St i → ¬ ok) {o o' : Co} (h : DropIs c t St ok r o) (h' : DropIs c t St ok r o') : o = o':=by
 rcases h with ⟨i,a,rfl⟩ | ⟨a1,a2,a3,rfl⟩ <;> rcases h' with ⟨j,b,rfl⟩ | ⟨b1,b2,b3,rfl⟩
 ·have : i = j:=by
   rcases i with _ | _ | i <;> rcases j with _ | _ | j <;> simp only [DwWhy] at a b
   ·rfl
   ·exact absurd a b.1
   ·exact absurd a b.1
   ·exact absurd b a.1
   ·rfl
   ·exact absurd b.2.1 a.2
   ·exact absurd b a.1
   ·exact absurd a.2.1 b.2
   ·exact h1 _ _ a.2.2 b.2.2
  rw [this]
 ·rcases i with _ | _ | i <;> simp only [DwWhy] at a
  ·exact absurd a b1
  ·exact absurd b2 a.2
  ·exact absurd b3 (h2 _ a.2.2)
 ·rcases j with _ | _ | j <;> simp only [DwWhy] at b
  ·exact absurd b a1
  ·exact absurd a2 b.2
  ·exact absurd a3 (h2 _ b.2.2)
 ·rfl
theorem co0_marks (p : Int) : mkCn 1 (co0 p).c.raw ≤ 1152921504606846976:=by simp [co0,cl0,Cl.raw,mkCn,mkNs]
theorem wo_fit {α : Type} {nm : α → ByteArray} {t : ByteArray} {xs : List α} {j : Nat} {x : α} (h : (wo nm t xs)[j]? = some x) : ∃ i : Nat,xs[i]? = some x:=List.getElem?_of_mem (List.mem_filter.1 (List.mem_of_getElem? h)).1

theorem idwV_any (d : Ad) (c : Cl) (t : ByteArray) (E : Nat → Addr) (St : Nat → Prop) (ok : Prop) (w : World) (hr : ClRow w d c.raw) (hG : Ers w E) (hst : ∀ W,ClRow W d c.raw → RightI c → Ers W E → Calls Tryz.prog 54 #[.agg #[.slice d.a1 d.l1 d.c1,.slice d.a2 d.l2 d.c2,.slice d.a3 d.l3 d.c3,.slice d.a4 d.l4 d.c4,.slice d.a5 d.l5 d.c5,.int .i64 c.now],.string t] W (WhyI E (fun i => 2 ≤ i ∧ St i) ok W)) :
  Calls Tryz.prog 35 #[.agg #[.slice d.a1 d.l1 d.c1,.slice d.a2 d.l2 d.c2,.slice d.a3 d.l3 d.c3,.slice d.a4 d.l4 d.c4,.slice d.a5 d.l5 d.c5,.int .i64 c.now],.string t,.func (.func 54) #[] #[]] w (WhyI E (DwWhy c t St) (DwOk c t ok) w):=by
 have HR:=hidK hr;have HE:=hidK hG;have HST:=hidK hst;have HB:=hidK (Below.refl w.heap.size w);clear hr hG hst
 by_cases hl : 8000 < t.size
 ·have ev:=(HE.out.below (below1 w (.cells #[.slice d.a1 d.l1 d.c1,.slice d.a2 d.l2 d.c2,.slice d.a3 d.l3 d.c3,.slice d.a4 d.l4 d.c4,.slice d.a5 d.l5 d.c5,.int .i64 c.now] 36))).v0;have evl:=cell_lt HE.out.v0
  go_enter Tryz.func35,Tryz.ntmps35
  go_wp2_with fail;refine (long_yes t _ hl).mono ?_;rintro e w1 ⟨rfl,rfl⟩
  go_wp2
  go_ret;exact ⟨below1 _ _,.inl ⟨0,by decide,hl,rfl⟩⟩
 go_enter Tryz.func35,Tryz.ntmps35
 go_wp2_with fail;refine (long_no t _ hl).mono ?_;rintro e w1 ⟨rfl,rfl⟩;go_wp2_with fail;refine (iright_any d c _ (HR.out.below (HB.out.trans ((below1 _ _).mono HB.out.size))) (HE.out.below (HB.out.trans ((below1 _ _).mono HB.out.size))).ens).mono ?_;rintro e w1 ⟨r,rfl,hi,hb⟩;obtain ⟨HA0,hbx⟩:=slots1 hb;have Bk:=hidK HA0;replace HB:=upB HB hbx;clear hb hbx HA0;have HI:=hidK hi;clear hi
 cases r
 ·obtain ⟨k0,k1,k2,k3,k4,k5⟩:=cs6 Bk.out;have ltk_1:=lt_of_some Bk.out;have ev:=(HE.out.below HB.out).v1
  go_wp2
  go_ret;exact ⟨HB.out,.inl ⟨1,by decide,⟨hl,fun h => (by have:=HI.out.2 h;cases this)⟩,rfl⟩⟩
 have HT:=hidK (HI.out.1 (by first | trivial | rfl));clear HI;obtain ⟨k0,k1,k2,k3,k4,k5⟩:=cs6 Bk.out;have ltk_1:=lt_of_some Bk.out;go_wp2_with fail;refine (HST.out _ (HR.out.below HB.out) HT.out (HE.out.below HB.out)).mono ?_;rintro e w2 ⟨hb,hf⟩;clear k0 k1 k2 k3 k4 k5 ltk_1;replace Bk:=upK Bk hb;replace HB:=upB HB hb;clear hb
 rcases hf with ⟨i,hi8,⟨hi2,hs⟩,rfl⟩ | ⟨hok,rfl⟩
 ·obtain ⟨j,rfl⟩ : ∃ j,i = j + 2:=⟨i - 2,by omega⟩
  go_wp2
  go_ret;exact ⟨HB.out,.inl ⟨j + 2,hi8,⟨hl,HT.out,hs⟩,rfl⟩⟩
 ·go_wp2
  go_ret;exact ⟨HB.out,.inr ⟨⟨hl,HT.out,hok⟩,rfl⟩⟩

def Busy (c : Cl) (v : Vd) : Prop:=¬ v.zs = [] ∨ ∃ (j : Nat) (n : Nd),c.ns[j]? = some n ∧ InL n.zs v.n
def VBusy (c : Cl) (v : Vd) : Prop:=¬ v.m = ⟨#[]⟩ ∨ Busy c v
theorem use_iff (c : Cl) (v : Vd) : (∀ l,¬ UseS c v l) ↔ ¬ VBusy c v:=by
 constructor
 ·rintro h (hm | hz | ⟨j,n,hj,hi⟩)
  ·exact h _ (.inl (.inl ⟨hm,rfl⟩))
  ·rcases hzs : v.zs with _ | ⟨t,zs⟩
   ·exact hz hzs
   ·exact h _ (.inl (.inr ⟨0,t,by rw [hzs];simp,by rw [hzs];rfl,rfl⟩))
  ·exact h _ (.inr ⟨j,n,(List.getElem?_eq_some_iff.1 hj).1,hj,hi,rfl⟩)
 ·rintro h l ((⟨hm,-⟩ | ⟨i,t,-,ht,-⟩) | ⟨j,n,-,hj,hi,-⟩)
  ·exact h (.inl hm)
  ·exact h (.inr (.inl (fun e => by rw [e] at ht;cases ht)))
  ·exact h (.inr (.inr ⟨j,n,hj,hi⟩))
def volSt (c : Cl) (t : ByteArray) (i : Nat) : Prop:=(i = 2 ∧ hit Vd.n c.vs t = false) ∨ (i = 5 ∧ hit Vd.n c.vs t = true ∧ ∃ (j : Nat) (v : Vd),c.vs[j]? = some v ∧ v.n = t ∧ VBusy c v)
def volOk (c : Cl) (t : ByteArray) : Prop:=hit Vd.n c.vs t = true ∧ ∀ (j : Nat) (v : Vd),c.vs[j]? = some v → v.n = t → ¬ VBusy c v
def dropV (c : Cl) (t : ByteArray) : Cl:=⟨c.ns,c.ks,wo Vd.n t c.vs,c.xs,c.ps,c.now⟩
def DropVolIs (c : Cl) (t : ByteArray) (o : Co) : Prop:=DropIs c t (volSt c t) (volOk c t) (dropV c t) o
theorem DropVolIs.same {c : Cl} {t : ByteArray} {o o' : Co} (h : DropVolIs c t o) (h' : DropVolIs c t o') : o = o' :=
 DropIs.same (fun i j a b => by rcases a with ⟨rfl,a⟩ | ⟨rfl,a,-⟩ <;> rcases b with ⟨rfl,b⟩ | ⟨rfl,b,-⟩ <;> first | rfl | (rw [a] at b;cases b))
  (fun i a q => by
   rcases a with ⟨-,a⟩ | ⟨-,-,j,v,hj,hn,hb⟩
   ·rw [q.1] at a;cases a
   ·exact q.2 j v hj hn hb) h h'
theorem DropVolIs.marks {c : Cl} {t : ByteArray} {o : Co} (h : DropVolIs c t o) (hf : ClFit c) : mkCn 1 o.c.raw ≤ 1152921504606846976:=by
 rcases h with ⟨i,_,rfl⟩ | ⟨_,_,_,rfl⟩
 ·exact co0_marks _
 ·refine ClFit.marks (c:=dropV c t) ⟨hf.l1,hf.f1,hf.l2,Nat.le_trans (wo_le _ _ _) hf.l3,fun j x hx => ?_,hf.l4,hf.l5,hf.f5⟩;obtain ⟨i,hi⟩:=wo_fit (show (wo Vd.n t c.vs)[j]? = some x from hx);exact hf.f3 i x hi

theorem ivst_any (d : Ad) (c : Cl) (t : ByteArray) (E : Nat → Addr) (w : World) (hr : ClRow w d c.raw) (hT : RightI c) (hG : Ers w E) :
  Calls Tryz.prog 54 #[.agg #[.slice d.a1 d.l1 d.c1,.slice d.a2 d.l2 d.c2,.slice d.a3 d.l3 d.c3,.slice d.a4 d.l4 d.c4,.slice d.a5 d.l5 d.c5,.int .i64 c.now],.string t] w (WhyI E (fun i => 2 ≤ i ∧ volSt c t i) (volOk c t) w):=by
 have HR:=hidK hr;have HT:=hidK hT;have HE:=hidK hG;have HB:=hidK (Below.refl w.heap.size w);clear hr hG hT
 go_enter Tryz.func54,Tryz.ntmps54
 go_wp2_with fail;refine (thevd_any d c.now c.vs t w _ HR.out.v (below1 _ _)).mono ?_;rintro e w1 ⟨hb,hf⟩;obtain ⟨HA0,hbx⟩:=slots1 hb;have Bk:=hidK HA0;replace HB:=upB HB hbx;clear hb hbx HA0
 rcases hf with ⟨hh,v,va,vl,vc,hx,hn,rfl,z0,z2,z3,z5,hvr⟩ | ⟨hh,rfl⟩
 rotate_left
 ·have HH:=hidK hh;clear hh;obtain ⟨k0,k1,k2,k3,k4,k5⟩:=cs6 Bk.out;have ltk_1:=lt_of_some Bk.out;have ev:=(HE.out.below HB.out).v2;have evl:=cell_lt ev
  go_wp2
  go_ret;exact ⟨HB.out.alloc HB.out.size _,.inl ⟨2,by decide,⟨by decide,.inl ⟨rfl,HH.out⟩⟩,rfl⟩⟩
 have HH:=hidK hh;have HX:=hidK hx;have HN:=hidK hn;have HV:=hidK hvr;have HZ5:=hidK z5;clear hh hx hn hvr z0 z2 z3 z5;obtain ⟨k0,k1,k2,k3,k4,k5⟩:=cs6 Bk.out;have ltk_1:=lt_of_some Bk.out
 have hv8 : vl ≤ 8:=by have h8 : v.zs.length = vl:=HV.out.1;have h9:=(names_six (HT.out.2.1.2.2.1.2.1 _ v HX.out).2.2.2.2.2.2).1;omega
 go_wp2_with fail;refine (idu_any d c v va vl vc _ (HR.out.below (HB.out.trans ((below1 _ _).mono HB.out.size))) HT.out (HV.out.below (HB.out.trans ((below1 _ _).mono HB.out.size))) hv8 HZ5.out).mono ?_;rintro e w2 ⟨b,m,rfl,hH,-,-,hb⟩;obtain ⟨q,hq,hq0,hq8⟩:=hH.len 3;have HQ:=hidK hq0;clear hH hq0;clear k0 k1 k2 k3 k4 k5 ltk_1;obtain ⟨HA0,hbx⟩:=slots1 hb;replace Bk:=upK Bk hbx;have Bv:=hidK HA0;replace HB:=upB HB hbx;clear hb hbx HA0
 by_cases hz : q = 0
 ·have HK : Hid (volOk c t):=⟨HH.out,fun j x hj hn => by
   obtain ⟨-,rfl⟩:=HT.out.2.1.2.2.1.2.2.inj hj HX.out (hn.trans HN.out.symm)
   exact (use_iff c x).1 (HQ.out.1 hz)⟩
  subst hz
  go_wp2
  go_ret;exact ⟨HB.out,.inr ⟨HK.out,rfl⟩⟩
 ·have HK : Hid (volSt c t 5):=.inr ⟨rfl,HH.out,_,v,HX.out,HN.out,Classical.byContradiction fun h => hz (HQ.out.2 ((use_iff c v).2 h))⟩
  have hq1 : (0 : Int) < q:=by omega
  have ev:=(HE.out.below HB.out).v5;have evl:=cell_lt ev
  go_wp2
  go_ret;exact ⟨HB.out,.inl ⟨5,by decide,⟨by decide,HK.out⟩,rfl⟩⟩

theorem idropV_any (d : Ad) (c : Cl) (t : ByteArray) (E : Nat → Addr) (w : World) (hr : ClRow w d c.raw) (hG : Ers w E) :
  Calls Tryz.prog 15 #[.agg #[.slice d.a1 d.l1 d.c1,.slice d.a2 d.l2 d.c2,.slice d.a3 d.l3 d.c3,.slice d.a4 d.l4 d.c4,.slice d.a5 d.l5 d.c5,.int .i64 c.now],.string t] w (OutI (DropVolIs c t) w):=by
 have HR:=hidK hr;have HE:=hidK hG;have HB:=hidK (Below.refl w.heap.size w);clear hr hG
 go_enter Tryz.func15,Tryz.ntmps15
 go_wp2_with fail;refine (idwV_any d c t E (volSt c t) (volOk c t) _ (HR.out.below (HB.out.trans ((below2 _ _ _).mono HB.out.size))) (HE.out.below (HB.out.trans ((below2 _ _ _).mono HB.out.size))) (fun W h1 h2 h3 => ivst_any d c t E W h1 h2 h3)).mono ?_;rintro e w1 ⟨hb,hf⟩;obtain ⟨HA0,HA1,hbx⟩:=slots2 hb;have Bk:=hidK HA0;have Br:=hidK HA1;replace HB:=upB HB hbx;clear hb hbx HA0 HA1
 rcases hf with ⟨i,hi8,hwhy,rfl⟩ | ⟨⟨hl,hT,hok⟩,rfl⟩
 ·have HV : Hid (DropVolIs c t (co0 (codeOf i))):=.inl ⟨i,hwhy,rfl⟩;clear hwhy;obtain ⟨cc,hcc⟩ : ∃ cc,cc = codeOf i:=⟨_,rfl⟩;rw [← hcc] at HV;obtain ⟨k0,k1,k2,k3,k4,k5⟩:=cs6 Bk.out;have ltk_1:=lt_of_some Bk.out;go_wp2_with fail;refine (refused_any E i cc hcc _ (HE.out.below HB.out) hi8).mono ?_;rintro e w2 ⟨rfl,hb⟩;clear k0 k1 k2 k3 k4 k5 ltk_1;replace Bk:=upK Bk hb;replace Br:=upK Br hb;replace HB:=upB HB hb;clear hb;clear hcc;obtain ⟨r0,r1,r2,r3,r4,r5,r6,r7⟩:=cs8 Br.out;have ltr_2:=lt_of_some Br.out;have fr0:=froK Br.out 0;have fr1:=froK Br.out 1;have fr2:=froK Br.out 2;have fr3:=froK Br.out 3;have fr4:=froK Br.out 4;have fr5:=froK Br.out 5;have fr6:=froK Br.out 6;have fr7:=froK Br.out 7;have hrl : w.heap.size + 1 < w2.heap.size:=lt_of_some Br.out
  go_wp2
  exact bodyPost_ret (v:=.agg #[.slice none 0 0,.slice none 0 0,.slice none 0 0,.slice none 0 0,.slice none 0 0,.int .i64 0,.string ⟨#[]⟩,.int .i64 cc]) (by simp [results,Tryz.results15,go_sem, *]) rfl ⟨ad0,co0 cc,rfl,HV.out,own0 _ _,sb1 (sb1 (sb1 (sb1 (sb1 (sb1 (sb1 (sb1 (HB.out))))))))⟩
 have HQ1 : Hid (w.heap.size + 1 < w1.heap.size):=lt_of_some Br.out;have HV : Hid (DropVolIs c t ⟨dropV c t,⟨#[]⟩,0⟩):=.inr ⟨hl,hT,hok,rfl⟩;have HS:=hidK hT.sm;clear hT hok;obtain ⟨k0,k1,k2,k3,k4,k5⟩:=cs6 Bk.out;have ltk_1:=lt_of_some Bk.out;go_wp2_with fail;refine (iownC_any d c _ (HR.out.below HB.out) HS.out).mono ?_;rintro e w2 ⟨d',rfl,ho,hb⟩;have HQ2:=hidK hb.size;clear k0 k1 k2 k3 k4 k5 ltk_1;replace Bk:=upK Bk hb;replace Br:=upK Br hb;replace HB:=upB HB hb;clear hb;obtain ⟨P,hP⟩:=ho;have HP:=hidK hP;have hq1 : w.heap.size + 1 < w1.heap.size:=HQ1.out;have hq2 : w1.heap.size ≤ w2.heap.size:=HQ2.out;clear hP;obtain ⟨r0,r1,r2,r3,r4,r5,r6,r7⟩:=cs8 Br.out;have ltr_2:=lt_of_some Br.out;go_wp2_with fail;have h5:=(HP.out.v.into (S':=fun k => (w1.heap.size ≤ k ∧ P k = 3) ∧ k < w2.heap.size) (fun k hk s => ⟨s,hk⟩)).below (below1 w2 (.cells #[.slice d'.a1 d'.l1 d'.c1,.slice d'.a2 d'.l2 d'.c2,.slice d'.a3 d'.l3 d'.c3,.slice d'.a4 d'.l4 d'.c4,.slice d'.a5 d'.l5 d'.c5,.int .i64 c.now] 36));refine (iwovd_any d'.a3 d'.l3 d'.c3 c.vs t _ _ h5 (by have h6:=HP.out.v.1;have h7 : (c.vs.map vdF).length = d'.l3:=h6;rw [List.length_map] at h7;have:=HS.out.v;omega)).mono ?_;rintro e w3 ⟨a',l',c',rfl,hN,hb⟩;rw [size1] at hN;have hbw23:=(slots1 hb).2;have HN:=hidK hN;clear hN h5;clear r0 r1 r2 r3 r4 r5 r6 r7 ltr_2;obtain ⟨HA0,hbx⟩:=slots1 hb;replace Bk:=upK Bk hbx;replace Br:=upK Br hbx;have Bo:=hidK HA0;replace HB:=upB HB hbx;clear hb hbx HA0;have hq3 : w2.heap.size < w3.heap.size:=lt_of_some Bo.out;have HBX:=hidK hbw23;clear hbw23;obtain ⟨r0,r1,r2,r3,r4,r5,r6,r7⟩:=cs8 Br.out;have ltr_3:=lt_of_some Br.out;obtain ⟨o0,o1,o2,o3,o4,o5⟩:=cs6 Bo.out;have lto_3:=lt_of_some Bo.out;have fr0:=froK Br.out 0;have fr1:=froK Br.out 1;have fr2:=froK Br.out 2;have fr3:=froK Br.out 3;have fr4:=froK Br.out 4;have fr5:=froK Br.out 5
 have fr6:=froK Br.out 6;have fr7:=froK Br.out 7;have fo0:=froK Bo.out 0;have fo1:=froK Bo.out 1;have fo2:=froK Bo.out 2;have fo3:=froK Bo.out 3;have fo4:=froK Bo.out 4;have fo5:=froK Bo.out 5
 have hrl : w.heap.size + 1 < w3.heap.size:=by omega
 have hne : ¬ w.heap.size + 1 = w2.heap.size:=by omega
 have hne2 : ¬ w2.heap.size = w.heap.size + 1:=by omega
 go_wp2
 refine bodyPost_ret (v:=.agg #[.slice d'.a1 d'.l1 d'.c1,.slice d'.a2 d'.l2 d'.c2,.slice a' l' c',.slice d'.a4 d'.l4 d'.c4,.slice d'.a5 d'.l5 d'.c5,.int .i64 c.now,.string ⟨#[]⟩,.int .i64 0]) (by simp [results,Tryz.results15,go_sem, *]) rfl ⟨⟨d'.a1,d'.l1,d'.c1,d'.a2,d'.l2,d'.c2,a',l',c',d'.a4,d'.l4,d'.c4,d'.a5,d'.l5,d'.c5⟩,⟨dropV c t,⟨#[]⟩,0⟩,rfl,HV.out,?_,sb1 (sb1 (sb1 (sb1 (sb1 (sb1 (sb1 (sb1 (set_below (show w.heap.size ≤ w2.heap.size by omega) (HB.out)))))))))⟩;have h9:=HP.out.put3 hq2 HN.out HBX.out (w4:=(((((((((w3.setCell ⟨w2.heap.size,2,none⟩ (.slice a' l' c')).setCell ⟨w.heap.size + 1,0,none⟩ (.slice d'.a1 d'.l1 d'.c1)).setCell ⟨w.heap.size + 1,1,none⟩ (.slice d'.a2 d'.l2 d'.c2)).setCell ⟨w.heap.size + 1,2,none⟩ (.slice a' l' c')).setCell ⟨w.heap.size + 1,3,none⟩ (.slice d'.a4 d'.l4 d'.c4)).setCell ⟨w.heap.size + 1,4,none⟩ (.slice d'.a5 d'.l5 d'.c5)).setCell ⟨w.heap.size + 1,5,none⟩ (.int .i64 c.now)).setCell ⟨w.heap.size + 1,6,none⟩ (.string ⟨#[]⟩)).setCell ⟨w.heap.size + 1,7,none⟩ (.int .i64 0))) (fun k h1 h2 => by rw [Below.heap_setCell _ _ _ _ (show k ≠ w.heap.size + 1 by omega),Below.heap_setCell _ _ _ _ (show k ≠ w.heap.size + 1 by omega),Below.heap_setCell _ _ _ _ (show k ≠ w.heap.size + 1 by omega),Below.heap_setCell _ _ _ _ (show k ≠ w.heap.size + 1 by omega),Below.heap_setCell _ _ _ _ (show k ≠ w.heap.size + 1 by omega),Below.heap_setCell _ _ _ _ (show k ≠ w.heap.size + 1 by omega),Below.heap_setCell _ _ _ _ (show k ≠ w.heap.size + 1 by omega),Below.heap_setCell _ _ _ _ (show k ≠ w.heap.size + 1 by omega),Below.heap_setCell _ _ _ _ (show k ≠ w2.heap.size by omega)]);exact h9.into (fun k _ s => by have s1 : w1.heap.size ≤ k:=s;show w.heap.size ≤ k;omega)

theorem row_same {w : World} {g : Nat} {cs : Array Value} {T : TypeId} {f : Nat × Nat} (h : w.heap[g]? = some (.cells cs T f)) : Below w.heap.size w (w.setRow g cs):=by
 refine ⟨rfl,rfl,rfl,by simp,fun k hk => ?_⟩
 by_cases e : k = g
 ·subst e;rw [setRow_heap w k cs cs T f h,h]
 ·exact setRow_other w g k cs e

theorem run_append_empty_none {w : World} (t ty e : TypeId) (i : TypeInfo) (ht : Tryz.prog.underlying t = some (.slice e)) (hi : Tryz.prog.info? e = some i) (g cap : Nat) :
  (Builtin.append_ #[t,t] ty #[.slice (some ⟨g,0,none⟩) 0 0,.slice none 0 cap]).run Tryz.prog w = .ok (.slice (some ⟨g,0,none⟩) 0 0) w:=by
 simp [Builtin.append_,run_underlying ht,sizeOf,typeInfo,hi,Builtin.lenOf,Builtin.firstCells,storeCells]

theorem TOwn.here {w : World} {g l c : Nat} {zs : List ByteArray} {S S' : Nat → Prop} (h : TOwn w (some ⟨g,0,none⟩) l c zs S) (hS : S' g) : TOwn w (some ⟨g,0,none⟩) l c zs S' :=
 ⟨h.1,h.2.imp id fun ⟨g',cur,e,_,hg⟩ => by cases e;exact ⟨g,cur,rfl,hS,hg⟩⟩

theorem run_append_texts {w : World} {g0 : Nat} {va : Option Addr} {len cap : Nat} {zs : List ByteArray} (ty : TypeId) (hg : w.heap[g0]? = some (.cells #[] 9 (0,0))) (hr : TxRow w va len cap zs) (hl : len ≤ 8001) :
  ∃ a l c w',(Builtin.append_ #[56,56] ty #[.slice (some ⟨g0,0,none⟩) 0 0,.slice va len cap]).run Tryz.prog w = .ok (.slice a l c) w' ∧ TOwn w' a l c zs (fun k => k = g0 ∨ w.heap.size ≤ k) ∧ Below w.heap.size w w':=by
 obtain ⟨i0,hi,hz0,hz1,hz2⟩:=info_parts infoStr;have hzl : zs.length = len:=hr.1
 rcases Nat.eq_zero_or_pos len with h0 | h0
 ·subst h0;obtain rfl : zs = []:=List.eq_nil_of_length_eq_zero hzl
  cases va with
  | none => exact ⟨_,_,_,_,run_append_empty_none 56 ty 9 i0 Tryz.underlying56 hi g0 cap,⟨⟨rfl,Nat.le_refl _,by omega,fun j x hx => by simp at hx,.inl rfl⟩,.inl rfl⟩,Below.refl _ _⟩
  | some ad =>
   have h:=run_append_room (P:=Tryz.prog) w 56 ty 9 i0 Tryz.underlying56 hi g0 0 0 #[] hg ad 0 cap [] (by simp) (fun j u hu => by simp at hu) (fun u hu => by simp at hu) (by omega) (by simp);exact ⟨_,_,_,_,h,⟨⟨rfl,Nat.le_refl _,by omega,fun j x hx => by simp at hx,.inl rfl⟩,.inl rfl⟩,by simpa using row_same hg⟩
 ·cases va with
  | none =>
   rcases hr.2.2.2.2 with h | ⟨b,o,e,_⟩
   ·subst h;simp at hzl;omega
   ·cases e
  | some ad =>
   have h:=run_append_grow (P:=Tryz.prog) w 56 ty 9 i0 (.string ⟨#[]⟩) Tryz.underlying56 hi hz0 ⟨g0,0,none⟩ 0 0 [] (by simp) (fun j u hu => by simp at hu) ad len cap (zs.map Value.string) (by rw [hz1];simpa using hzl) (Ap.news_of hr) (by omega) (by omega) (growslice_fits (by omega) (by rw [hz2];omega));obtain ⟨v',w',hr2,h2,h3,h4⟩:=run_append_own (P:=Tryz.prog) w (base:=0) 56 ty 9 i0 (.string ⟨#[]⟩) 1 16 Tryz.underlying56 hi hz0 hz1 hz2 rfl (by decide) (.slice (some ⟨g0,0,none⟩) 0 0) 0 [] ⟨rfl,.inr ⟨g0,0,#[],rfl,Nat.zero_le _,hg,Nat.le_refl _,by unfold maxLen;omega,rfl,rfl⟩⟩ ad len cap (zs.map Value.string) (by simpa using hzl) (Ap.news_of hr) (fun u hu => by obtain ⟨x,_,rfl⟩:=List.mem_map.1 hu;rfl) (by unfold maxLen;omega) (by omega) (Nat.zero_le _);rw [h] at hr2
   cases hr2
   rw [Nat.zero_add,List.nil_append] at h2;obtain ⟨a',c',e,hT⟩:=TOwn.of_row h2 hr.2.2.2.1;have hbel : Below w.heap.size w (w.drew.alloc (.cells (([] : List Value).toArray ++ (zs.map Value.string).toArray ++ Builtin.zeroCells (Value.string ⟨#[]⟩).cells (grownCap w (0 + len) 0 9 - (0 + len))) 9)):=⟨rfl,rfl,rfl,by simp,fun k hk => heap_alloc_old w.drew _ (by simpa using hk)⟩;simp only [Nat.zero_add] at e h hbel ⊢
   cases e
   exact ⟨_,_,_,_,h,hT.here (.inr (Nat.le_refl _)),hbel⟩
theorem wpList_texts {ops : Array Oper} {rest : List Oper} {o : Oper} {a : Act} {w : World} {Q : Exit → Act → World → Prop} (hgd : o.guard = none) (s x : Operand) (ho : o.op = .call { callee:=.builtin .append,args:=#[s,x],argTypes:=#[56,56] }) (g0 : Nat) (hs : a.eval s = .slice (some ⟨g0,0,none⟩) 0 0) (hg : w.heap[g0]? = some (.cells #[] 9 (0,0)))
  (va : Option Addr) (len cap : Nat) (hx : a.eval x = .slice va len cap) (zs : List ByteArray) (hr : TxRow w va len cap zs) (hl : len ≤ 8001)
  (h : ∀ a' l c w',TOwn w' a' l c zs (fun k => k = g0 ∨ w.heap.size ≤ k) → Below w.heap.size w w' → wpList Tryz.prog ops Q rest (a.put o.dst (.slice a' l c)) w') : wpList Tryz.prog ops Q (o :: rest) a w:=by
 refine wpList_plain hgd fun K hK => ?_;obtain ⟨a',l,c,w',hrun,h1,h2⟩:=run_append_texts o.type hg hr hl;unfold Oper.wp execOp;simp only [ho,resolve,invoke,builtin,Sem.run_bind,Sem.run_pure,Result.andThen_ok,List.map_toArray,List.map_cons,List.map_nil,hs,hx,hrun];exact hK _ _ (h a' l c w' h1 h2)

theorem run_append_recs {w : World} {g0 : Nat} {va : Option Addr} {len cap m bytes : Nat} {rs : List (List Fv)} (t ty T : TypeId) (i : TypeInfo) (z : Value) (ht : Tryz.prog.underlying t = some (.slice T)) (hi : Tryz.prog.info? T = some i) (hz : i.zero = some z) (hsize : i.size = m) (hby : i.bytes = bytes) (hzs : z.cells.size = m) (hsz : 0 < m) (hT : ¬ T = 9) (hg : w.heap[g0]? = some (.cells #[] T (0,0)))
  (hr : RRow w va len cap m rs) (hm : ∀ (j : Nat) r,rs[j]? = some r → r.length = m ∧ FlatR r) (hl : len ≤ 8) (hb8 : bytes ≤ 1000) :
  ∃ a c w',(Builtin.append_ #[t,t] ty #[.slice (some ⟨g0,0,none⟩) 0 0,.slice va len cap]).run Tryz.prog w = .ok (.slice a len c) w' ∧ ROwn w' a len c m T rs (fun k => k = g0 ∨ w.heap.size ≤ k) ∧ Below w.heap.size w w':=by
 rcases Nat.eq_zero_or_pos len with h0 | h0
 ·subst h0;obtain rfl : rs = []:=List.eq_nil_of_length_eq_zero hr.1
  cases va with
  | none => exact ⟨_,_,_,run_append_empty_none t ty T i ht hi g0 cap,ROwn.nil _ _ _ _ _ (by omega),Below.refl _ _⟩
  | some ad =>
   have h:=run_append_room (P:=Tryz.prog) w t ty T i ht hi g0 0 0 #[] hg ad 0 cap [] (by simp) (fun j u hu => by simp at hu) (fun u hu => by simp at hu) (by omega) (by simp);exact ⟨_,_,_,h,ROwn.nil _ _ _ _ _ (by omega),by simpa using row_same hg⟩
 ·have hlen : ((rs.map flatV).flatten).length = len * m:=by rw [flat_len (flat_all fun j r hj => (hm j r hj).1),List.length_map,hr.1]
  obtain ⟨ad,rfl,hnews⟩ : ∃ ad,va = some ad ∧ ∀ (j : Nat) u,((rs.map flatV).flatten)[j]? = some u → w.cell? (ad.add j) = some u:=by
   rcases hr.2.2.2 with h | ⟨b,o,rfl,_⟩
   ·subst h;have:=hr.1;simp at this;omega
   ·exact ⟨_,rfl,flat_news hr hm⟩
  have h:=run_append_grow (P:=Tryz.prog) w t ty T i z ht hi hz ⟨g0,0,none⟩ 0 0 [] (by simp) (fun j u hu => by simp at hu) ad len cap (rs.map flatV).flatten (by rw [hsize];exact hlen) hnews (by omega) (by omega) (growslice_fits (by omega) (by rw [hby];have : (0 + len) * bytes ≤ 8 * 1000:=Nat.mul_le_mul (by omega) hb8;omega));obtain ⟨v',w',hr2,h2,h3,h4⟩:=run_append_own (P:=Tryz.prog) w (base:=0) t ty T i z m bytes ht hi hz hsize hby hzs hsz (.slice (some ⟨g0,0,none⟩) 0 0) 0 [] ⟨by simp,.inr ⟨g0,0,#[],rfl,Nat.zero_le _,hg,Nat.le_refl _,by unfold maxLen;omega,by simp,by simp⟩⟩ ad len cap (rs.map flatV).flatten hlen hnews (flat_recs hr hm w (fun _ => True)).one (by unfold maxLen;omega) (by have : (0 + len) * bytes ≤ 8 * 1000:=Nat.mul_le_mul (by omega) hb8;omega) (Nat.zero_le _);rw [h] at hr2
  cases hr2
  rw [Nat.zero_add,List.nil_append] at h2;obtain ⟨a',c',e,hR⟩:=(flat_recs hr hm _ (fun k => k = g0 ∨ w.heap.size ≤ k)).own h2 hr.1.symm hT (fun g hg => by simp [Value.ownBlock] at hg;exact .inr (by omega));have hbel : Below w.heap.size w (w.drew.alloc (.cells (([] : List Value).toArray ++ ((rs.map flatV).flatten).toArray ++ Builtin.zeroCells z.cells (grownCap w (0 + len) 0 T - (0 + len))) T)):=⟨rfl,rfl,rfl,by simp,fun k hk => heap_alloc_old w.drew _ (by simpa using hk)⟩;rw [hr.1] at e hR;simp only [Nat.zero_add] at e h hbel hR ⊢
  cases e
  exact ⟨_,_,_,h,hR,hbel⟩
theorem wp_copy0 {o : Oper} {a : Act} {w : World} {K : Act → World → Prop} {Q : Exit → Act → World → Prop} {g0 : Nat} {va : Option Addr} {len cap m bytes : Nat} {rs : List (List Fv)} (s x : Operand) (t T : TypeId) (ho : o.op = .call { callee:=.builtin .append,args:=#[s,x],argTypes:=#[t,t] }) (i : TypeInfo) (z : Value) (ht : Tryz.prog.underlying t = some (.slice T)) (hi : Tryz.prog.info? T = some i) (hz : i.zero = some z) (hsize : i.size = m) (hby : i.bytes = bytes) (hzs : z.cells.size = m) (hsz : 0 < m) (hT : ¬ T = 9) (hs : a.eval s = .slice (some ⟨g0,0,none⟩) 0 0) (hg : w.heap[g0]? = some (.cells #[] T (0,0)))
  (hx : a.eval x = .slice va len cap) (hr : RRow w va len cap m rs) (hm : ∀ (j : Nat) r,rs[j]? = some r → r.length = m ∧ FlatR r) (hl : len ≤ 8) (hb8 : bytes ≤ 1000)
  (h : ∀ a' c' w',ROwn w' a' len c' m T rs (fun k => k = g0 ∨ w.heap.size ≤ k) → Below w.heap.size w w' → K (a.put o.dst (.slice a' len c')) w') : o.wp Tryz.prog a w K Q:=by
 obtain ⟨a',c',w',hrun,h1,h2⟩:=run_append_recs t o.type T i z ht hi hz hsize hby hzs hsz hT hg hr hm hl hb8;unfold Oper.wp execOp;simp only [ho,resolve,invoke,builtin,Sem.run_bind,Sem.run_pure,Result.andThen_ok,List.map_toArray,List.map_cons,List.map_nil,hs,hx,hrun];exact h a' c' w' h1 h2

theorem slots2n {w w' : World} {o p : Obj} (h : Below (w.heap.size + 1 + 1) ((w.alloc o).alloc p) w') : w'.heap[w.heap.size]? = some o ∧ w'.heap[w.heap.size + 1]? = some p ∧ Below w.heap.size w w':=slots2 (by rw [size1,size1];exact h)
theorem news_alloc_at (w : World) (n : Nat) (hn : w.heap.size = n) (vs : List Value) (T : TypeId) : ∀ (j : Nat) u,vs[j]? = some u → (w.alloc (.cells vs.toArray T)).cell? ((⟨n,0,none⟩ : Addr).add j) = some u:=by
 subst hn;exact news_alloc w vs T
theorem put6 {w : World} {b : Nat} {T : TypeId} {u0 u1 u2 u3 u4 u5 v0 v1 v2 v3 v4 v5 : Value} (h : w.heap[b]? = some (.cells #[u0,u1,u2,u3,u4,u5] T (0,0))) :
  ((((((w.setCell ⟨b,0,none⟩ v0).setCell ⟨b,1,none⟩ v1).setCell ⟨b,2,none⟩ v2).setCell ⟨b,3,none⟩ v3).setCell ⟨b,4,none⟩ v4).setCell ⟨b,5,none⟩ v5).heap[b]? = some (.cells #[v0,v1,v2,v3,v4,v5] T (0,0)) :=
 block_set (block_set (block_set (block_set (block_set (block_set h v0) v1) v2) v3) v4) v5
theorem put6_ne {w : World} {b k : Nat} {v0 v1 v2 v3 v4 v5 : Value} (hk : ¬ k = b) :
  ((((((w.setCell ⟨b,0,none⟩ v0).setCell ⟨b,1,none⟩ v1).setCell ⟨b,2,none⟩ v2).setCell ⟨b,3,none⟩ v3).setCell ⟨b,4,none⟩ v4).setCell ⟨b,5,none⟩ v5).heap[k]? = w.heap[k]?:=by
 rw [Below.heap_setCell _ _ _ _ hk,Below.heap_setCell _ _ _ _ hk,Below.heap_setCell _ _ _ _ hk,Below.heap_setCell _ _ _ _ hk,Below.heap_setCell _ _ _ _ hk,Below.heap_setCell _ _ _ _ hk]
theorem ROwn.away {w : World} {a : Option Addr} {len cap m : Nat} {T T' : TypeId} {rs : List (List Fv)} {S : Nat → Prop} (h : ROwn w a len cap m T rs S) {b : Nat} {cs : Array Value} (hb : w.heap[b]? = some (.cells cs T' (0,0))) (h1 : ¬ T' = T) (h2 : ¬ T' = 9) : ROwn w a len cap m T rs (fun k => S k ∧ ¬ k = b):=by
 obtain ⟨a1,a2,a3,a4⟩:=h;refine ⟨a1,a2,a3,a4.imp id ?_⟩;rintro ⟨g,cur,H,e,h5⟩;refine ⟨g,cur,H,e,h5.blk,⟨h5.inS,fun q => ?_⟩,h5.len,fun j r hj i f hi => ?_,h5.inj⟩
 ·subst q;have:=h5.blk;rw [hb] at this
  cases this
  exact h1 rfl
 ·obtain ⟨v,q1,q2⟩:=h5.cell j r hj i f hi;refine ⟨v,q1,?_⟩
  cases f with
  | l zs =>
   obtain ⟨a',l',c',k1,k2,k3,k4,k5,k6⟩:=q2;refine ⟨a',l',c',k1,k2,k3,k4,k5,k6.imp id ?_⟩;rintro ⟨z1,z2,z3,cu,z4,z5⟩;refine ⟨z1,⟨z2,fun q => ?_⟩,z3,cu,z4,z5⟩;rw [q] at z4;rw [hb] at z4
   cases z4
   exact h2 rfl
  | _ => exact q2
theorem owns_set {w : World} {base n m : Nat} {T T' : TypeId} {v u : Value} {xs : List Value} {b i : Nat} {cs : Array Value} (h : w.ownsRow base T m v n xs) (hb : w.heap[b]? = some (.cells cs T' (0,0))) (hT : ¬ T' = T) : (w.setCell ⟨b,i,none⟩ u).ownsRow base T m v n xs:=by
 refine ⟨h.1,h.2.imp id ?_⟩;rintro ⟨g,cap,cur,h1,h2,h3,h4⟩;refine ⟨g,cap,cur,h1,h2,(Below.heap_setCell _ _ _ _ (fun e => ?_)).trans h3,h4⟩;subst e;rw [hb] at h3
 cases h3
 exact hT rfl
theorem VRecs.set {w : World} {S : Nat → Prop} {m : Nat} {rs : List (List Fv)} {vss : List (List Value)} {H : Nat → Nat → Nat} (h : VRecs w S m rs vss H) {b i : Nat} {cs : Array Value} {T' : TypeId} {u : Value} (hb : w.heap[b]? = some (.cells cs T' (0,0))) (hT : ¬ T' = 9) : VRecs (w.setCell ⟨b,i,none⟩ u) S m rs vss H :=
 h.keep (fun k cu _ q => Below.heap_setCell _ _ _ _ (fun e => by subst e;rw [hb] at q;cases q;exact hT rfl)) (fun _ _ s => s)
theorem KeptS.of_grown {S : Nat → Prop} {W w : World} {vb : Option Nat} (hg : W.grownBy w vb) (h : ∀ g,vb = some g → S g) : KeptS S W w:=⟨hg.os,hg.tape,hg.output,hg.size,fun k hk hn => hg.block k hk (fun e => hn (h k e.symm))⟩
theorem owns_slice {w : World} {base n m : Nat} {T : TypeId} {v : Value} {xs : List Value} (h : w.ownsRow base T m v n xs) : ∃ a l c,v = .slice a l c:=by
 rcases h.2 with ⟨rfl,_⟩ | ⟨g,cap,cur,rfl,_⟩
 ·exact ⟨_,_,_,rfl⟩
 ·exact ⟨_,_,_,rfl⟩
abbrev Cps (b : Nat) (X : World) : Nat → Prop:=fun k => k = b ∨ X.heap.size ≤ k
theorem cp_blk {X wr W w5 : World} {b3 k m : Nat} {T TC : TypeId} {v : Value} {xs : List Value} {cs : Array Value} (hO : wr.ownsRow X.heap.size T m v k xs) (hBo : wr.heap[b3]? = some (.cells cs TC (0,0))) (hb3 : b3 < X.heap.size) (hb : Below wr.heap.size wr W) (hg : W.grownBy w5 v.ownBlock) : w5.heap[b3]? = some (.cells cs TC (0,0)) :=
 (hg.block b3 (Nat.lt_of_lt_of_le (lt_of_some hBo) hb.size) (fun e => by have:=(hO.lt b3 e.symm).1;omega)).trans ((hb.block _ (lt_of_some hBo)).trans hBo)
theorem cp_step {X wr W w5 : World} {b3 k m f : Nat} {T TC : TypeId} {v v' : Value} {rs : List (List Fv)} {vss : List (List Value)} {H : Nat → Nat → Nat} {cs : Array Value} {r : List Fv} {vs : List Value} {hh : Nat} (hK : KeptS (Cps b3 X) X wr) (hO : wr.ownsRow X.heap.size T m v k vss.flatten) (hV : VRecs wr (fun k => X.heap.size ≤ k) m rs vss H) (hBo : wr.heap[b3]? = some (.cells cs TC (0,0))) (hb3 : b3 < X.heap.size)
  (hb : Below wr.heap.size wr W) (hown : w5.ownsRow X.heap.size T m v' (k + 1) (vss.flatten ++ vs)) (hg : W.grownBy w5 v.ownBlock) (hT : ¬ T = 9) (hTC : ¬ TC = T) (hTS : ¬ TC = 9) (hr : r.length = m) (hvs : vs.length = m) (hc : ∀ (i : Nat) f,r[i]? = some f → ∃ v,vs[i]? = some v ∧ f.Fr W hh (fun k => X.heap.size ≤ k) v) (hfr : ∀ (i : Nat) zs,r[i]? = some (.l zs) → zs ≠ [] → wr.heap.size ≤ hh)
  (h1 : ∀ (i i' : Nat) zs zs',r[i]? = some (.l zs) → zs ≠ [] → r[i']? = some (.l zs') → zs' ≠ [] → i = i') :
  KeptS (Cps b3 X) X (w5.setCell ⟨b3,f,none⟩ v') ∧ (w5.setCell ⟨b3,f,none⟩ v').ownsRow X.heap.size T m v' (k + 1) (vss ++ [vs]).flatten ∧ (∃ H',VRecs (w5.setCell ⟨b3,f,none⟩ v') (fun k => X.heap.size ≤ k) m (rs ++ [r]) (vss ++ [vs]) H') ∧ (w5.setCell ⟨b3,f,none⟩ v').heap[b3]? = some (.cells (cs.setIfInBounds f v') TC (0,0)):=by
 have hb5:=cp_blk hO hBo hb3 hb hg;refine ⟨?_,?_,⟨_,(hV.app hb (owns_below hO hb) hT hg hr hvs hc hfr h1).set hb5 hTS⟩,block_set hb5 v'⟩
 ·exact ((hK.trans (KeptS.of_below hb)).trans (KeptS.of_grown hg (fun g e => .inr (hO.lt g e).1))).set (.inl rfl)
 ·rw [List.flatten_append];refine owns_set ?_ hb5 hTC
  simpa using hown
structure ClFr (w : World) (d : Ad) (c : Cr) (S : Nat → Prop) : Prop where
 n : ROwn w d.a1 d.l1 d.c1 7 106 c.n S
 k : ROwn w d.a2 d.l2 d.c2 4 61 c.k S
 v : ROwn w d.a3 d.l3 d.c3 8 63 c.v S
 x : ROwn w d.a4 d.l4 d.c4 5 78 c.x S
 p : ROwn w d.a5 d.l5 d.c5 6 58 c.p S
def EmF (B : Nat) (T : TypeId) : Fact:=fun v w => ∃ b,v = .slice (some ⟨b,0,none⟩) 0 0 ∧ B ≤ b ∧ w.heap[b]? = some (.cells #[] T (0,0))
theorem EmF.mono (B : Nat) (T : TypeId) : Fact.Mono (EmF B T):=by
 rintro v w w' ⟨b,h1,h2,h3⟩ hb;exact ⟨b,h1,h2,(hb.block _ (lt_of_some h3)).trans h3⟩
def RwF (B len m : Nat) (T : TypeId) (rs : List (List Fv)) : Fact:=fun v w => ∃ a c,v = .slice a len c ∧ ROwn w a len c m T rs (fun k => B ≤ k)
theorem RwF.mono (B len m : Nat) (T : TypeId) (rs : List (List Fv)) : Fact.Mono (RwF B len m T rs):=by
 rintro v w w' ⟨a,c,h1,h2⟩ hb;exact ⟨a,c,h1,h2.below hb⟩
def CpF (B l2 l4 : Nat) (c : Cl) : Fact:=fun v w => ∃ a2 c2 a4 c4,v = .agg #[.slice none 0 0,.slice a2 l2 c2,.slice none 0 0,.slice a4 l4 c4,.slice none 0 0,.int .i64 c.now] ∧ ROwn w a2 l2 c2 4 61 (c.ks.map kdF) (fun k => B ≤ k) ∧ ROwn w a4 l4 c4 5 78 (c.xs.map xdF) (fun k => B ≤ k)
theorem CpF.mono (B l2 l4 : Nat) (c : Cl) : Fact.Mono (CpF B l2 l4 c):=by
 rintro v w w' ⟨a2,c2,a4,c4,h1,h2,h3⟩ hb;exact ⟨a2,c2,a4,c4,h1,h2.below hb,h3.below hb⟩
def FrF (B : Nat) : Fact:=fun v w => ∃ b,v = .pointer (some ⟨b,0,none⟩) ∧ B ≤ b ∧ w.heap[b]? = some (.cells #[.slice none 0 0,.slice none 0 0,.slice none 0 0,.slice none 0 0,.slice none 0 0,.int .i64 0] 36 (0,0))
theorem FrF.mono (B : Nat) : Fact.Mono (FrF B):=by
 rintro v w w' ⟨b,h1,h2,h3⟩ hb;exact ⟨b,h1,h2,(hb.block _ (lt_of_some h3)).trans h3⟩

def Rv (vb : Option Nat) (sp : Tmp) : Gi.Rs:=fun s w w' => match s with
 | none => w.grownBy w' vb
 | some t => if t = sp then w.grownBy w' vb else Below w.heap.size w w'
theorem grown_of_below {w w' : World} (vb : Option Nat) (h : Below w.heap.size w w') : w.grownBy w' vb:=⟨h.os,h.tape,h.output,h.size,fun k hk _ => h.block k hk⟩
theorem Rv.below {vb : Option Nat} {sp : Tmp} {s : Option Tmp} {w w' : World} (h : Rv vb sp s w w') (h1 : ¬ s = none) (h2 : ¬ s = some sp) : Below w.heap.size w w':=by
 cases s with
 | none => exact absurd rfl h1
 | some t =>
  simp only [Rv] at h;rw [if_neg (fun e => h2 (by rw [e]))] at h;exact h
theorem Rv.rel (vb : Option Nat) (sp : Tmp) : Gi.Rel (Rv vb sp) sp:=by
 refine ⟨fun w => grown_of_below vb (Below.refl _ _),fun {a b c} h k => ?_,fun h => World.grownBy.size h,fun w => grown_of_below vb (Below.refl _ _).drew,fun s {a b} h => ?_,fun s {a b} h1 h2 h => Rv.below h h1 h2⟩
 ·have h : World.grownBy a b vb:=h;have k : World.grownBy b c vb:=k;exact ⟨k.os.trans h.os,k.tape.trans h.tape,k.output.trans h.output,Nat.le_trans h.size k.size,fun i hi hn => (k.block i (Nat.lt_of_lt_of_le hi h.size) hn).trans (h.block i hi hn)⟩
 ·cases s with
  | none => exact h
  | some t =>
   show World.grownBy a b vb
   simp only [Rv] at h
   split at h
   ·exact h
   ·exact grown_of_below vb h
theorem Rv.other {vb : Option Nat} {sp t : Tmp} {w w' : World} (ht : ¬ t = sp) (h : Below w.heap.size w w') : Rv vb sp (some t) w w':=by
 show (if t = sp then w.grownBy w' vb else Below w.heap.size w w')
 rw [if_neg ht];exact h
theorem Rv.this {vb : Option Nat} {sp : Tmp} {w w' : World} (h : w.grownBy w' vb) : Rv vb sp (some sp) w w':=by
 show (if sp = sp then w.grownBy w' vb else Below w.heap.size w w')
 rw [if_pos rfl];exact h
theorem news_blk {w : World} {b : Nat} {vs : List Value} {T : TypeId} (h : w.heap[b]? = some (.cells vs.toArray T (0,0))) : ∀ (j : Nat) u,vs[j]? = some u → w.cell? ((⟨b,0,none⟩ : Addr).add j) = some u:=by
 intro j u hu;rw [Addr.add_lit,cellK h,Nat.zero_add]
 simpa using hu
def TvF (B : Nat) (x : Vd) : Gi.Fact:=fun u w _ _ => ∃ a l c,u = .agg #[.string x.n,.int .i64 x.c,.string x.z,.string x.k,.bool x.x,.string x.m,.bool x.y,.slice a l c] ∧ TOwn w a l c x.zs (fun k => B ≤ k)
def BsF (B : Nat) (x : Vd) : Gi.Fact:=fun u w _ _ => ∃ b a l c,u = .slice (some ⟨b,0,none⟩) 1 1 ∧ B ≤ b ∧ w.heap[b]? = some (.cells #[.string x.n,.int .i64 x.c,.string x.z,.string x.k,.bool x.x,.string x.m,.bool x.y,.slice a l c] 63 (0,0)) ∧ TOwn w a l c x.zs (fun k => B ≤ k)
def ApF (B k : Nat) (rs : List (List Fv)) (vss : List (List Value)) : Gi.Fact:=fun u w _ _ => ∃ H' vs,w.ownsRow B 63 8 u (k + 1) (vss ++ [vs]).flatten ∧ VRecs w (fun k => B ≤ k) 8 rs (vss ++ [vs]) H'
theorem TvF.mono {vb : Option Nat} {sp : Tmp} {ex : Gi.Ex} {d : Option Tmp} {B : Nat} {x : Vd} (hv : ∀ g,vb = some g → g < B) : Gi.Fact.Mono (Rv vb sp) ex d (TvF B x):=by
 rintro s _ _ _ v w w' l h ⟨a,l,c,h1,h2⟩ hb;have hb : w.grownBy w' vb:=(Rv.rel vb sp).sub s hb;exact ⟨a,l,c,h1,h2.keep (fun k hk s => hb.block k hk (fun e => by have s1 : B ≤ k:=s;have:=hv k e.symm;omega)) (fun _ _ s => s)⟩
theorem BsF.mono {vb : Option Nat} {sp : Tmp} {ex : Gi.Ex} {d : Option Tmp} {B : Nat} {x : Vd} (hv : ∀ g,vb = some g → g < B) : Gi.Fact.Mono (Rv vb sp) ex d (BsF B x):=by
 rintro s _ _ _ v w w' l h ⟨b,a,l,c,h1,h2,h3,h4⟩ hb;have hb : w.grownBy w' vb:=(Rv.rel vb sp).sub s hb;exact ⟨b,a,l,c,h1,h2,(hb.block _ (lt_of_some h3) (fun e => by have:=hv b e.symm;omega)).trans h3,h4.keep (fun k hk s => hb.block k hk (fun e => by have s1 : B ≤ k:=s;have:=hv k e.symm;omega)) (fun _ _ s => s)⟩
theorem ApF.mono {vb : Option Nat} {sp : Tmp} {ex : Gi.Ex} {B k : Nat} {rs : List (List Fv)} {vss : List (List Value)} : Gi.Fact.Mono (Rv vb sp) ex (some sp) (ApF B k rs vss):=by
 rintro s h1 h2 _ v w w' l h ⟨H',vs,h3,h4⟩ hb;have hb:=Rv.below hb h1 h2;exact ⟨H',vs,owns_below h3 hb,h4.below hb⟩

theorem scopyC_any (d : Ad) (c : Cl) (w : World) (hr : ClRow w d c.raw) (hs : Sm c) :
  Calls Tryz.prog 27 #[.agg #[.slice d.a1 d.l1 d.c1,.slice d.a2 d.l2 d.c2,.slice d.a3 d.l3 d.c3,.slice d.a4 d.l4 d.c4,.slice d.a5 d.l5 d.c5,.int .i64 c.now]] w fun e w' => ∃ d',e = .returned (.agg #[.slice d'.a1 d'.l1 d'.c1,.slice d'.a2 d'.l2 d'.c2,.slice d'.a3 d'.l3 d'.c3,.slice d'.a4 d'.l4 d'.c4,.slice d'.a5 d'.l5 d'.c5,.int .i64 c.now]) ∧ ClFr w' d' c.raw (fun k => w.heap.size ≤ k) ∧ Below w.heap.size w w':=by
 obtain ⟨a1,l1,y1,a2,l2,y2,a3,l3,y3,a4,l4,y4,a5,l5,y5⟩:=d;dsimp only;have HR:=hidK hr
 have hl1 : c.ns.length = l1:=by simpa using (show (c.ns.map ndF).length = l1 from hr.n.1)
 have hm1 : l1 ≤ 9223372036854775807:=Nat.le_trans hr.n.2.1 hr.n.2.2.1
 have hl2 : c.ks.length = l2:=by simpa using (show (c.ks.map kdF).length = l2 from hr.k.1)
 have hm2 : l2 ≤ 9223372036854775807:=Nat.le_trans hr.k.2.1 hr.k.2.2.1
 have hl3 : c.vs.length = l3:=by simpa using (show (c.vs.map vdF).length = l3 from hr.v.1)
 have hm3 : l3 ≤ 9223372036854775807:=Nat.le_trans hr.v.2.1 hr.v.2.2.1
 have hl4 : c.xs.length = l4:=by simpa using (show (c.xs.map xdF).length = l4 from hr.x.1)
 have hm4 : l4 ≤ 9223372036854775807:=Nat.le_trans hr.x.2.1 hr.x.2.2.1
 have hl5 : c.ps.length = l5:=by simpa using (show (c.ps.map pdF).length = l5 from hr.p.1)
 have hm5 : l5 ≤ 9223372036854775807:=Nat.le_trans hr.p.2.1 hr.p.2.2.1;clear hr;have HS:=hidK hs;clear hs;obtain ⟨i2,hi2⟩:=Option.map_eq_some_iff.1 infokd;obtain ⟨i4,hi4⟩:=Option.map_eq_some_iff.1 infoxd;obtain ⟨i1,hi1⟩:=Option.map_eq_some_iff.1 infond;obtain ⟨i3,hi3⟩:=Option.map_eq_some_iff.1 infovd;obtain ⟨i5,hi5⟩:=Option.map_eq_some_iff.1 infopd;have HI1:=hidK hi1;have HI2:=hidK hi2;have HI3:=hidK hi3;have HI4:=hidK hi4;have HI5:=hidK hi5;clear hi1 hi2 hi3 hi4 hi5;obtain ⟨W,hW0⟩ : ∃ W,W = (w.alloc (.cells #[.slice a1 l1 y1,.slice a2 l2 y2,.slice a3 l3 y3,.slice a4 l4 y4,.slice a5 l5 y5,.int .i64 c.now] 36)).alloc (.cells #[.slice none 0 0,.slice none 0 0,.slice none 0 0,.slice none 0 0,.slice none 0 0,.int .i64 0] 36):=⟨_,rfl⟩
 have HB : Hid (Below w.heap.size w W):=by rw [hW0];exact below2 _ _ _
 have Bk : Hid (W.heap[w.heap.size]? = some (.cells #[.slice a1 l1 y1,.slice a2 l2 y2,.slice a3 l3 y3,.slice a4 l4 y4,.slice a5 l5 y5,.int .i64 c.now] 36 (0,0))):=by rw [hW0];exact heap2_0 _ _ _
 have Br : Hid (W.heap[w.heap.size + 1]? = some (.cells #[.slice none 0 0,.slice none 0 0,.slice none 0 0,.slice none 0 0,.slice none 0 0,.int .i64 0] 36 (0,0))):=by rw [hW0];exact heap2_1 _ _ _
 have hWs : W.heap.size = w.heap.size + 1 + 1:=by rw [hW0];simp
 go_enter Tryz.func27,Tryz.ntmps27
 go_wp2_with fail;rw [← hW0];clear hW0;rename_i K0 hK0;refine wp_region_grow_last (by kernel_rfl) rfl rfl (by kernel_rfl) ?_;refine Grow.step (EmF W.heap.size 61) rfl (EmF.mono _ _) ?_ ?_
 ·refine Obl.plain rfl ?_;intro ac wg K hsz hW hf hK;clear hsz;clear hf;go_simp;exact hK _ _ (below1 _ _) ⟨_,rfl,hW.size,Array.getElem?_push_size⟩
 refine' Grow.stepC _ rfl ?_ ?_;rotate_left 1
 ·refine Obl.plain rfl ?_;intro ac wg K hsz hW hf hK;clear hsz;have e1:=hf 1 (by decide)
  simp [slotFact,List.lookup] at e1
  clear hf;go_simp;refine hK _ _ (Below.refl _ _) ?_;with_reducible rfl
 refine' Grow.stepC _ rfl ?_ ?_;rotate_left 1
 ·refine Obl.plain rfl ?_;intro ac wg K hsz hW hf hK;clear hsz;have e10:=hf 10 (by decide)
  simp [slotFact,List.lookup] at e10
  clear hf;obtain ⟨k0,k1,k2,k3,k4,k5⟩:=cs6 ((hW.block _ (lt_of_some Bk.out)).trans Bk.out);go_simp;refine hK _ _ (Below.refl _ _) ?_;with_reducible rfl
 refine Grow.step (RwF W.heap.size l2 4 61 (c.ks.map kdF)) rfl (RwF.mono _ _ _ _ _) ?_ ?_
 ·refine Obl.plain rfl ?_;intro ac wg K hsz hW hf hK;clear hsz;have e9:=hf 9 (by decide)
  simp [slotFact,List.lookup] at e9
  have e11:=hf 11 (by decide)
  simp [slotFact,List.lookup] at e11
  clear hf;obtain ⟨b0,e9,hB0,hg0⟩:=e9
  have hz : i2.zero = some (.agg #[.string ⟨#[]⟩,.bool false,.bool false,.string ⟨#[]⟩]) ∧ i2.size = 4 ∧ i2.bytes = 40:=by have:=HI2.out.2;simp only [Prod.mk.injEq] at this;exact this
  refine wp_copy0 (.tmp 9) (.tmp 11) 31 61 rfl i2 (.agg #[.string ⟨#[]⟩,.bool false,.bool false,.string ⟨#[]⟩]) Tryz.underlying31 HI2.out.1 hz.1 hz.2.1 hz.2.2 rfl (by decide) (by decide) (by simpa [Act.eval] using e9) hg0 (by simpa [Act.eval] using e11) (HR.out.k.below (HB.out.trans (hW.mono HB.out.size))) (map_flat kd_flat _) (show l2 ≤ 8 by have:=HS.out.k;omega) (by decide) ?_;intro a' c' w' hR hb6;have hsw:=hW.size
  exact hK _ _ hb6 ⟨a',c',rfl,hR.into (fun k _ s => by show W.heap.size ≤ k;rcases s with rfl | s <;> omega)⟩
 refine Grow.step (EmF W.heap.size 78) rfl (EmF.mono _ _) ?_ ?_
 ·refine Obl.plain rfl ?_;intro ac wg K hsz hW hf hK;clear hsz;clear hf;go_simp;exact hK _ _ (below1 _ _) ⟨_,rfl,hW.size,Array.getElem?_push_size⟩
 refine' Grow.stepC _ rfl ?_ ?_;rotate_left 1
 ·refine Obl.plain rfl ?_;intro ac wg K hsz hW hf hK;clear hsz;have e1:=hf 1 (by decide)
  simp [slotFact,List.lookup] at e1
  clear hf;go_simp;refine hK _ _ (Below.refl _ _) ?_;with_reducible rfl
 refine' Grow.stepC _ rfl ?_ ?_;rotate_left 1
 ·refine Obl.plain rfl ?_;intro ac wg K hsz hW hf hK;clear hsz;have e14:=hf 14 (by decide)
  simp [slotFact,List.lookup] at e14
  clear hf;obtain ⟨k0,k1,k2,k3,k4,k5⟩:=cs6 ((hW.block _ (lt_of_some Bk.out)).trans Bk.out);go_simp;refine hK _ _ (Below.refl _ _) ?_;with_reducible rfl
 refine Grow.step (RwF W.heap.size l4 5 78 (c.xs.map xdF)) rfl (RwF.mono _ _ _ _ _) ?_ ?_
 ·refine Obl.plain rfl ?_;intro ac wg K hsz hW hf hK;clear hsz;have e13:=hf 13 (by decide)
  simp [slotFact,List.lookup] at e13
  have e15:=hf 15 (by decide)
  simp [slotFact,List.lookup] at e15
  clear hf;obtain ⟨b0,e13,hB0,hg0⟩:=e13
  have hz : i4.zero = some (.agg #[.string ⟨#[]⟩,.int .i64 0,.string ⟨#[]⟩,.bool false,.string ⟨#[]⟩]) ∧ i4.size = 5 ∧ i4.bytes = 64:=by have:=HI4.out.2;simp only [Prod.mk.injEq] at this;exact this
  refine wp_copy0 (.tmp 13) (.tmp 15) 33 78 rfl i4 (.agg #[.string ⟨#[]⟩,.int .i64 0,.string ⟨#[]⟩,.bool false,.string ⟨#[]⟩]) Tryz.underlying33 HI4.out.1 hz.1 hz.2.1 hz.2.2 rfl (by decide) (by decide) (by simpa [Act.eval] using e13) hg0 (by simpa [Act.eval] using e15) (HR.out.x.below (HB.out.trans (hW.mono HB.out.size))) (map_flat xd_flat _) (show l4 ≤ 8 by have:=HS.out.x;omega) (by decide) ?_;intro a' c' w' hR hb6;have hsw:=hW.size
  exact hK _ _ hb6 ⟨a',c',rfl,hR.into (fun k _ s => by show W.heap.size ≤ k;rcases s with rfl | s <;> omega)⟩
 refine' Grow.stepC _ rfl ?_ ?_;rotate_left 1
 ·refine Obl.plain rfl ?_;intro ac wg K hsz hW hf hK;clear hsz;have e1:=hf 1 (by decide)
  simp [slotFact,List.lookup] at e1
  clear hf;go_simp;refine hK _ _ (Below.refl _ _) ?_;with_reducible rfl
 refine' Grow.stepC _ rfl ?_ ?_;rotate_left 1
 ·refine Obl.plain rfl ?_;intro ac wg K hsz hW hf hK;clear hsz;have e17:=hf 17 (by decide)
  simp [slotFact,List.lookup] at e17
  clear hf;obtain ⟨k0,k1,k2,k3,k4,k5⟩:=cs6 ((hW.block _ (lt_of_some Bk.out)).trans Bk.out);go_simp;refine hK _ _ (Below.refl _ _) ?_;with_reducible rfl
 refine Grow.step (CpF W.heap.size l2 l4 c) rfl (CpF.mono _ _ _ _) ?_ ?_
 ·refine Obl.plain rfl ?_;intro ac wg K hsz hW hf hK;clear hsz;have e12:=hf 12 (by decide)
  simp [slotFact,List.lookup] at e12
  have e16:=hf 16 (by decide)
  simp [slotFact,List.lookup] at e16
  have e18:=hf 18 (by decide)
  simp [slotFact,List.lookup] at e18
  clear hf;obtain ⟨p2,q2,e12,h12⟩:=e12;obtain ⟨p4,q4,e16,h16⟩:=e16;have H12:=hidK h12;have H16:=hidK h16;clear h12 h16;go_simp;exact hK _ _ (Below.refl _ _) ⟨p2,q2,p4,q4,rfl,H12.out,H16.out⟩
 refine Grow.step (FrF W.heap.size) rfl (FrF.mono _) ?_ ?_
 ·refine Obl.plain rfl ?_;intro ac wg K hsz hW hf hK;clear hsz;clear hf;go_simp;exact hK _ _ (below1 _ _) ⟨_,rfl,hW.size,Array.getElem?_push_size⟩
 refine Grow.done ?_;intro q wz hW hf;simp only [List.forall_mem_cons] at hf;obtain ⟨⟨b3,h3,hb3,hg3⟩,⟨p2,q2,p4,q4,h19,hR2,hR4⟩,-⟩:=hf;obtain ⟨t0,t1,t2,t3,t4,t5⟩:=cs6 hg3;have f0:=froK hg3 0;have f1:=froK hg3 1;have f2:=froK hg3 2;have f3:=froK hg3 3;have f4:=froK hg3 4;have f5:=froK hg3 5;have BoX:=hidK (put6 (v0:=.slice none 0 0) (v1:=.slice p2 l2 q2) (v2:=.slice none 0 0) (v3:=.slice p4 l4 q4) (v4:=.slice none 0 0) (v5:=.int .i64 c.now) hg3);have HWX : Hid (Below W.heap.size W ((((((wz.setCell ⟨b3,0,none⟩ (.slice none 0 0)).setCell ⟨b3,1,none⟩ (.slice p2 l2 q2)).setCell ⟨b3,2,none⟩ (.slice none 0 0)).setCell ⟨b3,3,none⟩ (.slice p4 l4 q4)).setCell ⟨b3,4,none⟩ (.slice none 0 0)).setCell ⟨b3,5,none⟩ (.int .i64 c.now))):=set_below hb3 (set_below hb3 (set_below hb3 (set_below hb3 (set_below hb3 (set_below hb3 hW)))));have R2 : Hid (ROwn ((((((wz.setCell ⟨b3,0,none⟩ (.slice none 0 0)).setCell ⟨b3,1,none⟩ (.slice p2 l2 q2)).setCell ⟨b3,2,none⟩ (.slice none 0 0)).setCell ⟨b3,3,none⟩ (.slice p4 l4 q4)).setCell ⟨b3,4,none⟩ (.slice none 0 0)).setCell ⟨b3,5,none⟩ (.int .i64 c.now)) p2 l2 q2 4 61 (c.ks.map kdF) (fun k => W.heap.size ≤ k ∧ ¬ k = b3)):=(hR2.away hg3 (by decide) (by decide)).keep (fun k hk s => put6_ne s.2) (fun k _ s => s);have R4 : Hid (ROwn ((((((wz.setCell ⟨b3,0,none⟩ (.slice none 0 0)).setCell ⟨b3,1,none⟩ (.slice p2 l2 q2)).setCell ⟨b3,2,none⟩ (.slice none 0 0)).setCell ⟨b3,3,none⟩ (.slice p4 l4 q4)).setCell ⟨b3,4,none⟩ (.slice none 0 0)).setCell ⟨b3,5,none⟩ (.int .i64 c.now)) p4 l4 q4 5 78 (c.xs.map xdF) (fun k => W.heap.size ≤ k ∧ ¬ k = b3)):=(hR4.away hg3 (by decide) (by decide)).keep (fun k hk s => put6_ne s.2) (fun k _ s => s);clear hg3 hR2 hR4 hW;intro K hK;rw [if_pos (by rfl)];simp only [putsAll,List.foldr,Act.put,List.setIfInBounds_toArray,List.set_cons_zero,List.set_cons_succ,h3,h19];simp only [List.getLast];go_simp;refine hK _ _ ?_
 refine hK0 _ _ ?_;clear hK hK0 K K0
 generalize ((((((wz.setCell ⟨b3,0,none⟩ (.slice none 0 0)).setCell ⟨b3,1,none⟩ (.slice p2 l2 q2)).setCell ⟨b3,2,none⟩ (.slice none 0 0)).setCell ⟨b3,3,none⟩ (.slice p4 l4 q4)).setCell ⟨b3,4,none⟩ (.slice none 0 0)).setCell ⟨b3,5,none⟩ (.int .i64 c.now)) = X at BoX HWX R2 R4 ⊢
 clear t0 t1 t2 t3 t4 t5 f0 f1 f2 f3 f4 f5;have HBX:=hidK (HB.out.trans (HWX.out.mono HB.out.size));replace Bk:=hidK ((HWX.out.block _ (lt_of_some Bk.out)).trans Bk.out);replace Br:=hidK ((HWX.out.block _ (lt_of_some Br.out)).trans Br.out);have hb3X : b3 < X.heap.size:=lt_of_some BoX.out;clear HB
 go_wp2
 go_loopw [4] (fun vi wr => ∃ (k : Nat) (vss : List (List Value)) (H : Nat → Nat → Nat) (v : Value),k ≤ l1 ∧ vi = .int .i64 k ∧ Hid (KeptS (Cps b3 X) X wr) ∧ Hid (wr.ownsRow X.heap.size 106 7 v k vss.flatten) ∧ Hid (VRecs wr (fun k => X.heap.size ≤ k) 7 ((c.ns.take k).map ndF) vss H) ∧ Hid (wr.heap[b3]? = some (.cells #[v,.slice p2 l2 q2,.slice none 0 0,.slice p4 l4 q4,.slice none 0 0,.int .i64 c.now] 36 (0,0)))) (fun vi _ => l1 - (intOf vi).toNat)
 case atStart => exact ⟨0,[],fun _ _ => 0,.slice none 0 0,by omega,rfl,KeptS.refl _ _,World.ownsRow_nil _ _ _ _,VRecs.nil _ _ _ _,BoX⟩
 case round =>
  obtain ⟨k,vss,H,v,hk,rfl,HK,HO,HV,Bo⟩:=hrel;have hXs:=HBX.out.size
  have HBW:=hidK (HBX.out.trans (HK.out.low (X:=w.heap.size) hXs (fun k s => by rcases s with rfl | s <;> omega)))
  have BkR:=hidK ((HK.out.block w.heap.size (by omega) (fun s => by rcases s with s | s <;> omega)).trans Bk.out)
  have hKs:=HK.out.size
  by_cases hlt : k < l1
  ·obtain ⟨b,o,x,rfl,hb0,hx,hat⟩:=nd_at HR.out.n hlt;obtain ⟨va,vl,vc,hvr,z0,z1,c0,c1,c2,c3,c4,c5,c6⟩:=nd_cells hat
   have hz8 : vl ≤ 8001:=by have h1:=hvr.1;have h2:=HS.out.ns k x hx;omega
   have HX:=hidK hx;have HT:=hidK hvr;have HZz0:=hidK z0;have HZz1:=hidK z1;clear hat hx hvr z0 z1;replace c0:=(cell_below HBW.out hb0).trans c0;replace c1:=(cell_below HBW.out hb0).trans c1;replace c2:=(cell_below HBW.out hb0).trans c2;replace c3:=(cell_below HBW.out hb0).trans c3;replace c4:=(cell_below HBW.out hb0).trans c4;replace c5:=(cell_below HBW.out hb0).trans c5;replace c6:=(cell_below HBW.out hb0).trans c6;have hbr : b < wr.heap.size:=Nat.lt_of_lt_of_le hb0 HBW.out.size;have hkr:=lt_of_some BkR.out;have hor:=lt_of_some Bo.out
   have hz : i1.zero = some (.agg #[.string ⟨#[]⟩,.string ⟨#[]⟩,.int .i64 0,.int .i64 0,.int .i64 0,.bool false,.slice none 0 0]) ∧ i1.size = 7 ∧ i1.bytes = 88:=by have:=HI1.out.2;simp only [Prod.mk.injEq] at this;exact this
   obtain ⟨k0,k1,k2,k3,k4,k5⟩:=cs6 BkR.out
   go_wp2_with (first | (at_builtin;refine wpList_texts rfl _ _ rfl (wr.heap.size + 1) rfl (heap2_1 _ _ _) va vl vc rfl x.zs (HT.out.below (HBW.out.trans ((below2 _ _ _).mono HBW.out.size))) hz8 ?_))
   intro a' l' c' w2 hT2 hb2;obtain ⟨hn2,-,hbx⟩:=slots2n hb2;obtain ⟨g,hg⟩:=hT2.fr
   have hs2 : wr.heap.size + 1 < w2.heap.size:=by have:=hb2.size;simp at this;omega
   have hsl : ∀ k,(k = wr.heap.size + 1 ∨ wr.heap.size + 1 + 1 ≤ k) → wr.heap.size + 1 ≤ k:=fun k s => by omega
   have hb4 : Below wr.heap.size wr ((w2.setCell ⟨wr.heap.size,6,none⟩ (.slice a' l' c')).alloc (.cells #[.string x.n,.string x.z,.int .i64 x.c,.int .i64 x.s,.int .i64 x.u,.bool x.d,.slice a' l' c'] 106)):=(set_below (Nat.le_refl _) hbx).alloc (by simp [World.setCell];omega) _;have HF4 : Hid (LFr ((w2.setCell ⟨wr.heap.size,6,none⟩ (.slice a' l' c')).alloc (.cells #[.string x.n,.string x.z,.int .i64 x.c,.int .i64 x.s,.int .i64 x.u,.bool x.d,.slice a' l' c'] 106)) g (fun k => X.heap.size ≤ k) x.zs (.slice a' l' c')):=hg.keep (fun cu _ q => (Below.heap_alloc _ _ _ (by simp [World.setCell];exact lt_of_some q)).trans (Below.heap_setCell _ _ _ _ (fun e => by subst e;rw [hn2] at q;cases q))) (fun _ s => by have:=hsl _ s;show X.heap.size ≤ g;omega)
   have HG : Hid (∀ zs : List ByteArray,x.zs = zs → zs ≠ [] → wr.heap.size ≤ g):=fun zs e hz => by subst e;have:=hsl _ (hg.lt hz).1;omega
   have HB4:=hidK hb4;have HO4:=hidK (owns_below HO.out hb4);obtain ⟨n0,n1,n2,n3,n4,n5,n6⟩:=cs7 hn2;have fn0:=froK hn2 0;have fn1:=froK hn2 1;have fn2:=froK hn2 2;have fn3:=froK hn2 3;have fn4:=froK hn2 4;have fn5:=froK hn2 5;have fn6:=froK hn2 6;have bo2:=(hbx.block _ hor).trans Bo.out;obtain ⟨o0,o1,o2,o3,o4,o5⟩:=cs6 bo2;have hor2 : b3 < w2.heap.size:=lt_of_some bo2
   have hne3 : ¬ b3 = wr.heap.size:=by omega
   clear hn2 hbx hT2 hg hb2 hsl hb4 bo2 k0 k1 k2 k3 k4 k5 c0 c1 c2 c3 c4 c5 c6
   go_wp2_with (first | (at_builtin;refine wpList_append_own _ rfl _ _ 30 rfl X.heap.size 106 i1 (.agg #[.string ⟨#[]⟩,.string ⟨#[]⟩,.int .i64 0,.int .i64 0,.int .i64 0,.bool false,.slice none 0 0]) 7 88 Tryz.underlying30 HI1.out.1 hz.1 hz.2.1 hz.2.2 rfl (by decide) _ _ _ rfl HO4.out ⟨w2.heap.size,0,none⟩ 1 1 [.string x.n,.string x.z,.int .i64 x.c,.int .i64 x.s,.int .i64 x.u,.bool x.d,.slice a' l' c'] rfl rfl ?c1 ?c2 ?c3 ?c4 ?c5 ?_))
   case c1 => exact news_alloc_at _ _ (by simp [World.setCell]) _ _
   case c2 => intro u hu;simp only [List.mem_cons,List.not_mem_nil,or_false] at hu;rcases hu with rfl | rfl | rfl | rfl | rfl | rfl | rfl <;> rfl
   case c3 => unfold maxLen;have:=HS.out.n;omega
   case c4 => have:=HS.out.n;omega
   case c5 => simp [World.setCell];omega
   rintro v' w5 hown5 hgrow -;obtain ⟨v1',v2',v3',rfl⟩:=owns_slice hown5;clear n0 fn0 n1 fn1 n2 fn2 n3 fn3 n4 fn4 n5 fn5 n6 fn6 o0 o1 o2 o3 o4 o5;have bo5:=cp_blk HO.out Bo.out hb3X HB4.out hgrow;obtain ⟨hs1,hs2',⟨H',hs3⟩,hs4⟩:=cp_step (f:=0) (r:=ndF x) (vs:=[.string x.n,.string x.z,.int .i64 x.c,.int .i64 x.s,.int .i64 x.u,.bool x.d,.slice a' l' c']) (hh:=g) HK.out HO.out HV.out Bo.out hb3X HB4.out hown5 hgrow (by decide) (by decide) (by decide) rfl rfl (nd_fr HZz0.out HZz1.out HF4.out) (fun i zs hi hz => HG.out zs (nd_l hi).2.symm hz) (fun i i' zs zs' h1 _ h2 _ => (nd_l h1).1.trans (nd_l h2).1.symm)
   have e1 : (c.ns.take (k + 1)).map ndF = (c.ns.take k).map ndF ++ [ndF x]:=by rw [List.take_add_one,HX.out];simp
   rw [← e1] at hs3;have HS1:=hidK hs1;have HS2:=hidK hs2';have HS3:=hidK hs3;have HS4:=hidK hs4;obtain ⟨o0,o1,o2,o3,o4,o5⟩:=cs6 bo5;have fo0:=froK bo5 0;have fo1:=froK bo5 1;have fo2:=froK bo5 2;have fo3:=froK bo5 3;have fo4:=froK bo5 4;have fo5:=froK bo5 5;clear hs1 hs2' hs3 hs4 bo5 hown5 hgrow e1
   go_wp2
   exact ⟨⟨k + 1,_,H',_,by omega,by go_num,HS1,HS2,HS3,HS4⟩,by simp [intOf];omega⟩
  ·have hkl : k = l1:=by omega
   have h5:=HV.out;rw [List.take_of_length_le (by omega)] at h5;obtain ⟨p1,q1,hv,hR⟩:=h5.own HO.out (by simp;omega) (by decide) (fun g hg => (HO.out.lt g hg).1)
   have hl5 : (c.ns.map ndF).length = l1:=by simpa using hl1
   rw [hl5] at hv hR;subst hv;have R1:=hidK (hR.away Bo.out (by decide) (by decide))
   replace R2:=hidK (R2.out.keep (fun k hk s => HK.out.block k hk (fun q9 => by rcases q9 with q9 | q9;exact s.2 q9;omega)) (fun _ _ s => s))
   replace R4:=hidK (R4.out.keep (fun k hk s => HK.out.block k hk (fun q9 => by rcases q9 with q9 | q9;exact s.2 q9;omega)) (fun _ _ s => s))
   replace Br:=hidK ((HK.out.block (w.heap.size + 1) (by omega) (fun s => by rcases s with s | s <;> omega)).trans Br.out)
   replace Bk:=BkR;replace BoX:=Bo;replace HBX:=HBW;have hb3X1 : b3 < wr.heap.size:=lt_of_some BoX.out;clear BkR Bo HBW h5 hR HV HO HK hl5 hkl hk hKs hXs
   generalize wr = X1 at *
   obtain ⟨k0,k1,k2,k3,k4,k5⟩:=cs6 Bk.out
   go_wp2
   clear k0 k1 k2 k3 k4 k5 hlt
   go_loopw [6] (fun vi wr => ∃ (k : Nat) (vss : List (List Value)) (H : Nat → Nat → Nat) (v : Value),k ≤ l3 ∧ vi = .int .i64 k ∧ Hid (KeptS (Cps b3 X1) X1 wr) ∧ Hid (wr.ownsRow X1.heap.size 63 8 v k vss.flatten) ∧ Hid (VRecs wr (fun k => X1.heap.size ≤ k) 8 ((c.vs.take k).map vdF) vss H) ∧ Hid (wr.heap[b3]? = some (.cells #[.slice p1 l1 q1,.slice p2 l2 q2,v,.slice p4 l4 q4,.slice none 0 0,.int .i64 c.now] 36 (0,0)))) (fun vi _ => l3 - (intOf vi).toNat)
   case atStart => exact ⟨0,[],fun _ _ => 0,.slice none 0 0,by omega,rfl,KeptS.refl _ _,World.ownsRow_nil _ _ _ _,VRecs.nil _ _ _ _,BoX⟩
   case round =>
    obtain ⟨k,vss,H,v,hk,rfl,HK,HO,HV,Bo⟩:=hrel;have hXs:=HBX.out.size
    have HBW:=hidK (HBX.out.trans (HK.out.low (X:=w.heap.size) hXs (fun k s => by rcases s with rfl | s <;> omega)))
    have BkR:=hidK ((HK.out.block w.heap.size (by omega) (fun s => by rcases s with s | s <;> omega)).trans Bk.out)
    have hKs:=HK.out.size
    by_cases hlt : k < l3
    ·obtain ⟨b,o,x,rfl,hb0,hx,hat⟩:=vd_at HR.out.v hlt;obtain ⟨va,vl,vc,hvr,z0,z2,z3,z5,c0,c1,c2,c3,c4,c5,c6,c7⟩:=vd_cells hat
     have hz8 : vl ≤ 8001:=by have h1:=hvr.1;have h2:=HS.out.vs k x hx;omega
     have HX:=hidK hx;have HT:=hidK hvr;have HZz0:=hidK z0;have HZz2:=hidK z2;have HZz3:=hidK z3;have HZz5:=hidK z5;clear hat hx hvr z0 z2 z3 z5;replace c0:=(cell_below HBW.out hb0).trans c0;replace c1:=(cell_below HBW.out hb0).trans c1;replace c2:=(cell_below HBW.out hb0).trans c2;replace c3:=(cell_below HBW.out hb0).trans c3;replace c4:=(cell_below HBW.out hb0).trans c4;replace c5:=(cell_below HBW.out hb0).trans c5;replace c6:=(cell_below HBW.out hb0).trans c6;replace c7:=(cell_below HBW.out hb0).trans c7;have hbr : b < wr.heap.size:=Nat.lt_of_lt_of_le hb0 HBW.out.size;have hkr:=lt_of_some BkR.out;have hor:=lt_of_some Bo.out
     have hz : i3.zero = some (.agg #[.string ⟨#[]⟩,.int .i64 0,.string ⟨#[]⟩,.string ⟨#[]⟩,.bool false,.string ⟨#[]⟩,.bool false,.slice none 0 0]) ∧ i3.size = 8 ∧ i3.bytes = 112:=by have:=HI3.out.2;simp only [Prod.mk.injEq] at this;exact this
     obtain ⟨k0,k1,k2,k3,k4,k5⟩:=cs6 BkR.out;have hvb : ∀ g,v.ownBlock = some g → g < wr.heap.size:=fun g hg => (HO.out.lt g hg).2;have hb0w : b < w.heap.size:=hb0;go_wp2_with fail;clear k0 k1 k2 k3 k4 k5;rename_i K0 hK0;refine Gi.wp_region_grow_last (R:=Rv v.ownBlock 59) (ex:=fun _ => none) (Rv.rel _ _) (by kernel_rfl) rfl rfl (by kernel_rfl) (by kernel_rfl) ?_;refine' Gi.Grow.stepC _ rfl ?_ ?_;rotate_left 1
     ·refine Gi.Obl.plain rfl ?_;intro ac wg K lo hi hsz hW hpr hf hap hK;clear hsz hap hpr;have hW : wr.grownBy wg v.ownBlock:=hW;have e3:=hf 3 (by decide)
      simp [Gi.slotFact,List.lookup] at e3
      clear hf;go_simp;refine hK _ _ (Rv.other (by decide) (Below.refl _ _)) ?_;with_reducible rfl
     refine' Gi.Grow.stepC _ rfl ?_ ?_;rotate_left 1
     ·refine Gi.Obl.plain rfl ?_;intro ac wg K lo hi hsz hW hpr hf hap hK;clear hsz hap hpr;have hW : wr.grownBy wg v.ownBlock:=hW;have e50:=hf 50 (by decide)
      simp [Gi.slotFact,List.lookup] at e50
      clear hf;obtain ⟨o0,o1,o2,o3,o4,o5⟩:=cs6 ((hW.block b3 hor (fun e => by have:=(HO.out.lt _ e.symm).1;omega)).trans Bo.out);go_simp;refine hK _ _ (Rv.other (by decide) (Below.refl _ _)) ?_;with_reducible rfl
     refine' Gi.Grow.stepC _ rfl ?_ ?_;rotate_left 1
     ·refine Gi.Obl.plain rfl ?_;intro ac wg K lo hi hsz hW hpr hf hap hK;clear hsz hap hpr;have hW : wr.grownBy wg v.ownBlock:=hW;have e1:=hf 1 (by decide)
      simp [Gi.slotFact,List.lookup] at e1
      clear hf;go_simp;refine hK _ _ (Rv.other (by decide) (Below.refl _ _)) ?_;with_reducible rfl
     refine' Gi.Grow.stepC _ rfl ?_ ?_;rotate_left 1
     ·refine Gi.Obl.plain rfl ?_;intro ac wg K lo hi hsz hW hpr hf hap hK;clear hsz hap hpr;have hW : wr.grownBy wg v.ownBlock:=hW;have e52:=hf 52 (by decide)
      simp [Gi.slotFact,List.lookup] at e52
      clear hf;obtain ⟨k0,k1,k2,k3,k4,k5⟩:=cs6 ((hW.block w.heap.size hkr (fun e => by have:=(HO.out.lt _ e.symm).1;omega)).trans BkR.out);go_simp;refine hK _ _ (Rv.other (by decide) (Below.refl _ _)) ?_;with_reducible rfl
     refine' Gi.Grow.stepC _ rfl ?_ ?_;rotate_left 1
     ·refine Gi.Obl.plain rfl ?_;intro ac wg K lo hi hsz hW hpr hf hap hK;clear hsz hap hpr;have hW : wr.grownBy wg v.ownBlock:=hW;have e6:=hf 6 (by decide)
      simp [Gi.slotFact,List.lookup] at e6
      clear hf;go_simp;refine hK _ _ (Rv.other (by decide) (Below.refl _ _)) ?_;with_reducible rfl
     refine' Gi.Grow.stepC _ rfl ?_ ?_;rotate_left 1
     ·refine Gi.Obl.plain rfl ?_;intro ac wg K lo hi hsz hW hpr hf hap hK;clear hsz hap hpr;have hW : wr.grownBy wg v.ownBlock:=hW;have e53:=hf 53 (by decide)
      simp [Gi.slotFact,List.lookup] at e53
      have e54:=hf 54 (by decide)
      simp [Gi.slotFact,List.lookup] at e54
      clear hf;go_simp;refine hK _ _ (Rv.other (by decide) (Below.refl _ _)) ?_;with_reducible rfl
     refine' Gi.Grow.stepC _ rfl ?_ ?_;rotate_left 1
     ·refine Gi.Obl.plain rfl ?_;intro ac wg K lo hi hsz hW hpr hf hap hK;clear hsz hap hpr;have hW : wr.grownBy wg v.ownBlock:=hW;have e55:=hf 55 (by decide)
      simp [Gi.slotFact,List.lookup] at e55
      clear hf;have c0g:=(World.cell?_of_block (hW.block b hbr (fun e => by have:=(HO.out.lt _ e.symm).1;omega))).trans c0;have c1g:=(World.cell?_of_block (hW.block b hbr (fun e => by have:=(HO.out.lt _ e.symm).1;omega))).trans c1;have c2g:=(World.cell?_of_block (hW.block b hbr (fun e => by have:=(HO.out.lt _ e.symm).1;omega))).trans c2;have c3g:=(World.cell?_of_block (hW.block b hbr (fun e => by have:=(HO.out.lt _ e.symm).1;omega))).trans c3;have c4g:=(World.cell?_of_block (hW.block b hbr (fun e => by have:=(HO.out.lt _ e.symm).1;omega))).trans c4;have c5g:=(World.cell?_of_block (hW.block b hbr (fun e => by have:=(HO.out.lt _ e.symm).1;omega))).trans c5;have c6g:=(World.cell?_of_block (hW.block b hbr (fun e => by have:=(HO.out.lt _ e.symm).1;omega))).trans c6;have c7g:=(World.cell?_of_block (hW.block b hbr (fun e => by have:=(HO.out.lt _ e.symm).1;omega))).trans c7;go_simp;refine hK _ _ (Rv.other (by decide) (Below.refl _ _)) ?_;with_reducible rfl
     refine Gi.Grow.step (TvF wr.heap.size x) rfl (TvF.mono hvb) ?_ ?_
     ·refine Gi.Obl.plain rfl ?_;intro ac wg K lo hi hsz hW hpr hf hap hK;clear hsz hap hpr;have hW : wr.grownBy wg v.ownBlock:=hW;have e56:=hf 56 (by decide)
      simp [Gi.slotFact,List.lookup] at e56
      clear hf;have hBg:=HBW.out.grown hW HBW.out.size (fun g hg => by have:=(HO.out.lt g hg).1;omega);go_simp;refine (Ap.scopy_any x.n x.c x.z x.k x.x x.m x.y va vl vc x.zs _ (HT.out.below hBg) hz8).mono ?_;rintro e w6 ⟨a',l',c',rfl,ho1,ho2,hb6⟩;have hws:=hW.size;exact hK _ _ (Rv.other (by decide) hb6) ⟨a',l',c',rfl,TOwn.into ⟨ho1,ho2⟩ (fun k _ s => Nat.le_trans hws s)⟩
     refine Gi.Grow.step (BsF wr.heap.size x) rfl (BsF.mono hvb) ?_ ?_
     ·refine Gi.Obl.plain rfl ?_;intro ac wg K lo hi hsz hW hpr hf hap hK;clear hsz hap hpr;have hW : wr.grownBy wg v.ownBlock:=hW;have e57:=hf 57 (by decide)
      simp [Gi.slotFact,List.lookup] at e57
      clear hf;obtain ⟨a',l',c',e57,ho⟩:=e57;have HO7:=hidK ho;clear ho;go_simp;exact hK _ _ (Rv.other (by decide) (below1 _ _)) ⟨_,a',l',c',rfl,hW.size,Array.getElem?_push_size,HO7.out.below (below1 _ _)⟩
     refine Gi.Grow.step (ApF X1.heap.size k ((c.vs.take (k + 1)).map vdF) vss) rfl (ApF.mono) ?_ ?_
     ·refine Gi.Obl.plain rfl ?_;intro ac wg K lo hi hsz hW hpr hf hap hK;clear hsz hap;have hW : wr.grownBy wg v.ownBlock:=hW;have e51:=hf 51 (by decide)
      simp [Gi.slotFact,List.lookup] at e51
      have e58:=hf 58 (by decide)
      simp [Gi.slotFact,List.lookup] at e58
      clear hf;have hbW : Below wr.heap.size wr wg:=hpr rfl;clear hpr;obtain ⟨b5,a',l',c',e58,hb5,hg5,ho5⟩:=e58;obtain ⟨g,hg⟩:=ho5.fr;have hws:=hW.size
      refine wp_append_own wg (.tmp 51) (.tmp 58) 32 rfl X1.heap.size 63 i3 (.agg #[.string ⟨#[]⟩,.int .i64 0,.string ⟨#[]⟩,.string ⟨#[]⟩,.bool false,.string ⟨#[]⟩,.bool false,.slice none 0 0]) 8 112 Tryz.underlying32 HI3.out.1 hz.1 hz.2.1 hz.2.2 rfl (by decide) v k vss.flatten (by simpa [Act.eval] using e51) (owns_below HO.out hbW) ⟨b5,0,none⟩ 1 1 [.string x.n,.int .i64 x.c,.string x.z,.string x.k,.bool x.x,.string x.m,.bool x.y,.slice a' l' c'] (by simpa [Act.eval] using e58) rfl (news_blk hg5) (by intro u hu;simp only [List.mem_cons,List.not_mem_nil,or_false] at hu;rcases hu with rfl | rfl | rfl | rfl | rfl | rfl | rfl | rfl <;> rfl) (by unfold maxLen;have:=HS.out.v;omega) (by have:=HS.out.v;omega) (by omega) ?_
      intro v' w' hown hgr _;have hV:=HV.out.app (r:=vdF x) (vs:=[.string x.n,.int .i64 x.c,.string x.z,.string x.k,.bool x.x,.string x.m,.bool x.y,.slice a' l' c']) (hh:=g) hbW (owns_below HO.out hbW) (by decide) hgr rfl rfl (vd_fr HZz0.out HZz2.out HZz3.out HZz5.out (hg.keep (S':=fun k => X1.heap.size ≤ k) (fun cu _ q => rfl) (fun _ s => by have s1 : wr.heap.size ≤ g:=s;show X1.heap.size ≤ g;omega))) (fun i zs hi hz => by obtain ⟨_,rfl⟩:=vd_l hi;exact (hg.lt hz).1) (fun i i' zs zs' h1 _ h2 _ => (vd_l h1).1.trans (vd_l h2).1.symm)
      have e1 : (c.vs.take (k + 1)).map vdF = (c.vs.take k).map vdF ++ [vdF x]:=by rw [List.take_add_one,HX.out];simp
      rw [← e1] at hV;exact hK _ _ (Rv.this hgr) ⟨_,[.string x.n,.int .i64 x.c,.string x.z,.string x.k,.bool x.x,.string x.m,.bool x.y,.slice a' l' c'],by rw [List.flatten_append];simpa using hown,hV⟩
     refine' Gi.Grow.stepC _ rfl ?_ ?_;rotate_left 1
     ·refine Gi.Obl.plain rfl ?_;intro ac wg K lo hi hsz hW hpr hf hap hK;clear hsz hap hpr;have hW : wr.grownBy wg v.ownBlock:=hW;have e3:=hf 3 (by decide)
      simp [Gi.slotFact,List.lookup] at e3
      clear hf;go_simp;refine hK _ _ (Rv.other (by decide) (Below.refl _ _)) ?_;with_reducible rfl
     refine Gi.Grow.done ?_;intro q wz lo hi hW hf hap;clear hap;have hW : wr.grownBy wz v.ownBlock:=hW;simp only [List.forall_mem_cons] at hf;obtain ⟨h60,h59,-⟩:=hf;have h60:=h60 (by first | trivial | rfl);obtain ⟨H',vs',hs2,hs3⟩:=h59 (by first | trivial | rfl);obtain ⟨v',hv'⟩ : ∃ v',q 59 = v':=⟨_,rfl⟩;rw [hv'] at hs2;obtain ⟨v1',v2',v3',rfl⟩:=owns_slice hs2;have bo5:=(hW.block b3 hor (fun e => by have:=(HO.out.lt _ e.symm).1;omega)).trans Bo.out;have HS1:=hidK (((HK.out.trans (KeptS.of_grown hW (fun g e => .inr (HO.out.lt g e).1))).set (i:=2) (v:=.slice v1' v2' v3') (.inl rfl)));have HS2:=hidK (owns_set (i:=2) (u:=.slice v1' v2' v3') hs2 bo5 (by decide));have HS3:=hidK (hs3.set (i:=2) (u:=.slice v1' v2' v3') bo5 (by decide));have HS4:=hidK (block_set (i:=2) bo5 (.slice v1' v2' v3'));obtain ⟨o0,o1,o2,o3,o4,o5⟩:=cs6 bo5;have fo0:=froK bo5 0;have fo1:=froK bo5 1;have fo2:=froK bo5 2;have fo3:=froK bo5 3;have fo4:=froK bo5 4;have fo5:=froK bo5 5;clear bo5 hs2 hs3 hW c0 c1 c2 c3 c4 c5 c6 c7;intro K hK;rw [if_pos (by rfl)];simp only [Gi.putsAll,List.foldr,Act.put,List.setIfInBounds_toArray,List.set_cons_zero,List.set_cons_succ,h60,hv'];simp only [List.getLast];go_simp;refine hK _ _ ?_;refine hK0 _ _ ?_;clear hK hK0 K K0
     go_wp2
     exact ⟨⟨k + 1,_,H',_,by omega,by go_num,HS1,HS2,HS3,HS4⟩,by simp [intOf];omega⟩
    ·have hkl : k = l3:=by omega
     have h5:=HV.out;rw [List.take_of_length_le (by omega)] at h5;obtain ⟨p3,q3,hv,hR⟩:=h5.own HO.out (by simp;omega) (by decide) (fun g hg => (HO.out.lt g hg).1)
     have hl5 : (c.vs.map vdF).length = l3:=by simpa using hl3
     rw [hl5] at hv hR;subst hv;have R3:=hidK (hR.away Bo.out (by decide) (by decide))
     replace R2:=hidK (R2.out.keep (fun k hk s => HK.out.block k hk (fun q9 => by rcases q9 with q9 | q9;exact s.2 q9;omega)) (fun _ _ s => s))
     replace R4:=hidK (R4.out.keep (fun k hk s => HK.out.block k hk (fun q9 => by rcases q9 with q9 | q9;exact s.2 q9;omega)) (fun _ _ s => s))
     replace R1:=hidK (R1.out.keep (fun k hk s => HK.out.block k hk (fun q9 => by rcases q9 with q9 | q9;exact s.2 q9;omega)) (fun _ _ s => s))
     replace Br:=hidK ((HK.out.block (w.heap.size + 1) (by omega) (fun s => by rcases s with s | s <;> omega)).trans Br.out)
     replace Bk:=BkR;replace BoX:=Bo;replace HBX:=HBW;have hb3X2 : b3 < wr.heap.size:=lt_of_some BoX.out;clear BkR Bo HBW h5 hR HV HO HK hl5 hkl hk hKs hXs
     generalize wr = X2 at *
     obtain ⟨k0,k1,k2,k3,k4,k5⟩:=cs6 Bk.out
     go_wp2
     clear k0 k1 k2 k3 k4 k5 hlt
     go_loopw [7] (fun vi wr => ∃ (k : Nat) (vss : List (List Value)) (H : Nat → Nat → Nat) (v : Value),k ≤ l5 ∧ vi = .int .i64 k ∧ Hid (KeptS (Cps b3 X2) X2 wr) ∧ Hid (wr.ownsRow X2.heap.size 58 6 v k vss.flatten) ∧ Hid (VRecs wr (fun k => X2.heap.size ≤ k) 6 ((c.ps.take k).map pdF) vss H) ∧ Hid (wr.heap[b3]? = some (.cells #[.slice p1 l1 q1,.slice p2 l2 q2,.slice p3 l3 q3,.slice p4 l4 q4,v,.int .i64 c.now] 36 (0,0)))) (fun vi _ => l5 - (intOf vi).toNat)
     case atStart => exact ⟨0,[],fun _ _ => 0,.slice none 0 0,by omega,rfl,KeptS.refl _ _,World.ownsRow_nil _ _ _ _,VRecs.nil _ _ _ _,BoX⟩
     case round =>
      obtain ⟨k,vss,H,v,hk,rfl,HK,HO,HV,Bo⟩:=hrel;have hXs:=HBX.out.size
      have HBW:=hidK (HBX.out.trans (HK.out.low (X:=w.heap.size) hXs (fun k s => by rcases s with rfl | s <;> omega)))
      have BkR:=hidK ((HK.out.block w.heap.size (by omega) (fun s => by rcases s with s | s <;> omega)).trans Bk.out)
      have hKs:=HK.out.size
      by_cases hlt : k < l5
      ·obtain ⟨b,o,x,rfl,hb0,hx,hat⟩:=pd_at HR.out.p hlt;obtain ⟨va,vl,vc,hvr,z0,z2,z4,c0,c1,c2,c3,c4,c5⟩:=pd_cells hat
       have hz8 : vl ≤ 8001:=by have h1:=hvr.1;have h2:=HS.out.ps k x hx;omega
       have HX:=hidK hx;have HT:=hidK hvr;have HZz0:=hidK z0;have HZz2:=hidK z2;have HZz4:=hidK z4;clear hat hx hvr z0 z2 z4;replace c0:=(cell_below HBW.out hb0).trans c0;replace c1:=(cell_below HBW.out hb0).trans c1;replace c2:=(cell_below HBW.out hb0).trans c2;replace c3:=(cell_below HBW.out hb0).trans c3;replace c4:=(cell_below HBW.out hb0).trans c4;replace c5:=(cell_below HBW.out hb0).trans c5;have hbr : b < wr.heap.size:=Nat.lt_of_lt_of_le hb0 HBW.out.size;have hkr:=lt_of_some BkR.out;have hor:=lt_of_some Bo.out
       have hz : i5.zero = some (.agg #[.string ⟨#[]⟩,.int .i64 0,.string ⟨#[]⟩,.slice none 0 0,.string ⟨#[]⟩,.int .i64 0]) ∧ i5.size = 6 ∧ i5.bytes = 88:=by have:=HI5.out.2;simp only [Prod.mk.injEq] at this;exact this
       obtain ⟨k0,k1,k2,k3,k4,k5⟩:=cs6 BkR.out
       go_wp2_with (first | (at_builtin;refine wpList_texts rfl _ _ rfl (wr.heap.size + 1) rfl (heap2_1 _ _ _) va vl vc rfl x.zs (HT.out.below (HBW.out.trans ((below2 _ _ _).mono HBW.out.size))) hz8 ?_))
       intro a' l' c' w2 hT2 hb2;obtain ⟨hn2,-,hbx⟩:=slots2n hb2;obtain ⟨g,hg⟩:=hT2.fr
       have hs2 : wr.heap.size + 1 < w2.heap.size:=by have:=hb2.size;simp at this;omega
       have hsl : ∀ k,(k = wr.heap.size + 1 ∨ wr.heap.size + 1 + 1 ≤ k) → wr.heap.size + 1 ≤ k:=fun k s => by omega
       have hb4 : Below wr.heap.size wr ((w2.setCell ⟨wr.heap.size,3,none⟩ (.slice a' l' c')).alloc (.cells #[.string x.n,.int .i64 x.c,.string x.z,.slice a' l' c',.string x.d,.int .i64 x.p] 58)):=(set_below (Nat.le_refl _) hbx).alloc (by simp [World.setCell];omega) _;have HF4 : Hid (LFr ((w2.setCell ⟨wr.heap.size,3,none⟩ (.slice a' l' c')).alloc (.cells #[.string x.n,.int .i64 x.c,.string x.z,.slice a' l' c',.string x.d,.int .i64 x.p] 58)) g (fun k => X2.heap.size ≤ k) x.zs (.slice a' l' c')):=hg.keep (fun cu _ q => (Below.heap_alloc _ _ _ (by simp [World.setCell];exact lt_of_some q)).trans (Below.heap_setCell _ _ _ _ (fun e => by subst e;rw [hn2] at q;cases q))) (fun _ s => by have:=hsl _ s;show X2.heap.size ≤ g;omega)
       have HG : Hid (∀ zs : List ByteArray,x.zs = zs → zs ≠ [] → wr.heap.size ≤ g):=fun zs e hz => by subst e;have:=hsl _ (hg.lt hz).1;omega
       have HB4:=hidK hb4;have HO4:=hidK (owns_below HO.out hb4);obtain ⟨n0,n1,n2,n3,n4,n5⟩:=cs6 hn2;have fn0:=froK hn2 0;have fn1:=froK hn2 1;have fn2:=froK hn2 2;have fn3:=froK hn2 3;have fn4:=froK hn2 4;have fn5:=froK hn2 5;have bo2:=(hbx.block _ hor).trans Bo.out;obtain ⟨o0,o1,o2,o3,o4,o5⟩:=cs6 bo2;have hor2 : b3 < w2.heap.size:=lt_of_some bo2
       have hne3 : ¬ b3 = wr.heap.size:=by omega
       clear hn2 hbx hT2 hg hb2 hsl hb4 bo2 k0 k1 k2 k3 k4 k5 c0 c1 c2 c3 c4 c5
       go_wp2_with (first | (at_builtin;refine wpList_append_own _ rfl _ _ 34 rfl X2.heap.size 58 i5 (.agg #[.string ⟨#[]⟩,.int .i64 0,.string ⟨#[]⟩,.slice none 0 0,.string ⟨#[]⟩,.int .i64 0]) 6 88 Tryz.underlying34 HI5.out.1 hz.1 hz.2.1 hz.2.2 rfl (by decide) _ _ _ rfl HO4.out ⟨w2.heap.size,0,none⟩ 1 1 [.string x.n,.int .i64 x.c,.string x.z,.slice a' l' c',.string x.d,.int .i64 x.p] rfl rfl ?c1 ?c2 ?c3 ?c4 ?c5 ?_))
       case c1 => exact news_alloc_at _ _ (by simp [World.setCell]) _ _
       case c2 => intro u hu;simp only [List.mem_cons,List.not_mem_nil,or_false] at hu;rcases hu with rfl | rfl | rfl | rfl | rfl | rfl <;> rfl
       case c3 => unfold maxLen;have:=HS.out.p;omega
       case c4 => have:=HS.out.p;omega
       case c5 => simp [World.setCell];omega
       rintro v' w5 hown5 hgrow -;obtain ⟨v1',v2',v3',rfl⟩:=owns_slice hown5;clear n0 fn0 n1 fn1 n2 fn2 n3 fn3 n4 fn4 n5 fn5 o0 o1 o2 o3 o4 o5;have bo5:=cp_blk HO.out Bo.out hb3X2 HB4.out hgrow;obtain ⟨hs1,hs2',⟨H',hs3⟩,hs4⟩:=cp_step (f:=4) (r:=pdF x) (vs:=[.string x.n,.int .i64 x.c,.string x.z,.slice a' l' c',.string x.d,.int .i64 x.p]) (hh:=g) HK.out HO.out HV.out Bo.out hb3X2 HB4.out hown5 hgrow (by decide) (by decide) (by decide) rfl rfl (pd_fr HZz0.out HZz2.out HZz4.out HF4.out) (fun i zs hi hz => HG.out zs (pd_l hi).2.symm hz) (fun i i' zs zs' h1 _ h2 _ => (pd_l h1).1.trans (pd_l h2).1.symm)
       have e1 : (c.ps.take (k + 1)).map pdF = (c.ps.take k).map pdF ++ [pdF x]:=by rw [List.take_add_one,HX.out];simp
       rw [← e1] at hs3;have HS1:=hidK hs1;have HS2:=hidK hs2';have HS3:=hidK hs3;have HS4:=hidK hs4;obtain ⟨o0,o1,o2,o3,o4,o5⟩:=cs6 bo5;have fo0:=froK bo5 0;have fo1:=froK bo5 1;have fo2:=froK bo5 2;have fo3:=froK bo5 3;have fo4:=froK bo5 4;have fo5:=froK bo5 5;clear hs1 hs2' hs3 hs4 bo5 hown5 hgrow e1
       go_wp2
       exact ⟨⟨k + 1,_,H',_,by omega,by go_num,HS1,HS2,HS3,HS4⟩,by simp [intOf];omega⟩
      ·have hkl : k = l5:=by omega
       have h5:=HV.out;rw [List.take_of_length_le (by omega)] at h5;obtain ⟨p5,q5,hv,hR⟩:=h5.own HO.out (by simp;omega) (by decide) (fun g hg => (HO.out.lt g hg).1)
       have hl5 : (c.ps.map pdF).length = l5:=by simpa using hl5
       rw [hl5] at hv hR;subst hv;have R5:=hidK (hR.away Bo.out (by decide) (by decide))
       replace R2:=hidK (R2.out.keep (fun k hk s => HK.out.block k hk (fun q9 => by rcases q9 with q9 | q9;exact s.2 q9;omega)) (fun _ _ s => s))
       replace R4:=hidK (R4.out.keep (fun k hk s => HK.out.block k hk (fun q9 => by rcases q9 with q9 | q9;exact s.2 q9;omega)) (fun _ _ s => s))
       replace R1:=hidK (R1.out.keep (fun k hk s => HK.out.block k hk (fun q9 => by rcases q9 with q9 | q9;exact s.2 q9;omega)) (fun _ _ s => s))
       replace R3:=hidK (R3.out.keep (fun k hk s => HK.out.block k hk (fun q9 => by rcases q9 with q9 | q9;exact s.2 q9;omega)) (fun _ _ s => s))
       replace Br:=hidK ((HK.out.block (w.heap.size + 1) (by omega) (fun s => by rcases s with s | s <;> omega)).trans Br.out)
       replace Bk:=BkR;replace BoX:=Bo;replace HBX:=HBW;have hb3X3 : b3 < wr.heap.size:=lt_of_some BoX.out;clear BkR Bo HBW h5 hR HV HO HK hl5 hkl hk hKs hXs
       generalize wr = X3 at *
       obtain ⟨k0,k1,k2,k3,k4,k5⟩:=cs6 Bk.out;obtain ⟨o0,o1,o2,o3,o4,o5⟩:=cs6 BoX.out;obtain ⟨r0,r1,r2,r3,r4,r5⟩:=cs6 Br.out;have hXs:=HBX.out.size;have fr0:=froK Br.out 0;have fr1:=froK Br.out 1;have fr2:=froK Br.out 2;have fr3:=froK Br.out 3;have fr4:=froK Br.out 4;have fr5:=froK Br.out 5
       go_wp2
       refine bodyPost_ret (v:=.agg #[.slice p1 l1 q1,.slice p2 l2 q2,.slice p3 l3 q3,.slice p4 l4 q4,.slice p5 l5 q5,.int .i64 c.now]) (by simp [results,Tryz.results27,go_sem, *]) rfl ⟨⟨p1,l1,q1,p2,l2,q2,p3,l3,q3,p4,l4,q4,p5,l5,q5⟩,rfl,⟨?_,?_,?_,?_,?_⟩,sb1 (sb1 (sb1 (sb1 (sb1 (sb1 (HBX.out))))))⟩
       ·exact (R1.out.keep (S':=fun k => w.heap.size ≤ k) (fun k hk s => put6_ne (by have s1 : X.heap.size ≤ k:=s.1;omega)) (fun k _ s => by have s1 : X.heap.size ≤ k:=s.1;show w.heap.size ≤ k;omega))
       ·exact (R2.out.keep (S':=fun k => w.heap.size ≤ k) (fun k hk s => put6_ne (by have s1 : W.heap.size ≤ k:=s.1;omega)) (fun k _ s => by have s1 : W.heap.size ≤ k:=s.1;show w.heap.size ≤ k;omega))
       ·exact (R3.out.keep (S':=fun k => w.heap.size ≤ k) (fun k hk s => put6_ne (by have s1 : X1.heap.size ≤ k:=s.1;omega)) (fun k _ s => by have s1 : X1.heap.size ≤ k:=s.1;show w.heap.size ≤ k;omega))
       ·exact (R4.out.keep (S':=fun k => w.heap.size ≤ k) (fun k hk s => put6_ne (by have s1 : W.heap.size ≤ k:=s.1;omega)) (fun k _ s => by have s1 : W.heap.size ≤ k:=s.1;show w.heap.size ≤ k;omega))
       ·exact (R5.out.keep (S':=fun k => w.heap.size ≤ k) (fun k hk s => put6_ne (by have s1 : X2.heap.size ≤ k:=s.1;omega)) (fun k _ s => by have s1 : X2.heap.size ≤ k:=s.1;show w.heap.size ≤ k;omega))

theorem take_flat {m : Nat} {vss : List (List Value)} (hl : ∀ (j : Nat) vs,vss[j]? = some vs → vs.length = m) {k : Nat} (hk : k ≤ vss.length) : (vss.take k).flatten.length = k * m:=by
 rw [flat_len (m:=m) (fun j vs h => ?_),List.length_take,Nat.min_eq_left hk];rw [List.getElem?_take] at h
 split at h
 ·exact hl j vs h
 ·cases h
theorem drop_flat {m : Nat} {vss : List (List Value)} (hl : ∀ (j : Nat) vs,vss[j]? = some vs → vs.length = m) {k : Nat} : (vss.drop k).flatten.length = (vss.length - k) * m:=by
 rw [flat_len (m:=m) (fun j vs h => ?_),List.length_drop];rw [List.getElem?_drop] at h;exact hl _ vs h
theorem take_at {vss : List (List Value)} {k i : Nat} {u : Value} (h : (vss.take k).flatten[i]? = some u) : vss.flatten[i]? = some u:=by
 have h1 : vss.flatten = (vss.take k).flatten ++ (vss.drop k).flatten:=by rw [← List.flatten_append,List.take_append_drop]
 rw [h1,List.getElem?_append_left (List.getElem?_eq_some_iff.1 h).1];exact h
theorem drop_at {m : Nat} {vss : List (List Value)} (hl : ∀ (j : Nat) vs,vss[j]? = some vs → vs.length = m) {k i : Nat} {u : Value} (hk : k ≤ vss.length) (h : (vss.drop k).flatten[i]? = some u) : vss.flatten[k * m + i]? = some u:=by
 have h1 : vss.flatten = (vss.take k).flatten ++ (vss.drop k).flatten:=by rw [← List.flatten_append,List.take_append_drop]
 rw [h1,List.getElem?_append_right (by rw [take_flat hl hk];omega),take_flat hl hk,Nat.add_sub_cancel_left];exact h
theorem mem_take_one {P : Value → Prop} {vss : List (List Value)} (h : ∀ u ∈ vss.flatten,P u) (k : Nat) : (∀ u ∈ (vss.take k).flatten,P u) ∧ ∀ u ∈ (vss.drop k).flatten,P u:=by
 have h1 : vss.flatten = (vss.take k).flatten ++ (vss.drop k).flatten:=by rw [← List.flatten_append,List.take_append_drop]
 exact ⟨fun u hu => h u (by rw [h1];exact List.mem_append_left _ hu),fun u hu => h u (by rw [h1];exact List.mem_append_right _ hu)⟩

theorem sill_any (p : Int) (w : World) :
  Calls Tryz.prog 22 #[.int .i64 p] w fun e w' => e = .returned (.agg #[.slice none 0 0,.slice none 0 0,.slice none 0 0,.slice none 0 0,.slice none 0 0,.int .i64 0,.string ⟨#[]⟩,.int .i64 p]) ∧ Below w.heap.size w w':=by
 go_enter Tryz.func22,Tryz.ntmps22
 go_wp2
 exact bodyPost_ret (v:=.agg #[.slice none 0 0,.slice none 0 0,.slice none 0 0,.slice none 0 0,.slice none 0 0,.int .i64 0,.string ⟨#[]⟩,.int .i64 p]) (by simp [results,Tryz.results22,go_sem]) rfl ⟨rfl,below1 _ _⟩

theorem wo_erase {α : Type} {nm : α → ByteArray} {t : ByteArray} {xs : List α} {k : Nat} {x : α} (hr : RisBy nm xs) (hx : xs[k]? = some x) (hn : nm x = t) : wo nm t xs = xs.take k ++ xs.drop (k + 1):=by
 have hk : k < xs.length:=(List.getElem?_eq_some_iff.1 hx).1
 have e : xs = xs.take k ++ x :: xs.drop (k + 1):=by
  have h1 : xs.drop k = x :: xs.drop (k + 1):=by rw [List.drop_eq_getElem_cons hk];congr 1;exact (List.getElem?_eq_some_iff.1 hx).2
  rw [← h1,List.take_append_drop]
 have hno : ∀ (j : Nat) y,xs[j]? = some y → ¬ j = k → (!((nm y).toList == t.toList)) = true:=fun j y hj hne => by
  have : ¬ nm y = t:=fun q => hne (hr.inj hj hx (q.trans hn.symm)).1
  simp [tl_no this]
 have h1 : (xs.take k).filter (fun x => !((nm x).toList == t.toList)) = xs.take k:=List.filter_eq_self.2 fun y hy => by
  obtain ⟨j,hj⟩:=List.getElem?_of_mem hy;rw [List.getElem?_take] at hj
  split at hj
  ·exact hno j y hj (by omega)
  ·cases hj
 have h2 : (xs.drop (k + 1)).filter (fun x => !((nm x).toList == t.toList)) = xs.drop (k + 1):=List.filter_eq_self.2 fun y hy => by
  obtain ⟨j,hj⟩:=List.getElem?_of_mem hy;rw [List.getElem?_drop] at hj;exact hno _ y hj (by omega)
 unfold wo
 conv => lhs;rw [e]
 rw [List.filter_append,List.filter_cons,h1,h2,tl_yes hn]
 rfl
theorem Sel.erase {α β : Type} {xs : List α} {vss : List β} (hl : vss.length = xs.length) {k : Nat} (hk : k < xs.length) : Sel xs (xs.take k ++ xs.drop (k + 1)) vss (vss.take k ++ vss.drop (k + 1)) xs.length (fun j => if j < k then j else j + 1):=by
 have hat : ∀ {γ : Type} {l : List γ} (j : Nat),k < l.length → j < (l.take k ++ l.drop (k + 1)).length → (l.take k ++ l.drop (k + 1))[j]? = l[if j < k then j else j + 1]?:=by
  intro γ l j hk hj
  have h1 : (l.take k).length = k:=by rw [List.length_take];omega
  by_cases e : j < k
  ·rw [List.getElem?_append_left (by omega),List.getElem?_take,if_pos e,if_pos e]
  ·rw [List.getElem?_append_right (by omega),List.getElem?_drop,if_neg e,h1]
   congr 1
   omega
 refine ⟨by simp [hl],fun j hj => hat j hk hj,fun j hj => hat j (by omega) (by simp [hl] at hj ⊢;omega),fun j hj => ?_,fun i j hi hj e => ?_⟩
 ·have : (xs.take k ++ xs.drop (k + 1)).length = xs.length - 1:=by simp;omega
  split <;> omega
 ·split at e <;> split at e <;> omega

theorem sbusy_any (d : Ad) (c : Cl) (k : Nat) (x : Vd) (w : World) (hr : ClRow w d c.raw) (hx : c.vs[k]? = some x) :
  Calls Tryz.prog 25 #[.agg #[.slice d.a1 d.l1 d.c1,.slice d.a2 d.l2 d.c2,.slice d.a3 d.l3 d.c3,.slice d.a4 d.l4 d.c4,.slice d.a5 d.l5 d.c5,.int .i64 c.now],.int .i64 k] w (BoolB (Busy c x) w):=by
 obtain ⟨a1,l1,y1,a2,l2,y2,a3,l3,y3,a4,l4,y4,a5,l5,y5⟩:=d;dsimp only;have HR:=hidK hr
 have hl1 : c.ns.length = l1:=by simpa using (show (c.ns.map ndF).length = l1 from hr.n.1)
 have hm1 : l1 ≤ 9223372036854775807:=Nat.le_trans hr.n.2.1 hr.n.2.2.1
 have hl2 : c.ks.length = l2:=by simpa using (show (c.ks.map kdF).length = l2 from hr.k.1)
 have hm2 : l2 ≤ 9223372036854775807:=Nat.le_trans hr.k.2.1 hr.k.2.2.1
 have hl3 : c.vs.length = l3:=by simpa using (show (c.vs.map vdF).length = l3 from hr.v.1)
 have hm3 : l3 ≤ 9223372036854775807:=Nat.le_trans hr.v.2.1 hr.v.2.2.1
 have hl4 : c.xs.length = l4:=by simpa using (show (c.xs.map xdF).length = l4 from hr.x.1)
 have hm4 : l4 ≤ 9223372036854775807:=Nat.le_trans hr.x.2.1 hr.x.2.2.1
 have hl5 : c.ps.length = l5:=by simpa using (show (c.ps.map pdF).length = l5 from hr.p.1)
 have hm5 : l5 ≤ 9223372036854775807:=Nat.le_trans hr.p.2.1 hr.p.2.2.1;clear hr;have HX:=hidK hx
 have hk3 : k < l3:=by have:=(List.getElem?_eq_some_iff.1 hx).1;omega
 have hk3i : (k : Int) < l3:=by omega
 clear hx;obtain ⟨b3,o3,x',rfl,hb3,hx',hat⟩:=vd_at HR.out.v hk3;obtain rfl : x = x':=Option.some.inj (HX.out.symm.trans hx');have HAT:=hidK hat;obtain ⟨ea,el,ec,hvr,z0,z2,z3,z5,c0,c1,c2,c3,c4,c5,c6,c7⟩:=vd_cells hat;have HV:=hidK hvr
 have HE : Hid (0 < el ↔ ¬ x.zs = []):=by
  have h1 : x.zs.length = el:=hvr.1
  show _ ↔ _
  rw [← h1,List.length_pos_iff]
 clear hat hvr z0 z2 z3 z5 hx'
 go_enter Tryz.func25,Tryz.ntmps25
 go_wp2
 go_loopw [5,6] (fun q i wr => ∃ (j : Nat) (r : Bool),j ≤ l1 ∧ q = .bool r ∧ i = .int .i64 j ∧ Hid (r = true ↔ (¬ x.zs = [] ∨ ∃ (i : Nat) (n : Nd),i < j ∧ c.ns[i]? = some n ∧ InL n.zs x.n)) ∧ Hid (Below w.heap.size w wr) ∧ Hid (wr.heap[w.heap.size]? = some (.cells #[.slice a1 l1 y1,.slice a2 l2 y2,.slice (some ⟨b3,o3,none⟩) l3 y3,.slice a4 l4 y4,.slice a5 l5 y5,.int .i64 c.now] 36 (0,0)))) (fun _ i _ => l1 - (intOf i).toNat)
 case atStart => exact ⟨0,decide (0 < el),by omega,by simp,rfl,show _ ↔ _ by rw [decide_eq_true_iff,HE.out];exact ⟨.inl,fun h => h.elim id (fun ⟨i,n,h,_⟩ => by omega)⟩,below1 _ _,Array.getElem?_push_size⟩
 case round =>
  obtain ⟨j,r,hj,rfl,rfl,HS,HB,Bk⟩:=hrel;clear c0 c1 c2 c3 c4 c5 c6 c7;obtain ⟨k0,k1,k2,k3,k4,k5⟩:=cs6 Bk.out;have ltk:=lt_of_some Bk.out
  by_cases hlt : j < l1
  ·obtain ⟨b,o,n,rfl,hb,hxn,hat⟩:=nd_at (HR.out.n.below HB.out) hlt;obtain ⟨va,vl,vc,hvr,z0,z1,c0,c1,c2,c3,c4,c5,c6⟩:=nd_cells hat;have HN:=hidK hxn;have HT:=hidK hvr;have g0:=(cell_below HB.out hb3).trans (vd_cells HAT.out).choose_spec.choose_spec.choose_spec.2.2.2.2.2.1
   have hj3 : (j : Int) < l1:=by omega
   have hb3' : b3 < wr.heap.size:=Nat.lt_of_lt_of_le hb3 HB.out.size;clear hat hxn z0 z1 hvr
   cases r
   ·by_cases hin : InL n.zs x.n
    ·have HIN:=hidK hin;clear hin;have Gk:=Bk;have HW:=HB;obtain ⟨k0,k1,k2,k3,k4,k5⟩:=sl6 Gk;have mz:=fun q : Wd wr => (q.cell hb).trans c6;have mn : ∀ q : Wd wr,q.w.cell? ⟨b3,o3 + k * 8,none⟩ = some (.string x.n):=fun q => (q.cell (hb3')).trans (g0);have hne0:=Wd.ne wr;have HC0:=hidK (fun q : Wd wr => (shas_any va vl vc n.zs x.n q.w (HT.out.below (q.b))).mono (fun _ _ h => BoolB.yes h HIN.out));go_wp2_with fail;refine wp_region_wide (by kernel_rfl) (by kernel_rfl) ?_
     repeat (go_big_quiet_step (first | (go_at_call 26;exact Calls.wide (HC0.out _)) | fail))
     refine wpQuiet_nil ?_;rintro _ ⟨q1,rfl⟩;have HB1:=upB HW q1.b;have Ck:=upK Gk q1.b;clear hne0 HW HB HC0 k0 k1 k2 k3 k4 k5 mz mn Gk Bk g0;have HB:=HB1;clear HB1;have Bk:=Ck;clear Ck
     go_wp2
     refine ⟨⟨j + 1,true,by omega,rfl,by go_num,show _ ↔ _ from ⟨fun _ => .inr ⟨j,n,by omega,HN.out,HIN.out⟩,fun _ => rfl⟩,HB.out,Bk.out⟩,by simp [intOf];omega⟩
    ·have HIN:=hidK hin;clear hin;have Gk:=Bk;have HW:=HB;obtain ⟨k0,k1,k2,k3,k4,k5⟩:=sl6 Gk;have mz:=fun q : Wd wr => (q.cell hb).trans c6;have mn : ∀ q : Wd wr,q.w.cell? ⟨b3,o3 + k * 8,none⟩ = some (.string x.n):=fun q => (q.cell (hb3')).trans (g0);have hne0:=Wd.ne wr;have HC0:=hidK (fun q : Wd wr => (shas_any va vl vc n.zs x.n q.w (HT.out.below (q.b))).mono (fun _ _ h => BoolB.no h HIN.out));go_wp2_with fail;refine wp_region_wide (by kernel_rfl) (by kernel_rfl) ?_
     repeat (go_big_quiet_step (first | (go_at_call 26;exact Calls.wide (HC0.out _)) | fail))
     refine wpQuiet_nil ?_;rintro _ ⟨q1,rfl⟩;have HB1:=upB HW q1.b;have Ck:=upK Gk q1.b;clear hne0 HW HB HC0 k0 k1 k2 k3 k4 k5 mz mn Gk Bk g0;have HB:=HB1;clear HB1;have Bk:=Ck;clear Ck
     go_wp2
     refine ⟨⟨j + 1,false,by omega,rfl,by go_num,show _ ↔ _ from ⟨fun h => (by cases h),fun h => HS.out.2 (h.elim .inl (fun ⟨i,m,h1,h2,h3⟩ => .inr ⟨i,m,by by_cases e : i = j;subst e;rw [HN.out] at h2;cases h2;exact absurd h3 HIN.out;omega,h2,h3⟩))⟩,HB.out,Bk.out⟩,by simp [intOf];omega⟩
   ·skip
    have Gk:=Bk;have HW:=HB;obtain ⟨k0,k1,k2,k3,k4,k5⟩:=sl6 Gk;have mz:=fun q : Wd wr => (q.cell hb).trans c6;have mn : ∀ q : Wd wr,q.w.cell? ⟨b3,o3 + k * 8,none⟩ = some (.string x.n):=fun q => (q.cell (hb3')).trans (g0);have hne0:=Wd.ne wr;go_wp2_with fail;refine wp_region_wide (by kernel_rfl) (by kernel_rfl) ?_
    repeat (go_big_quiet_step (first | fail))
    refine wpQuiet_nil ?_;rintro _ ⟨q1,rfl⟩;have HB1:=upB HW q1.b;have Ck:=upK Gk q1.b;clear hne0 HW HB k0 k1 k2 k3 k4 k5 mz mn Gk Bk g0;have HB:=HB1;clear HB1;have Bk:=Ck;clear Ck
    go_wp2
    refine ⟨⟨j + 1,true,by omega,rfl,by go_num,show _ ↔ _ from ⟨fun _ => (HS.out.1 (by first | trivial | rfl)).elim .inl (fun ⟨i,m,h1,h2⟩ => .inr ⟨i,m,by omega,h2⟩),fun _ => rfl⟩,HB.out,Bk.out⟩,by simp [intOf];omega⟩
  ·obtain rfl : l1 = j:=by omega
   go_wp2
   go_ret;refine ⟨r,rfl,?_,HB.out⟩;rw [HS.out];exact ⟨fun h => h.elim .inl (fun ⟨i,n,_,h1,h2⟩ => .inr ⟨i,n,h1,h2⟩),fun h => h.elim .inl (fun ⟨i,n,h1,h2⟩ => .inr ⟨i,n,by have:=(List.getElem?_eq_some_iff.1 h1).1;omega,h1,h2⟩)⟩

theorem scut_any (a : Option Addr) (len cap : Nat) (xs : List Vd) (t : ByteArray) (i : Nat) (x : Vd) (Q : Nat → Prop) (w : World) (ho : ROwn w a len cap 8 63 (xs.map vdF) Q) (hl : len ≤ 8) (hri : RisBy Vd.n xs) (hx : xs[i]? = some x) (hn : x.n = t) :
  Calls Tryz.prog 29 #[.slice a len cap,.int .i64 i] w fun e w' => ∃ a' l' c',e = .returned (.slice a' l' c') ∧ ROwn w' a' l' c' 8 63 ((wo Vd.n t xs).map vdF) (fun k => Q k ∨ w.heap.size ≤ k) ∧ Below w.heap.size w w':=by
 have HW:=hidK (wo_erase hri hx hn)
 have hxl : xs.length = len:=by have h6 : (xs.map vdF).length = len:=ho.1;rw [List.length_map] at h6;exact h6
 have hi5 : i < len:=by have:=(List.getElem?_eq_some_iff.1 hx).1;omega
 have hmn : len ≤ cap:=ho.2.1;have hmx : cap ≤ 9223372036854775807:=ho.2.2.1;obtain ⟨vss,H,hV,hcell⟩:=ho.recs
 have hvl : vss.length = len:=by have h6 : vss.length = (xs.map vdF).length:=hV.len;rw [List.length_map] at h6;omega
 obtain ⟨b,hxa,hbS⟩ : ∃ b,a = some ⟨b,0,none⟩ ∧ b < w.heap.size:=by
  have h1 : vss[i]? = some (vss[i]'(by omega)):=List.getElem?_eq_getElem _
  have h2 : 0 < (vss[i]'(by omega)).length:=by rw [hV.all i _ h1];decide
  obtain ⟨g,e,_,h3⟩:=hcell _ _ (flat_at hV.all h1 (List.getElem?_eq_getElem h2));exact ⟨g,e,cell_lt h3⟩
 subst hxa
 have HC : Hid (∀ (j : Nat) u,vss.flatten[j]? = some u → w.cell? ⟨b,j,none⟩ = some u):=fun j u hj => by
  obtain ⟨g,e,_,h3⟩:=hcell j u hj
  cases e
  exact h3
 have HVR:=hidK hV;obtain ⟨i5,hi5',hz0,hz1,hz2⟩:=info_parts infovd;have HI0:=hidK (And.intro hi5' (And.intro hz0 (And.intro hz1 hz2)));have hown0 : World.ownsRow (w.alloc (.cells #[] 63)) w.heap.size 63 8 (.slice (some ⟨w.heap.size,0,none⟩) 0 0) 0 []:=⟨by simp,.inr ⟨w.heap.size,0,#[],rfl,Nat.le_refl _,Array.getElem?_push_size,Nat.le_refl _,by unfold maxLen;omega,by simp,by simp⟩⟩;have HOW:=hidK hown0
 have hik : (i : Int) ≤ cap:=by omega
 clear hV hcell ho hri hx hn hi5' hz0 hz1 hz2 hown0
 go_enter Tryz.func29,Tryz.ntmps29
 go_wp2_with (first | (at_builtin;refine wpList_append_own _ rfl _ _ 32 rfl w.heap.size 63 i5 (.agg #[.string ⟨#[]⟩,.int .i64 0,.string ⟨#[]⟩,.string ⟨#[]⟩,.bool false,.string ⟨#[]⟩,.bool false,.slice none 0 0]) 8 112 Tryz.underlying32 HI0.out.1 HI0.out.2.1 HI0.out.2.2.1 HI0.out.2.2.2 rfl (by decide) _ 0 [] rfl (HOW.out) ⟨b,0,none⟩ i cap (vss.take i).flatten rfl ?c1 ?c2 ?c3 ?c4 ?c5 ?c6 ?_))
 case c1 => exact take_flat HVR.out.all (by omega)
 case c2 =>
  intro j u hu;rw [Addr.add_lit,Nat.zero_add];exact (cell_below (below1 w _) hbS).trans (HC.out _ _ (take_at hu))
 case c3 => exact (mem_take_one HVR.out.one i).1
 case c4 => unfold maxLen;omega
 case c5 => omega
 case c6 => simp
 rintro v1 w4 hown4 hgr4 -
 replace hown4 : w4.ownsRow w.heap.size 63 8 v1 i (vss.take i).flatten:=by simpa using hown4
 have hb4 : Below w.heap.size w w4:=((Below.refl w.heap.size _).alloc (Nat.le_refl _) _).grown hgr4 (by simp) (fun g hg => by simp [Value.ownBlock] at hg;omega);obtain ⟨s1,s2,s3,rfl⟩:=owns_slice hown4;have HB4:=hidK hb4;have HO4:=hidK hown4;have hs4:=hb4.size;clear hown4 hgr4 hb4 HOW
 have hik1 : ((i : Int) + 1) ≤ len:=by omega
 by_cases hcap : cap = i + 1
 ·subst hcap
  have hmi : len = i + 1:=by omega
  subst hmi;have hvd : vss.drop (i + 1) = []:=List.drop_eq_nil_of_le (by omega)
  go_wp2_with (first | (at_builtin;refine wpList_append_own _ rfl _ _ 32 rfl w.heap.size 63 i5 (.agg #[.string ⟨#[]⟩,.int .i64 0,.string ⟨#[]⟩,.string ⟨#[]⟩,.bool false,.string ⟨#[]⟩,.bool false,.slice none 0 0]) 8 112 Tryz.underlying32 HI0.out.1 HI0.out.2.1 HI0.out.2.2.1 HI0.out.2.2.2 rfl (by decide) _ _ _ rfl (HO4.out) ⟨b,0,none⟩ 0 0 [] rfl ?c1 ?c2 ?c3 ?c4 ?c5 ?c6 ?_))
  case c1 => rfl
  case c2 => intro j u hu;simp at hu
  case c3 => intro u hu;simp at hu
  case c4 => unfold maxLen;omega
  case c5 => omega
  case c6 => omega
  rintro v2 w5 hown5 hgr5 -
  have hlen5 : (wo Vd.n t xs).length = (i + 1) - 1:=by rw [HW.out];simp;omega
  replace hown5 : w5.ownsRow w.heap.size 63 8 v2 (wo Vd.n t xs).length (vss.take i ++ vss.drop (i + 1)).flatten:=by
   rw [hlen5,List.flatten_append];rw [hvd];simpa using hown5
   
  have hb5 : Below w.heap.size w4 w5:=(Below.refl w.heap.size w4).grown hgr5 HB4.out.size (fun g hg => (HO4.out.lt g hg).1);obtain ⟨t1,t2,t3,rfl⟩:=owns_slice hown5;have H5:=hidK (HB4.out.trans hb5);have hsel:=Sel.erase (xs:=xs) (vss:=vss) (by omega) (k:=i) (by omega);rw [← HW.out] at hsel;have hrec:=(hsel.recs (HVR.out.below H5.out)).keep (w':=w5) (S':=fun k => Q k ∨ w.heap.size ≤ k) (fun _ _ _ _ => rfl) (fun k _ s => .inl s);obtain ⟨q1,q2,hq,hR⟩:=hrec.own hown5 (by simp) (by decide) (fun g hg => .inr (hown5.lt g hg).1);rw [List.length_map] at hq hR;simp only [Value.slice.injEq] at hq;obtain ⟨rfl,ht2,rfl⟩:=hq;rw [← ht2] at hR;have HR5:=hidK hR;clear hown5 hgr5 hb5 hsel hrec hR ht2 hlen5
  go_wp2
  go_ret;exact ⟨_,_,_,rfl,HR5.out,H5.out⟩
 ·go_wp2_with (first | (at_builtin;refine wpList_append_own _ rfl _ _ 32 rfl w.heap.size 63 i5 (.agg #[.string ⟨#[]⟩,.int .i64 0,.string ⟨#[]⟩,.string ⟨#[]⟩,.bool false,.string ⟨#[]⟩,.bool false,.slice none 0 0]) 8 112 Tryz.underlying32 HI0.out.1 HI0.out.2.1 HI0.out.2.2.1 HI0.out.2.2.2 rfl (by decide) _ _ _ rfl (HO4.out) ⟨b,(i + 1) * 8,none⟩ (len - (i + 1)) (cap - (i + 1)) (vss.drop (i + 1)).flatten rfl ?c1 ?c2 ?c3 ?c4 ?c5 ?c6 ?_))
  case c1 => rw [drop_flat HVR.out.all,hvl]
  case c2 =>
   intro j u hu;rw [Addr.add_lit];exact (cell_below HB4.out hbS).trans (HC.out _ _ (drop_at HVR.out.all (by omega) hu))
  case c3 => exact (mem_take_one HVR.out.one (i + 1)).2
  case c4 => unfold maxLen;omega
  case c5 => omega
  case c6 => omega
  rintro v2 w5 hown5 hgr5 -
  have hlen5 : (wo Vd.n t xs).length = len - 1:=by rw [HW.out];simp;omega
  replace hown5 : w5.ownsRow w.heap.size 63 8 v2 (wo Vd.n t xs).length (vss.take i ++ vss.drop (i + 1)).flatten:=by
   rw [hlen5,List.flatten_append]
   have e9 : len - 1 = i + (len - (i + 1)):=by omega
   rw [e9];exact hown5
  have hb5 : Below w.heap.size w4 w5:=(Below.refl w.heap.size w4).grown hgr5 HB4.out.size (fun g hg => (HO4.out.lt g hg).1);obtain ⟨t1,t2,t3,rfl⟩:=owns_slice hown5;have H5:=hidK (HB4.out.trans hb5);have hsel:=Sel.erase (xs:=xs) (vss:=vss) (by omega) (k:=i) (by omega);rw [← HW.out] at hsel;have hrec:=(hsel.recs (HVR.out.below H5.out)).keep (w':=w5) (S':=fun k => Q k ∨ w.heap.size ≤ k) (fun _ _ _ _ => rfl) (fun k _ s => .inl s);obtain ⟨q1,q2,hq,hR⟩:=hrec.own hown5 (by simp) (by decide) (fun g hg => .inr (hown5.lt g hg).1);rw [List.length_map] at hq hR;simp only [Value.slice.injEq] at hq;obtain ⟨rfl,ht2,rfl⟩:=hq;rw [← ht2] at hR;have HR5:=hidK hR;clear hown5 hgr5 hb5 hsel hrec hR ht2 hlen5
  go_wp2
  go_ret;exact ⟨_,_,_,rfl,HR5.out,H5.out⟩

end Rc
end Go.Proofs.YtkecljccapjkpaaGreatDoor
