import Derived.Test.YtpejepeekdjfoaaGreatDoorQ2
import Derived.WalkKit
import Derived.LaidEql
import Derived.Stop.Asserts
import Derived.RowKitTokens
import Derived.Test.YtpejepeekdjfoaaGreatDoorRows
import Derived.WalkSpells
import Derived.RegionTactic
/-
 Whether all things are right and rise by their names, as the specification asks it.
-/
set_option maxRecDepth 100000
set_option maxHeartbeats 12800000
open And renaming intro→Fl
open Array renaming getElem?_push_size→FB, getElem?_range→Il, getElem?_map→Iy
open Bool renaming eq_false_or_eq_true→He
open Go.Instr renaming typeAssert→GW
open Go.Op renaming bytesLess→Fz
open Go.RowKit.Below renaming heap_setCell→Fm, refl→Ft, heap_alloc→Fw
open Go.Value.slice renaming injEq→Ig
open Go.World renaming setCell→Gc
open List renaming getElem?_eq_some_iff→Fk, lookup→Fp, getElem?_map→FA, take_of_length_le→FD, replicate→FN, map_set→Hz
open Nat renaming le_refl→Fq, le_trans→Fx, lt_of_lt_of_le→FC, add_zero→Hg
open Option renaming map_eq_some_iff→FG
open Option.some renaming inj→Fo, injEq→Gw
namespace Go.Proofs.YtpejepeekdjfoaaGreatDoor
theorem bJ {p:Prop} (h:p:=by rfl):p:=h
theorem nu {p:Prop} (h:p:=by rw[Nat.sub_add_cancel hk0];exact HXx.out):p:=h
theorem uR {p:Prop} (h:p:=by simpa using (show (c.ns.map ndF).length=d.l1 from hr.n.1)):p:=h
theorem Bz {p:Prop} (h:p:=by have h1:=(Fk.1 ht).1;have h2:=HVL.out;omega):p:=h
end Go.Proofs.YtpejepeekdjfoaaGreatDoor
namespace Go.Proofs.YtpejepeekdjfoaaGreatDoor
theorem aT {p:Prop} (h:p:=by
 go_simp;refine hK _ _ (Ft _ _) ?_;with_reducible rfl):p:=h
theorem EZ {p:Prop} (h:p:=by
 rcases hcase with ⟨v,hbd⟩|hbd
 ·obtain⟨j3,hj3⟩:=hbd.at;have hl3':j3<l3:=by have h1:=(Fk.1 hj3).1;omega
  obtain⟨b3,o3,v',rfl,hb3,hv',hat⟩:=bN HR.v hl3';rw[hj3] at hv';obtain rfl:=Fo hv';obtain⟨xa,xl,xc,hvr,z0,z2,z3,z5,d0,d1,d2,d3,d4,d5,d6,d7⟩:=aK hat;have HJ:=aa hj3;have HD:=aa hbd;have HC2:=aa d2;have HB3:=aa hb3;have hj31:decide ((j3:Int)<0)=false:=aR
  clear hv' hat hvr z0 z2 z3 z5 d0 d1 d2 d3 d4 d5 d6 d7 hj3 hbd hb3;obtain⟨Gk,Gr,HW⟩:=bO;obtain⟨k0,k1,k2,k3,k4,k5⟩:=sl6 Gk;have r3:=fun q:Wd wr=>q.slot (o:=3) Gr.out rfl;obtain⟨tw,hne0⟩:=iS;have HC0:=aa (fun q:Wd wr=>fz ⟨(some ⟨b1,o1,none⟩),l1,y1,a2,l2,y2,(some ⟨b3,o3,none⟩),l3,y3,a4,l4,y4,(some ⟨b,o,none⟩),l5,y5⟩ c t q.w (HR.below (HW.trans (q.b.mono HW.size))) HX.out HV.out HNE.out HJ.out HD.out);go_wp2_with fail;refine ag ar ar ?_;repeat (go_big_quiet_step (first|(go_at_call 102;exact Calls.wide (HC0.out _))|fail))
  refine wpQuiet_nil ?_;rintro _ ⟨q1,rfl⟩;obtain⟨HB1,Ck⟩:=cL;have Cr:=upK Gr q1.b;clear hne0 HW HB HC0 k0 k1 k2 k3 k4 k5 r3 tw Gk Gr Bk Br pr3;have HB:=HB1;clear HB1;have Bk:=Ck;clear Ck;have Br:=Cr;clear Cr;obtain⟨hc1,hb1,HBW1⟩:=sj;clear hc hb HBW;by_cases hg:∃(i:Nat) (x:Xd),c.xs[i]?=some x/\x.n=t;rotate_left
  ·have HG:=aa hg;clear hg;obtain⟨Gk,Gr,HW⟩:=bO;obtain⟨k0,k1,k2,k3,k4,k5⟩:=sl6 Gk;obtain⟨r0,r1,r2,r3,r4,r5⟩:=sl6 Gr;obtain⟨tw,hne0⟩:=jK;have HC0:=aa (fun q:Wd q1.w=>fv ⟨(some ⟨b1,o1,none⟩),l1,y1,a2,l2,y2,(some ⟨b3,o3,none⟩),l3,y3,a4,l4,y4,(some ⟨b,o,none⟩),l5,y5⟩ c.now c.xs t q.w (HR.x.below (HW.trans (q.b.mono HW.size))) (fun i x h1 h2=>HG.out ⟨i,x,h1,h2⟩));exact qi
  obtain⟨i4,x4,g1,g2⟩:=hg;obtain⟨HG1,HG2,hi41⟩:=lT;clear g1 g2;have hbv:=FC HB3.out HB.size;have v2:=(ak HB.out HB3.out).trans HC2.out;have hbn:=FC HBn.out HB.size;have n1:=(ak HB.out HBn.out).trans HCn.out;by_cases hz:v.z=n.z
  ·have hzq:=a9 hz;have HZ:=aa hz;clear hz;obtain⟨Gk,Gr,HW⟩:=bO;obtain⟨k0,k1,k2,k3,k4,k5⟩:=sl6 Gk;obtain⟨r0,r1,r2,r3,r4,r5⟩:=sl6 Gr;obtain⟨tw,vw,nw,hne0,HC0⟩:=B7;go_wp2_with fail;refine ag ar ar ?_;repeat (go_big_quiet_step (first|(go_at_call 103;exact Calls.wide (HC0.out _))|fail))
   refine wpQuiet_nil ?_;rintro _ ⟨q2,rfl⟩;obtain⟨HB2,Ck⟩:=dM;have Cr:=upK Gr q2.b;clear hne0 HW HB HC0 k0 k1 k2 k3 k4 k5 r0 r1 r2 r3 r4 r5 tw vw nw Gk Gr Bk Br hc1 hb1 hbv v2 hbn n1;have HB:=HB2;clear HB2;have Bk:=Ck;clear Ck;have Br:=Cr;clear Cr;clear hzq;go_wp2_with fail;refine⟨⟨kq+1,by omega,by go_num,fun j s hj hs=>?_,HBW1.trans (q2.b.mono HBW1.size)⟩,by simp[intOf];omega⟩;by_cases e:j=kq
   ·subst e;rw[HXt.out] at hs;obtain rfl:=Fo hs;exact⟨⟨i4,x4,HG1.out,HG2.out⟩,.inr ⟨v,j1,n,HD.out,HJn.out,HNn.out,HZ.out⟩⟩
   ·exact HQ2.out j s af hs
  ·have hzq:=bB hz;have HZ:=aa hz;clear hz;obtain⟨Gk,Gr,HW⟩:=bO;obtain⟨k0,k1,k2,k3,k4,k5⟩:=sl6 Gk;obtain⟨r0,r1,r2,r3,r4,r5⟩:=sl6 Gr;obtain⟨tw,vw,nw,hne0,HC0⟩:=B7;go_wp2_with fail;refine ag ar ar ?_;repeat (go_big_quiet_step (first|(go_at_call 103;exact Calls.wide (HC0.out _))|fail))
   refine wpQuiet_nil ?_;rintro _ ⟨q2,rfl⟩;obtain⟨HB2,Ck⟩:=dM;have Cr:=upK Gr q2.b;clear hne0 HW HB HC0 k0 k1 k2 k3 k4 k5 r0 r1 r2 r3 r4 r5 tw vw nw Gk Gr Bk Br hc1 hb1 hbv v2 hbn n1;have HB:=HB2;clear HB2;have Bk:=Ck;clear Ck;have Br:=Cr;clear Cr;go_wp2;go_ret;refine aq.f (fun h=>?_) HB.out;have h9:=(h.1 k p HXp.out).2.1 kq t HXt.out;rcases h9.2 with h2|⟨v',i,n',h2,h3,h4,h5⟩
   ·exact HEm.out h2
   ·obtain rfl:=bI.inj HX.out HV.out HD.out h2;obtain⟨_,rfl⟩:=HNR.inj h3 HJn.out (h4.trans HNn.symm);exact HZ.out h5
 ·have HD:=aa hbd;clear hbd;obtain⟨Gk,Gr,HW⟩:=bO;obtain⟨k0,k1,k2,k3,k4,k5⟩:=sl6 Gk;have r3:=fun q:Wd wr=>q.slot (o:=3) Gr.out rfl;obtain⟨tw,hne0⟩:=iS;have HC0:=aa (fun q:Wd wr=>f_ ⟨(some ⟨b1,o1,none⟩),l1,y1,a2,l2,y2,a3,l3,y3,a4,l4,y4,(some ⟨b,o,none⟩),l5,y5⟩ c t q.w (HR.below (HW.trans (q.b.mono HW.size))) HX.out HV.out HNE.out HD.out);go_wp2_with fail;refine ag ar ar ?_;repeat (go_big_quiet_step (first|(go_at_call 102;exact Calls.wide (HC0.out _))|fail))
  refine wpQuiet_nil ?_;rintro _ ⟨q1,rfl⟩;obtain⟨HB1,Ck⟩:=cL;have Cr:=upK Gr q1.b;clear hne0 HW HB HC0 k0 k1 k2 k3 k4 k5 r3 tw Gk Gr Bk Br pr3;have HB:=HB1;clear HB1;have Bk:=Ck;clear Ck;have Br:=Cr;clear Cr;obtain⟨hc1,hb1,HBW1⟩:=sj;clear hc hb HBW;by_cases hg:∃(i:Nat) (x:Xd),c.xs[i]?=some x/\x.n=t;rotate_left
  ·have HG:=aa hg;clear hg;obtain⟨Gk,Gr,HW⟩:=bO;obtain⟨k0,k1,k2,k3,k4,k5⟩:=sl6 Gk;obtain⟨r0,r1,r2,r3,r4,r5⟩:=sl6 Gr;obtain⟨tw,hne0⟩:=jK;have HC0:=aa (fun q:Wd q1.w=>fv ⟨(some ⟨b1,o1,none⟩),l1,y1,a2,l2,y2,a3,l3,y3,a4,l4,y4,(some ⟨b,o,none⟩),l5,y5⟩ c.now c.xs t q.w (HR.x.below (HW.trans (q.b.mono HW.size))) (fun i x h1 h2=>HG.out ⟨i,x,h1,h2⟩));exact qi
  obtain⟨i4,x4,g1,g2⟩:=hg;obtain⟨HG1,HG2,hi41⟩:=lT;clear g1 g2;obtain⟨Gk,Gr,HW⟩:=bO;obtain⟨k0,k1,k2,k3,k4,k5⟩:=sl6 Gk;obtain⟨r0,r1,r2,r3,r4,r5⟩:=sl6 Gr;obtain⟨tw,hne0⟩:=jK;have HC0:=aa (fun q:Wd q1.w=>eZ ⟨(some ⟨b1,o1,none⟩),l1,y1,a2,l2,y2,a3,l3,y3,a4,l4,y4,(some ⟨b,o,none⟩),l5,y5⟩ c.now c.xs t q.w (HR.x.below (HW.trans (q.b.mono HW.size))) HX.out HG1.out HG2.out);go_wp2_with fail;refine ag ar ar ?_;repeat (go_big_quiet_step (first|(go_at_call 103;exact Calls.wide (HC0.out _))|fail))
  refine wpQuiet_nil ?_;rintro _ ⟨q2,rfl⟩;obtain⟨HB2,Ck⟩:=dM;have Cr:=upK Gr q2.b;clear hne0 HW HB HC0 k0 k1 k2 k3 k4 k5 r0 r1 r2 r3 r4 r5 tw Gk Gr Bk Br hc1 hb1;have HB:=HB2;clear HB2;have Bk:=Ck;clear Ck;have Br:=Cr;clear Cr;go_wp2;go_ret;refine aq.f (fun h=>?_) HB.out;have h9:=(h.1 k p HXp.out).2.1 kq t HXt.out;rcases h9.2 with h2|⟨v',i,n',h2,_⟩
  ·exact HEm.out h2
  ·exact HD.out v' h2):p:=h
theorem EY {p:Prop} (h:p:=by
 obtain rfl:vl=kq:=af
 have HQb:Hid (PSb c p):=fun j t ht=>HQ2.out j t Bz ht;clear HQ2;have TV2:=aa (TV.below HBW.out);have KV2:=Bk;have GV2:=Br;have BV2:=HB;clear KV GV BV TV Bk Br HB HBW;obtain⟨W2,hW⟩:∃W2,W2=wr:=⟨_,rfl⟩;rw[<-hW] at KV2 GV2 BV2 TV2;go_wp2;clear pr3;rw[<-hW];clear hW;go_loopw [8] (fun i wr=> ∃kz:Nat,kz<=k/\i=.int .i64 kz/\Hid (∀(j:Nat) q,j<kz->c.ps[j]?=some q->lH c q p)/\Hid (Below W2.heap.size W2 wr)) (fun i _=>k - (intOf i).toNat);case atStart=>exact⟨0,by omega,rfl,fun _ _ h=>absurd h af,Ft _ _⟩
 case round=>
  obtain⟨kz,hkz,rfl,HQ3,HBW⟩:=hrel;have HB:=aa (BV2.trans (HBW.mono BV2.size));have Bk:=upK KV2 HBW.out;have Br:=upK GV2 HBW.out;have HTp:=aa (TV2.below HBW.out);by_cases hlt3:kz<k
  ·obtain⟨b',o',pq,e',hb',hqq,hatq⟩:=bY (HR.p.below HB.out) (show kz<l5 by omega);cases e';obtain⟨qa,ql,qc,hqr,z0,z2,z4,d0,d1,d2,d3,d4,d5⟩:=aS hatq;have HXq:=aa hqq;have HTq:=aa hqr;clear hatq hqq hqr z0 z2 z4;by_cases hpr:lH c pq p
   ·have HPr:=aa hpr;clear hpr;obtain⟨Gk,Gr,HW⟩:=bO;obtain⟨k0,k1,k2,k3,k4,k5⟩:=sl6 Gk;obtain⟨r0,r1,r2,r3,r4,r5⟩:=sl6 Gr;obtain⟨q0,q1,q2,q3,q4,q5,hne0⟩:=Ao;have HC0:=aa (fun qw:Wd wr=>(fw ⟨(some ⟨b1,o1,none⟩),l1,y1,a2,l2,y2,a3,l3,y3,a4,l4,y4,(some ⟨b,o,none⟩),l5,y5⟩ c pq p qa ql qc va vl vc qw.w (HR.below (HW.trans (qw.b.mono HW.size))) HX.out HV.out HNE.out (HTq.below qw.b) (HTp.below qw.b)).mono (fun _ _ h=>aq.yes h HPr.out));exact xA
   ·have HPr:=aa hpr;clear hpr;obtain⟨Gk,Gr,HW⟩:=bO;obtain⟨k0,k1,k2,k3,k4,k5⟩:=sl6 Gk;obtain⟨r0,r1,r2,r3,r4,r5⟩:=sl6 Gr;obtain⟨q0,q1,q2,q3,q4,q5,hne0⟩:=Ao;have HC0:=aa (fun qw:Wd wr=>(fw ⟨(some ⟨b1,o1,none⟩),l1,y1,a2,l2,y2,a3,l3,y3,a4,l4,y4,(some ⟨b,o,none⟩),l5,y5⟩ c pq p qa ql qc va vl vc qw.w (HR.below (HW.trans (qw.b.mono HW.size))) HX.out HV.out HNE.out (HTq.below qw.b) (HTp.below qw.b)).mono (fun _ _ h=>aq.no h HPr.out));exact xy
  ·exact xv):p:=h
theorem D9 {p:Prop} (h:p:=by
 exact qi):p:=h
theorem oe {p:Prop} (h:p:=by
 have HB:=HB1;clear HB1;have Bk:=Ck;clear Ck;clear ek;go_wp2_with fail;refine⟨⟨k+1,by omega,by go_num,fun j z hj hz=>?_,fun j z y hj hz hy=>?_,HB.out,Bk.out⟩,by simp[intOf];omega⟩
 ·exact wU
 ·by_cases e:j+1=k
  ·have hj:j=k - 1:=af
   subst hj;rw[Nat.sub_add_cancel hk0,HXx.out] at hz;obtain rfl:=Fo hz;rw[HXy.out] at hy;obtain rfl:=Fo hy;exact hless
  ·exact HO.out j z y af hz hy):p:=h
theorem od {p:Prop} (h:p:=by
 have HB:=HB1;clear HB1;have Bk:=Ck;clear Ck;clear hd;go_wp2_with fail;refine⟨⟨k+1,by omega,by go_num,fun j z hj hz=>?_,fun j z y hj hz hy=>?_,HB.out,Bk.out⟩,by simp[intOf];omega⟩
 ·exact wU
 ·by_cases e:j+1=k
  ·exact absurd hk0 af
  ·exact HO.out j z y af hz hy):p:=h
theorem nZ {p:Prop} (h:p:=by
 obtain rfl:len=k:=af
 go_wp2;go_ret;refine⟨rfl,?_,HB.out⟩;have h5:=HP.out;rw[FD af,List.drop_of_length_le aR,List.append_nil] at h5;exact h5):p:=h
theorem nW {p:Prop} (h:p:=by
 refine Obl.plain rfl ?_;intro ac wg K hsz hW hf hK;clear hsz;clear hf;go_simp;exact hK _ _ (al _ _) ⟨_,rfl,hW.size,FB⟩):p:=h
theorem fT {p:Prop} (h:p:=by
 obtain⟨h1,h2⟩:=Fk.1 hx;simpa using h2.symm):p:=h
theorem nR {p:Prop} (h:p:=by
 rw[h3] at h4;exact⟨by rw[List.length_map,fM hZl af];simp,Fq _,by omega,.inr ⟨_,cur,H,rfl,h4⟩⟩):p:=h
theorem gM {p:Prop} (h:p:=by
 rintro e w' ⟨rfl,rfl⟩;go_wp2;go_ret;exact⟨rfl,rfl⟩):p:=h
theorem nQ {p:Prop} (h:p:=by
 intro j r hr;rw[FA] at hr;obtain⟨x,hx,rfl⟩:=FG.1 hr;rfl):p:=h
theorem nN {p:Prop} (h:p:=by
 obtain⟨k0,k1,k2,k3,k4,k5⟩:=cs6 Bk;go_wp2;go_ret;exact⟨-1,rfl,.inl rfl,HB.out⟩):p:=h
theorem yJ {p:Prop} (h:p:=by
 have HCq:=aa hq;go_wp2_with fail;refine⟨⟨k+1,by omega,by go_num,fun j z hj hz=>?_,HB.out,Bk.out⟩,by simp[intOf];omega⟩;by_cases e:j=k
 ·subst e;rw[HXn.out] at hz;obtain rfl:=Fo hz;exact HCq.out
 ·exact HQ.out j z af hz):p:=h
theorem jX {p:Prop} (h:p:=by
 obtain⟨q,h1,h2⟩:=haty 0 _ rfl;obtain⟨rfl,-⟩:=h2;exact h1):p:=h
theorem yk {p:Prop} (h:p:=by
 obtain rfl:l1=k:=af
 go_wp2;go_ret;exact aq.t ⟨HQ1.out,fun j n hz=>HQ.out j n cZ hz⟩ HB.out):p:=h
theorem xR {p:Prop} (h:p:=by
 go_enter Tryz.func98,Tryz.ntmps98;go_wp2;refine wp_loop_rounds 1 ?_;rw[rounds_succ];go_wp2;go_ret;exact⟨rfl,rfl⟩):p:=h
theorem Dm {p:Prop} (h:p:=by
 subst e;rw[HXt.out] at hs;obtain rfl:=Fo hs;exact⟨⟨i4,x4,HG1.out,HG2.out⟩,.inl HEm.out⟩):p:=h
theorem xB {p:Prop} (h:p:=by
 obtain⟨gb,hgb⟩:∃gb,gb=wr.heap.size:=⟨_,rfl⟩;rw[<-hgb] at Br;have pr3:=ck3 Br;rw[hgb] at pr3;go_wp2;rw[<-hgb];clear pr3 hgb;have KV:=Bk;have GV:=Br;have BV:=HB;have TV:=HTp;clear Bk Br HB HTp;obtain⟨W,hW⟩:∃W,W=q0.w:=⟨_,rfl⟩;rw[<-hW] at KV GV BV TV ⊢;clear hW;go_loopw [6] (fun i wr=> ∃kq:Nat,kq<=vl/\i=.int .i64 kq/\Hid (∀(j:Nat) t,j<kq->p.zs[j]?=some t->DZ c p t)/\Hid (Below W.heap.size W wr)) (fun i _=>vl - (intOf i).toNat);case atStart=>exact⟨0,by omega,rfl,fun _ _ h=>absurd h af,Ft _ _⟩
 case round=>
  obtain⟨kq,hkq,rfl,HQ2,HBW⟩:=hrel;obtain⟨HB,Bk⟩:=nD;have Br:=upK GV HBW.out;have pr3:=ck3 Br;by_cases hlt2:kq<vl
  ·obtain⟨b2,o2,t,rfl,hb,hxt,hc,hsz⟩:=(TV.below HBW.out).at hlt2;have HXt:=aa hxt;clear hxt hsz;have hcase:(∃v,bI c t v)\/(∀v,¬bI c t v):=by
    by_cases h:∃v,bI c t v
    ·exact .inl h
    ·exact .inr (fun v hv=>h ⟨v,hv⟩)
   exact EZ
  ·exact EY):p:=h
theorem qi {p:Prop} (h:p:=by
 go_wp2_with fail;refine ag ar ar ?_;repeat (go_big_quiet_step (first|(go_at_call 103;exact Calls.wide (HC0.out _))|fail))
 refine wpQuiet_nil ?_;rintro _ ⟨q2,rfl⟩;obtain⟨HB2,Ck⟩:=dM;have Cr:=upK Gr q2.b;clear hne0 HW HB HC0 k0 k1 k2 k3 k4 k5 r0 r1 r2 r3 r4 r5 tw Gk Gr Bk Br hc1 hb1;have HB:=HB2;clear HB2;have Bk:=Ck;clear Ck;have Br:=Cr;clear Cr;go_wp2;go_ret;refine aq.f (fun h=>?_) HB.out;have h9:=(h.1 k p HXp.out).2.1 kq t HXt.out;exact HG.out h9.1):p:=h
theorem xA {p:Prop} (h:p:=by
 go_wp2_with fail;refine ag ar ar ?_;repeat (go_big_quiet_step (first|(go_at_call 145;exact Calls.wide (HC0.out _))|fail))
 refine wpQuiet_nil ?_;rintro _ ⟨q9,rfl⟩;have HB1:=upB HW q9.b;have Ck:=upK Gk q9.b;have Cr:=upK Gr q9.b;clear hne0 HW HB HC0 k0 k1 k2 k3 k4 k5 r0 r1 r2 r3 r4 r5 q0 q1 q2 q3 q4 q5 Gk Gr Bk Br d0 d1 d2 d3 d4 d5;have HB:=HB1;clear HB1;have Bk:=Ck;clear Ck;have Br:=Cr;clear Cr;go_wp2_with fail;refine⟨⟨kz+1,by omega,by go_num,fun j s hj hs=>?_,HBW.trans (q9.b.mono HBW.size)⟩,by simp[intOf];omega⟩;by_cases e:j=kz
 ·subst e;rw[HXq.out] at hs;obtain rfl:=Fo hs;exact HPr.out
 ·exact HQ3.out j s af hs):p:=h
theorem xz {p:Prop} (h:p:=by
 go_wp2_with fail;refine ag ar ar ?_;repeat (go_big_quiet_step (first|(go_at_call 103;exact Calls.wide (HC0.out _))|fail))
 refine wpQuiet_nil ?_;rintro _ ⟨q2,rfl⟩;obtain⟨HB2,Ck⟩:=dM;have Cr:=upK Gr q2.b;clear hne0 HW HB HC0 k0 k1 k2 k3 k4 k5 r0 r1 r2 r3 r4 r5 tw Gk Gr Bk Br hc1 hb1;have HB:=HB2;clear HB2;have Bk:=Ck;clear Ck;have Br:=Cr;clear Cr;go_wp2_with fail;refine⟨⟨kq+1,by omega,by go_num,fun j s hj hs=>?_,HBW1.trans (q2.b.mono HBW1.size)⟩,by simp[intOf];omega⟩;by_cases e:j=kq
 ·exact Dm
 ·exact HQ2.out j s af hs):p:=h
theorem xy {p:Prop} (h:p:=by
 go_wp2_with fail;refine ag ar ar ?_;repeat (go_big_quiet_step (first|(go_at_call 145;exact Calls.wide (HC0.out _))|fail))
 refine wpQuiet_nil ?_;rintro _ ⟨q9,rfl⟩;have HB1:=upB HW q9.b;have Ck:=upK Gk q9.b;have Cr:=upK Gr q9.b;clear hne0 HW HB HC0 k0 k1 k2 k3 k4 k5 r0 r1 r2 r3 r4 r5 q0 q1 q2 q3 q4 q5 Gk Gr Bk Br d0 d1 d2 d3 d4 d5;have HB:=HB1;clear HB1;have Bk:=Ck;clear Ck;have Br:=Cr;clear Cr;go_wp2;go_ret;exact aq.f (fun h=>HPr.out ((h.1 k p HXp.out).2.2 kz pq hlt3 HXq.out)) HB.out):p:=h
theorem qh {p:Prop} (h:p:=by
 have hgl:=ae (HS.own.choose_spec.choose_spec.1.blk);refine⟨_,_,_,rfl,HVZ.out,Fq _,by omega,HT.2.2.2.1,.inr ⟨rfl,by show w.heap.size<=_;omega,by omega,_,hG,fun j x hx=>?_⟩⟩;simp[hx]):p:=h
theorem lX {p:Prop} (h:p:=by
 refine Obl.plain rfl ?_;intro ac wg K hsz hW hf hK;clear hsz;have e3:=hf 3 aj;simp[ai,Fp] at e3;clear hf;exact aT):p:=h
theorem xv {p:Prop} (h:p:=by
 obtain rfl:k=kz:=af
 go_wp2_with fail;refine⟨⟨k+1,by omega,by go_num,fun j z hj hz=>?_,HB.out,Bk.out⟩,by simp[intOf];omega⟩;by_cases e:j=k
 ·subst e;rw[HXp.out] at hz;obtain rfl:=Fo hz;exact⟨HPa.out,HQb.out,fun j2 q2 hj2 hq2=>HQ3.out j2 q2 hj2 hq2⟩
 ·exact HQ.out j z af hz):p:=h
theorem jS {p:Prop} (h:p:=by
 rw[FA,cN hZl af,List.getElem?_replicate,if_pos hlt];rfl):p:=h
theorem qb {p:Prop} (h:p:=by
 refine Obl.plain rfl ?_;intro ac wg K hsz hW hf hK;clear hsz;have e2:=hf 2 aj;simp[ai,Fp] at e2;clear hf;exact aT):p:=h
theorem wU {p:Prop} (h:p:=by
 by_cases e:j=k
 ·subst e;rw[HXx.out] at hz;obtain rfl:=Fo hz;exact HOK.out
 ·exact HQ.out j z af hz):p:=h
theorem wN {p:Prop} (h:p:=by
 clear hf;obtain⟨k0,k1,k2,k3,k4,k5⟩:=cs6 ((hW.block _ (ae GK.out)).trans GK.out);exact aT):p:=h
theorem pL {p:Prop} (h:p:=by
 have HR:=aa hr;have hl1:c.ns.length=l1:=sh
 have hm1:l1<=9223372036854775807:=Fx hr.n.2.1 hr.n.2.2.1;have hl2:c.ks.length=l2:=by simpa using (show (c.ks.map kdF).length=l2 from hr.k.1)
 have hm2:l2<=9223372036854775807:=Fx hr.k.2.1 hr.k.2.2.1;have hl3:c.vs.length=l3:=kY
 have hm3:l3<=9223372036854775807:=Fx hr.v.2.1 hr.v.2.2.1;have hl4:c.xs.length=l4:=uQ
 have hm4:l4<=9223372036854775807:=Fx hr.x.2.1 hr.x.2.2.1;have hl5:c.ps.length=l5:=by simpa using (show (c.ps.map pdF).length=l5 from hr.p.1)
 have hm5:l5<=9223372036854775807:=Fx hr.p.2.1 hr.p.2.2.1;exact Fl HR (Fl hl1 (Fl hm1 (Fl hl2 (Fl hm2 (Fl hl3 (Fl hm3 (Fl hl4 (Fl hm4 (Fl hl5 hm5)))))))))):p:=h
theorem fJ {p:Prop} (h:p:=by
 have x0:=fun q:Wd wr=>(q.cell hb).trans c0;have x1:=fun q:Wd wr=>(q.cell hb).trans c1;have x2:=fun q:Wd wr=>(q.cell hb).trans c2;have x3:=fun q:Wd wr=>(q.cell hb).trans c3;have x4:=fun q:Wd wr=>(q.cell hb).trans c4;exact Fl x0 (Fl x1 (Fl x2 (Fl x3 x4)))):p:=h
theorem Ao {p:Prop} (h:p:=by
 have q0:∀q:Wd wr,q.w.cell? ⟨b,o+kz*6,none⟩=some (.string pq.n):=fun q=>(q.cell (hb')).trans (d0);have q1:∀q:Wd wr,q.w.cell? ⟨b,o+kz*6+1,none⟩=some (.int .i64 pq.c):=fun q=>(q.cell (hb')).trans (d1);have q2:∀q:Wd wr,q.w.cell? ⟨b,o+kz*6+2,none⟩=some (.string pq.z):=fun q=>(q.cell (hb')).trans (d2);have q3:∀q:Wd wr,q.w.cell? ⟨b,o+kz*6+3,none⟩=some (.slice qa ql qc):=fun q=>(q.cell (hb')).trans (d3);have q4:∀q:Wd wr,q.w.cell? ⟨b,o+kz*6+4,none⟩=some (.string pq.d):=fun q=>(q.cell (hb')).trans (d4);have q5:∀q:Wd wr,q.w.cell? ⟨b,o+kz*6+5,none⟩=some (.int .i64 pq.p):=fun q=>(q.cell (hb')).trans (d5);have hne0:=Wd.ne wr;exact Fl q0 (Fl q1 (Fl q2 (Fl q3 (Fl q4 (Fl q5 hne0)))))):p:=h
theorem Dg {p:Prop} (h:p:=by
 have Gk:Hid ((wr.alloc (.cells #[.string p.n,.int .i64 p.c,.string p.z,.slice va vl vc,.string p.d,.int .i64 2] 64)).heap[w.heap.size]?=some (.cells (c6 (some ⟨b1,o1,none⟩) l1 y1 a2 l2 y2 a3 l3 y3 a4 l4 y4 (some ⟨b,o,none⟩) l5 y5 c.now) 36 (0,0))):=(Fw _ _ _ (ae Bk.out)).trans (Bk.out);have Gr:Hid ((wr.alloc (.cells #[.string p.n,.int .i64 p.c,.string p.z,.slice va vl vc,.string p.d,.int .i64 2] 64)).heap[wr.heap.size]?=some (.cells #[.string p.n,.int .i64 p.c,.string p.z,.slice va vl vc,.string p.d,.int .i64 2] 64 (0,0))):=FB;have HW:Hid (Below w.heap.size w (wr.alloc (.cells #[.string p.n,.int .i64 p.c,.string p.z,.slice va vl vc,.string p.d,.int .i64 2] 64))):=(HB.trans ((al _ _).mono HB.size));exact Fl Gk (Fl Gr HW)):p:=h
theorem vy {p:Prop} (h:p:=by
 have nw:=fun q:Wd (wr.alloc (.cells #[.string p.n,.int .i64 p.c,.string p.z,.slice va vl vc,.string p.d,.int .i64 2] 64))=>(q.cell hbnv).trans e5v;have hne0:=Wd.ne (wr.alloc (.cells #[.string p.n,.int .i64 p.c,.string p.z,.slice va vl vc,.string p.d,.int .i64 2] 64));have HC0:=aa (fun q:Wd (wr.alloc (.cells #[.string p.n,.int .i64 p.c,.string p.z,.slice va vl vc,.string p.d,.int .i64 2] 64))=>jD ⟨(some ⟨b1,o1,none⟩),l1,y1,a2,l2,y2,a3,l3,y3,a4,l4,y4,(some ⟨b,o,none⟩),l5,y5⟩ c.now c.ns p.d q.w (HR.n.below (HW.trans (q.b.mono HW.size))) HNR.out HJn.out HNn.out);exact Fl nw (Fl hne0 HC0)):p:=h
theorem gL {p:Prop} (h:p:=by
 have HE:=aa h;have v0:=h.v0;have v1:=h.v1;have v2:=h.v2;have v3:=h.v3;have v4:=h.v4;have v5:=h.v5;have v6:=h.v6;have v7:=h.v7;have v8:=h.v8;have v9:=h.v9;exact Fl HE (Fl v0 (Fl v1 (Fl v2 (Fl v3 (Fl v4 (Fl v5 (Fl v6 (Fl v7 (Fl v8 v9)))))))))):p:=h
theorem so {p:Prop} (h:p:=by
 have Gk:=Bk;have Gv:=Bv;have HW:=HB;have k2:=fun q:Wd q1.w=>q.slot (o:=2) Gk.out rfl;have v0:=fun q:Wd q1.w=>q.slot (o:=0) Gv.out rfl;have v2:=fun q:Wd q1.w=>q.slot (o:=2) Gv.out rfl;have v5:=fun q:Wd q1.w=>q.slot (o:=5) Gv.out rfl;have v6:=fun q:Wd q1.w=>q.slot (o:=6) Gv.out rfl;exact Fl Gk (Fl Gv (Fl HW (Fl k2 (Fl v0 (Fl v2 (Fl v5 v6))))))):p:=h
theorem nK {p:Prop} (h:p:=by
 have v1w:=fun q:Wd w2=>(q.cell hbv).trans v1;have v3w:=fun q:Wd w2=>(q.cell hbv).trans v3;have v4w:=fun q:Wd w2=>(q.cell hbv).trans v4;have v5w:=fun q:Wd w2=>(q.cell hbv).trans v5;have hne0:=Wd.ne w2;exact Fl v1w (Fl v3w (Fl v4w (Fl v5w hne0)))):p:=h
theorem sn {p:Prop} (h:p:=by
 have HW:=HB;have k1:=fun q:Wd wr=>q.slot (o:=1) Gk.out rfl;have x0:=fun q:Wd wr=>(q.cell hb).trans c0;have x1:=fun q:Wd wr=>(q.cell hb).trans c1;have x2:=fun q:Wd wr=>(q.cell hb).trans c2;have x3:=fun q:Wd wr=>(q.cell hb).trans c3;exact Fl HW (Fl k1 (Fl x0 (Fl x1 (Fl x2 x3))))):p:=h
theorem vp {p:Prop} (h:p:=by
 have hbnv:b1<(wr.alloc (.cells #[.string p.n,.int .i64 p.c,.string p.z,.slice va vl vc,.string p.d,.int .i64 2] 64)).heap.size:=by simp;omega
 have e5v:=(ak (al wr (.cells #[.string p.n,.int .i64 p.c,.string p.z,.slice va vl vc,.string p.d,.int .i64 2] 64)) hbn).trans e5;exact Fl hbnv e5v):p:=h
theorem iT {p:Prop} (h:p:=by
 have x5:=fun q:Wd wr=>(q.cell hb).trans c5;have x6:=fun q:Wd wr=>(q.cell hb).trans c6;exact Fl x5 x6):p:=h
theorem nI {p:Prop} (h:p:=by
 have hnx1:=(Ft _ _).grown hgrow (Fq _) (fun k hk=>by cases hk);have HB:Hid (Below w.heap.size w w1):=hnx1;exact Fl hnx1 HB):p:=h
theorem B9 {p:Prop} (h:p:=by
 have p3:=fun q:Wd wr=>q.slot (o:=3) Gp.out rfl;have n6:=fun q:Wd wr=>q.slot (o:=6) Gn.out rfl;have tw:=fun q:Wd wr=>(q.cell hb).trans hc;have vw:=fun q:Wd wr=>(q.cell hbv).trans v0;have hne0:=Wd.ne wr;have HC0:=aa (fun q:Wd wr=>fz ⟨(some ⟨b1,o1,none⟩),l1,y1,a2,l2,y2,(some ⟨b3,o3,none⟩),l3,y3,a4,l4,y4,a5,l5,y5⟩ c t q.w (HR.below (HW.trans (q.b.mono HW.size))) HX.out HV.out HNE.out HJ.out HDb.out);exact Fl p3 (Fl n6 (Fl tw (Fl vw (Fl hne0 HC0))))):p:=h
theorem fQ {p:Prop} (h:p:=by
 have yw:=fun q:Wd wr=>(q.cell hb).trans y0;have hne0:=Wd.ne wr;exact Fl yw hne0):p:=h
theorem B7 {p:Prop} (h:p:=by
 have tw:=fun q:Wd q1.w=>(q.cell hb1).trans hc1;have vw:=fun q:Wd q1.w=>(q.cell hbv).trans v2;have nw:=fun q:Wd q1.w=>(q.cell hbn).trans n1;have hne0:=Wd.ne q1.w;have HC0:=aa (fun q:Wd q1.w=>eZ ⟨(some ⟨b1,o1,none⟩),l1,y1,a2,l2,y2,(some ⟨b3,o3,none⟩),l3,y3,a4,l4,y4,(some ⟨b,o,none⟩),l5,y5⟩ c.now c.xs t q.w (HR.x.below (HW.trans (q.b.mono HW.size))) HX.out HG1.out HG2.out);exact Fl tw (Fl vw (Fl nw (Fl hne0 HC0)))):p:=h
theorem bO {p:Prop} (h:p:=by
 have Gk:=Bk;have Gr:=Br;have HW:=HB;exact Fl Gk (Fl Gr HW)):p:=h
theorem df {p:Prop} (h:p:=by
 have HB1:=upB HW q.b;have Ck:=upK Gk q.b;exact Fl HB1 Ck):p:=h
theorem vh {p:Prop} (h:p:=by
 have Gk:=Bk;have Gv:=Bv;have HW:=HB;have k0:=fun q:Wd q1.w=>q.slot (o:=0) Gk.out rfl;have v2:=fun q:Wd q1.w=>q.slot (o:=2) Gv.out rfl;have v7:=fun q:Wd q1.w=>q.slot (o:=7) Gv.out rfl;exact Fl Gk (Fl Gv (Fl HW (Fl k0 (Fl v2 v7))))):p:=h
theorem BZ {p:Prop} (h:p:=by
 have h8:=@run_callFunc_extern Tryz.prog 131 _ Extern.ReflectliteType.typeOf Tryz.func131 ar ar ar ar;have h32:=@run_callFunc_extern Tryz.prog 288 _ Eo Tryz.func288 ar ar ar ar;have tT:=zp;have cT:=mn;have mR:=gg;exact Fl h8 (Fl h32 (Fl tT (Fl cT mR)))):p:=h
theorem iS {p:Prop} (h:p:=by
 have tw:=fun q:Wd wr=>(q.cell hb).trans hc;have hne0:=Wd.ne wr;exact Fl tw hne0):p:=h
theorem jK {p:Prop} (h:p:=by
 have tw:=fun q:Wd q1.w=>(q.cell hb1).trans hc1;have hne0:=Wd.ne q1.w;exact Fl tw hne0):p:=h
theorem nF {p:Prop} (h:p:=by
 have HB2:=upB HW q0.b;have Ck:=upK Gk q0.b;have Cr:=upK Gr q0.b;have CHTp:=aa ((HTp.out).below q0.b);exact Fl HB2 (Fl Ck (Fl Cr CHTp))):p:=h
theorem BX {p:Prop} (h:p:=by
 have yw:=fun q:Wd w1=>(q.cell hbv).trans hcv;have hne0:=Wd.ne w1;have HC0:=aa (fun q:Wd w1=>dX ⟨a1,l1,y1,a2,l2,y2,(some ⟨b,o,none⟩),l3,y3,(some ⟨b4,o4,none⟩),l4,y4,a5,l5,y5⟩ c.now c.ks v.k q.w (HR.k.below (HW.trans (q.b.mono HW.size))) HKS.out HG1.out HG2.out);exact Fl yw (Fl hne0 HC0)):p:=h
theorem BU {p:Prop} (h:p:=by
 have Gk:=Bk;have Gv:=Bv;have HW:=HB;have k0:=fun q:Wd wr=>q.slot (o:=0) Gk.out rfl;have k1:=fun q:Wd wr=>q.slot (o:=1) Gk.out rfl;have k2:=fun q:Wd wr=>q.slot (o:=2) Gk.out rfl;have k3:=fun q:Wd wr=>q.slot (o:=3) Gk.out rfl;have k4:=fun q:Wd wr=>q.slot (o:=4) Gk.out rfl;have k5:=fun q:Wd wr=>q.slot (o:=5) Gk.out rfl;exact Fl Gk (Fl Gv (Fl HW (Fl k0 (Fl k1 (Fl k2 (Fl k3 (Fl k4 k5)))))))):p:=h
theorem BK {p:Prop} (h:p:=by
 have hne0:=Wd.ne w1;have HC0:=aa (fun q:Wd w1=>dX ⟨a1,l1,y1,a2,l2,y2,(some ⟨b,o,none⟩),l3,y3,a4,l4,y4,a5,l5,y5⟩ c.now c.ks v.k q.w (HR.k.below (HW.trans (q.b.mono HW.size))) HKS.out HG1.out HG2.out);exact Fl hne0 HC0):p:=h
theorem sj {p:Prop} (h:p:=by
 have hc1:=(q1.cell hb).trans hc;have hb1:=FC hb q1.b.size;have HBW1:=upB HBW q1.b;exact Fl hc1 (Fl hb1 HBW1)):p:=h
theorem nA {p:Prop} (h:p:=by
 have hd:decide ((0:Int)<k)=false:=by simp;omega
 have Gk:=Bk;exact Fl hd Gk):p:=h
theorem uY {p:Prop} (h:p:=by
 have HT:=aa hvr;have hvl2:vl<=1048576:=by have:=HF.out k v hv;rw[hvr.1] at this;exact this
 have hvz:=hvr.1;have HVZ:=aa hvz;exact Fl HT (Fl hvl2 (Fl hvz HVZ))):p:=h
theorem fO {p:Prop} (h:p:=by
 have Ck:=upK Gk q1.b;have Cr:=upK Gr q1.b;exact Fl Ck Cr):p:=h
theorem BG {p:Prop} (h:p:=by
 have Gk:Hid (wr.heap[w.heap.size]?=some (.cells (c6 (some ⟨b,o,none⟩) l1 y1 a2 l2 y2 a3 l3 y3 a4 l4 y4 a5 l5 y5 c.now) 36 (0,0))):=Bk.out;have HW:=HB;have k0:=fun q:Wd wr=>q.slot (o:=0) Gk.out rfl;exact Fl Gk (Fl HW k0)):p:=h
theorem BF {p:Prop} (h:p:=by
 have Gk:Hid (wr.heap[w.heap.size]?=some (.cells (c6 a1 l1 y1 a2 l2 y2 (some ⟨b,o,none⟩) l3 y3 a4 l4 y4 a5 l5 y5 c.now) 36 (0,0))):=Bk.out;have HW:=HB;have k2:=fun q:Wd wr=>q.slot (o:=2) Gk.out rfl;exact Fl Gk (Fl HW k2)):p:=h
theorem BE {p:Prop} (h:p:=by
 have Gk:Hid (wr.heap[w.heap.size]?=some (.cells (c6 a1 l1 y1 a2 l2 y2 a3 l3 y3 (some ⟨b,o,none⟩) l4 y4 a5 l5 y5 c.now) 36 (0,0))):=Bk.out;have HW:=HB;have k3:=fun q:Wd wr=>q.slot (o:=3) Gk.out rfl;exact Fl Gk (Fl HW k3)):p:=h
theorem BD {p:Prop} (h:p:=by
 have Gk:Hid (wr.heap[w.heap.size]?=some (.cells (c6 a1 l1 y1 a2 l2 y2 a3 l3 y3 a4 l4 y4 (some ⟨b,o,none⟩) l5 y5 c.now) 36 (0,0))):=Bk.out;have HW:=HB;have k4:=fun q:Wd wr=>q.slot (o:=4) Gk.out rfl;exact Fl Gk (Fl HW k4)):p:=h
theorem lT {p:Prop} (h:p:=by
 have HG1:=aa g1;have HG2:=aa g2;have hi41:decide ((i4:Int)<0)=false:=aR
 exact Fl HG1 (Fl HG2 hi41)):p:=h
end Go.Proofs.YtpejepeekdjfoaaGreatDoor
namespace Go.Proofs.YtpejepeekdjfoaaGreatDoor
open Go.RowKit
namespace Rc
open Mk

theorem tg (d:Ad) (c:Cl) (w:World) (hr:aJ w d c.raw):
  Calls Tryz.prog 110 #[.agg #[.slice d.a1 d.l1 d.c1,.slice d.a2 d.l2 d.c2,.slice d.a3 d.l3 d.c3,.slice d.a4 d.l4 d.c4,.slice d.a5 d.l5 d.c5,.int .i64 c.now]] w (aq (cW c) w):=by
 obtain⟨a1,l1,y1,a2,l2,y2,a3,l3,y3,a4,l4,y4,a5,l5,y5⟩:=d;dsimp only;obtain⟨HR,hl1,hm1,hl2,hm2,hl3,hm3,hl4,hm4,hl5,hm5⟩:=pL;clear hr;by_cases hL1:(6:Int)<l1
 ·go_enter Tryz.func110,Tryz.ntmps110;go_wp2;go_ret;exact aq.f (fun h=>by have:=h.1.1;omega) (al _ _)
 by_cases hL2:(8:Int)<l2
 ·go_enter Tryz.func110,Tryz.ntmps110;go_wp2;go_ret;exact aq.f (fun h=>by have:=h.2.1.1;omega) (al _ _)
 by_cases hL3:(8:Int)<l3
 ·go_enter Tryz.func110,Tryz.ntmps110;go_wp2;go_ret;exact aq.f (fun h=>by have:=h.2.2.1.1;omega) (al _ _)
 by_cases hL4:(8:Int)<l4
 ·go_enter Tryz.func110,Tryz.ntmps110;go_wp2;go_ret;exact aq.f (fun h=>by have:=h.2.2.2.1.1;omega) (al _ _)
 by_cases hL5:(8:Int)<l5
 ·go_enter Tryz.func110,Tryz.ntmps110;go_wp2;go_ret;exact aq.f (fun h=>by have:=h.2.2.2.2.1;omega) (al _ _)
 go_enter Tryz.func110,Tryz.ntmps110;go_wp2;go_loopw [3] (fun i wr=> ∃k:Nat,k<=l1/\i=.int .i64 k/\Hid (∀(j:Nat) z,j<k->c.ns[j]?=some z->ow z)/\Hid (∀(j:Nat) z u,j+1<k->c.ns[j+1]?=some z->c.ns[j]?=some u->Fz u.n.toList z.n.toList=true)/\Hid (Below w.heap.size w wr)/\Hid (wr.heap[w.heap.size]?=some (.cells (c6 a1 l1 y1 a2 l2 y2 a3 l3 y3 a4 l4 y4 a5 l5 y5 c.now) 36 (0,0)))) (fun i _=>l1 - (intOf i).toNat);case atStart=>exact⟨0,by omega,rfl,fun _ _ h=>absurd h af,fun _ _ _ h=>absurd h af,al _ _,FB⟩
 case round=>
  obtain⟨k,hk,rfl,HQ,HO,HB,Bk⟩:=hrel;have pk:=ck0 Bk;by_cases hlt:k<l1
  ·obtain⟨b,o,x,rfl,hb,hx,hat⟩:=cA (HR.n.below HB.out) hlt;obtain⟨va,vl,vc,hvr,z0,z1,c0,c1,c2,c3,c4,c5,c6⟩:=aZ hat;have HXx:=aa hx;have HTx:=aa hvr;have HZx0:=aa z0;have HZx1:=aa z1;clear hat hx z0 z1 hvr;by_cases hok:ow x;rotate_left
   ·have HOK:=aa hok;clear hok;have Gk:=Bk;have HW:=HB;have k0:=fun q:Wd wr=>q.slot (o:=0) Gk.out rfl;obtain⟨x0,x1,x2,x3,x4⟩:=fJ;obtain⟨x5,x6⟩:=iT;have hne0:=Wd.ne wr;have HC0:=aa (fun q:Wd wr=>(fx x.n x.z x.c x.s x.u x.d va vl vc x.zs q.w HZx0.out HZx1.out (HTx.below q.b)).mono (fun _ _ h=>aq.no h HOK.out));go_wp2_with fail;refine ag ar ar ?_;repeat (go_big_quiet_step (first|(go_at_call 139;exact Calls.wide (HC0.out _))|fail))
    refine wpQuiet_nil ?_;rintro _ ⟨q,rfl⟩;obtain⟨HB1,Ck⟩:=df;clear hne0 HW HB HC0 k0 x0 x1 x2 x3 x4 x5 x6 Gk Bk c0 c1 c2 c3 c4 c5 c6 pk;have HB:=HB1;clear HB1;have Bk:=Ck;clear Ck;go_wp2;go_ret;exact aq.f (fun h=>HOK.out (h.1.2.1 k x HXx.out)) HB.out
   have HOK:=aa hok;clear hok;by_cases hk0:0<k;rotate_left
   ·obtain⟨hd,Gk⟩:=nA;have HW:=HB;have k0:=fun q:Wd wr=>q.slot (o:=0) Gk.out rfl;obtain⟨x0,x1,x2,x3,x4⟩:=fJ;obtain⟨x5,x6⟩:=iT;have hne0:=Wd.ne wr;have HC0:=aa (fun q:Wd wr=>(fx x.n x.z x.c x.s x.u x.d va vl vc x.zs q.w HZx0.out HZx1.out (HTx.below q.b)).mono (fun _ _ h=>aq.yes h HOK.out));go_wp2_with fail;refine ag ar ar ?_;repeat (go_big_quiet_step (first|(go_at_call 139;exact Calls.wide (HC0.out _))|fail))
    refine wpQuiet_nil ?_;rintro _ ⟨q,rfl⟩;obtain⟨HB1,Ck⟩:=df;clear hne0 HW HB HC0 k0 x0 x1 x2 x3 x4 x5 x6 Gk Bk c0 c1 c2 c3 c4 c5 c6 pk;exact od
   have ek:((k:Int) - 1).toNat=k - 1:=af
   obtain⟨b',o',y,e',hb',hy,haty⟩:=cA (HR.n.below HB.out) (show k - 1<l1 by omega);cases e';have y0:wr.cell? ⟨b,o+(k - 1)*7,none⟩=some (.string y.n):=by
    exact jX
   have HXy:=aa hy;clear hy haty;cases hless:Fz y.n.toList x.n.toList
   ·obtain⟨Gk,HW,k0⟩:=BG;obtain⟨x0,x1,x2,x3,x4⟩:=fJ;obtain⟨x5,x6⟩:=iT;obtain⟨yw,hne0⟩:=fQ;have HC0:=aa (fun q:Wd wr=>(fx x.n x.z x.c x.s x.u x.d va vl vc x.zs q.w HZx0.out HZx1.out (HTx.below q.b)).mono (fun _ _ h=>aq.yes h HOK.out));go_wp2_with fail;refine ag ar ar ?_;repeat (go_big_quiet_step (first|(go_at_call 139;exact Calls.wide (HC0.out _))|fail))
    refine wpQuiet_nil ?_;rintro _ ⟨q,rfl⟩;obtain⟨HB1,Ck⟩:=df;clear hne0 HW HB HC0 k0 x0 x1 x2 x3 x4 x5 x6 yw Gk Bk c0 c1 c2 c3 c4 c5 c6 pk y0;have HB:=HB1;clear HB1;have Bk:=Ck;clear Ck;go_wp2;go_ret;refine aq.f (fun h=>?_) HB.out;have h3:=h.1.2.2 (k - 1) x y nu HXy.out;rw[hless] at h3;cases h3
   ·obtain⟨Gk,HW,k0⟩:=BG;obtain⟨x0,x1,x2,x3,x4⟩:=fJ;obtain⟨x5,x6⟩:=iT;obtain⟨yw,hne0⟩:=fQ;have HC0:=aa (fun q:Wd wr=>(fx x.n x.z x.c x.s x.u x.d va vl vc x.zs q.w HZx0.out HZx1.out (HTx.below q.b)).mono (fun _ _ h=>aq.yes h HOK.out));go_wp2_with fail;refine ag ar ar ?_;repeat (go_big_quiet_step (first|(go_at_call 139;exact Calls.wide (HC0.out _))|fail))
    refine wpQuiet_nil ?_;rintro _ ⟨q,rfl⟩;obtain⟨HB1,Ck⟩:=df;clear hne0 HW HB HC0 k0 x0 x1 x2 x3 x4 x5 x6 yw Gk Bk c0 c1 c2 c3 c4 c5 c6 pk y0;exact oe
  ·obtain rfl:l1=k:=af
   have HR1:Hid (ec ow Nd.n c.ns 6):=⟨by omega,fun j z hz=>HQ.out j z cZ hz,fun j z u hz hu=>HO.out j z u cZ hz hu⟩;clear HQ HO;skip;have kc:=ck1 Bk;go_wp2;go_loopw [4] (fun i wr=> ∃k:Nat,k<=l2/\i=.int .i64 k/\Hid (∀(j:Nat) z,j<k->c.ks[j]?=some z->ri z)/\Hid (∀(j:Nat) z u,j+1<k->c.ks[j+1]?=some z->c.ks[j]?=some u->Fz u.n.toList z.n.toList=true)/\Hid (Below w.heap.size w wr)/\Hid (wr.heap[w.heap.size]?=some (.cells (c6 a1 l1 y1 a2 l2 y2 a3 l3 y3 a4 l4 y4 a5 l5 y5 c.now) 36 (0,0)))) (fun i _=>l2 - (intOf i).toNat);case atStart=>exact⟨0,by omega,rfl,fun _ _ h=>absurd h af,fun _ _ _ h=>absurd h af,HB.out,Bk.out⟩
   case round=>
    obtain⟨k,hk,rfl,HQ,HO,HB,Bk⟩:=hrel;have pk:=ck1 Bk;by_cases hlt:k<l2
    ·obtain⟨b,o,x,rfl,hb,hx,hat⟩:=eW (HR.k.below HB.out) hlt;obtain⟨z0,z3,c0,c1,c2,c3⟩:=cf hat;have HXx:=aa hx;have HZx0:=aa z0;have HZx3:=aa z3;clear hat hx z0 z3;by_cases hok:ri x;rotate_left
     ·have HOK:=aa hok;clear hok;have Gk:=Bk;obtain⟨HW,k1,x0,x1,x2,x3⟩:=sn;have hne0:=Wd.ne wr;have HC0:=aa (fun q:Wd wr=>(eI x.n x.z x.x x.y q.w HZx0.out HZx3.out).mono (fun _ _ h=>aq.no h HOK.out));go_wp2_with fail;refine ag ar ar ?_;repeat (go_big_quiet_step (first|(go_at_call 140;exact Calls.wide (HC0.out _))|fail))
      refine wpQuiet_nil ?_;rintro _ ⟨q,rfl⟩;obtain⟨HB1,Ck⟩:=df;clear hne0 HW HB HC0 k1 x0 x1 x2 x3 Gk Bk c0 c1 c2 c3 pk;have HB:=HB1;clear HB1;have Bk:=Ck;clear Ck;go_wp2;go_ret;exact aq.f (fun h=>HOK.out (h.2.1.2.1 k x HXx.out)) HB.out
     have HOK:=aa hok;clear hok;by_cases hk0:0<k;rotate_left
     ·obtain⟨hd,Gk⟩:=nA;obtain⟨HW,k1,x0,x1,x2,x3⟩:=sn;have hne0:=Wd.ne wr;have HC0:=aa (fun q:Wd wr=>(eI x.n x.z x.x x.y q.w HZx0.out HZx3.out).mono (fun _ _ h=>aq.yes h HOK.out));go_wp2_with fail;refine ag ar ar ?_;repeat (go_big_quiet_step (first|(go_at_call 140;exact Calls.wide (HC0.out _))|fail))
      refine wpQuiet_nil ?_;rintro _ ⟨q,rfl⟩;obtain⟨HB1,Ck⟩:=df;clear hne0 HW HB HC0 k1 x0 x1 x2 x3 Gk Bk c0 c1 c2 c3 pk;exact od
     have ek:((k:Int) - 1).toNat=k - 1:=af
     obtain⟨b',o',y,e',hb',hy,haty⟩:=eW (HR.k.below HB.out) (show k - 1<l2 by omega);cases e';have y0:wr.cell? ⟨b,o+(k - 1)*4,none⟩=some (.string y.n):=by
      exact jX
     have HXy:=aa hy;clear hy haty;cases hless:Fz y.n.toList x.n.toList
     ·have Gk:Hid (wr.heap[w.heap.size]?=some (.cells (c6 a1 l1 y1 (some ⟨b,o,none⟩) l2 y2 a3 l3 y3 a4 l4 y4 a5 l5 y5 c.now) 36 (0,0))):=Bk.out;obtain⟨HW,k1,x0,x1,x2,x3⟩:=sn;obtain⟨yw,hne0⟩:=fQ;have HC0:=aa (fun q:Wd wr=>(eI x.n x.z x.x x.y q.w HZx0.out HZx3.out).mono (fun _ _ h=>aq.yes h HOK.out));go_wp2_with fail;refine ag ar ar ?_;repeat (go_big_quiet_step (first|(go_at_call 140;exact Calls.wide (HC0.out _))|fail))
      refine wpQuiet_nil ?_;rintro _ ⟨q,rfl⟩;obtain⟨HB1,Ck⟩:=df;clear hne0 HW HB HC0 k1 x0 x1 x2 x3 yw Gk Bk c0 c1 c2 c3 pk y0;have HB:=HB1;clear HB1;have Bk:=Ck;clear Ck;go_wp2;go_ret;refine aq.f (fun h=>?_) HB.out;have h3:=h.2.1.2.2 (k - 1) x y nu HXy.out;rw[hless] at h3;cases h3
     ·have Gk:Hid (wr.heap[w.heap.size]?=some (.cells (c6 a1 l1 y1 (some ⟨b,o,none⟩) l2 y2 a3 l3 y3 a4 l4 y4 a5 l5 y5 c.now) 36 (0,0))):=Bk.out;obtain⟨HW,k1,x0,x1,x2,x3⟩:=sn;obtain⟨yw,hne0⟩:=fQ;have HC0:=aa (fun q:Wd wr=>(eI x.n x.z x.x x.y q.w HZx0.out HZx3.out).mono (fun _ _ h=>aq.yes h HOK.out));go_wp2_with fail;refine ag ar ar ?_;repeat (go_big_quiet_step (first|(go_at_call 140;exact Calls.wide (HC0.out _))|fail))
      refine wpQuiet_nil ?_;rintro _ ⟨q,rfl⟩;obtain⟨HB1,Ck⟩:=df;clear hne0 HW HB HC0 k1 x0 x1 x2 x3 yw Gk Bk c0 c1 c2 c3 pk y0;exact oe
    ·obtain rfl:l2=k:=af
     have HR2:Hid (ec ri Kd.n c.ks 8):=⟨by omega,fun j z hz=>HQ.out j z cZ hz,fun j z u hz hu=>HO.out j z u cZ hz hu⟩;clear HQ HO;skip;have kc:=ck2 Bk;go_wp2;go_loopw [5] (fun i wr=> ∃k:Nat,k<=l3/\i=.int .i64 k/\Hid (∀(j:Nat) z,j<k->c.vs[j]?=some z->ph z)/\Hid (∀(j:Nat) z u,j+1<k->c.vs[j+1]?=some z->c.vs[j]?=some u->Fz u.n.toList z.n.toList=true)/\Hid (Below w.heap.size w wr)/\Hid (wr.heap[w.heap.size]?=some (.cells (c6 a1 l1 y1 a2 l2 y2 a3 l3 y3 a4 l4 y4 a5 l5 y5 c.now) 36 (0,0)))) (fun i _=>l3 - (intOf i).toNat);case atStart=>exact⟨0,by omega,rfl,fun _ _ h=>absurd h af,fun _ _ _ h=>absurd h af,HB.out,Bk.out⟩
     case round=>
      obtain⟨k,hk,rfl,HQ,HO,HB,Bk⟩:=hrel;have pk:=ck2 Bk;by_cases hlt:k<l3
      ·obtain⟨b,o,x,rfl,hb,hx,hat⟩:=bN (HR.v.below HB.out) hlt;obtain⟨va,vl,vc,hvr,z0,z2,z3,z5,c0,c1,c2,c3,c4,c5,c6,c7⟩:=aK hat;have HXx:=aa hx;have HTx:=aa hvr;have HZx0:=aa z0;have HZx2:=aa z2;have HZx3:=aa z3;have HZx5:=aa z5;clear hat hx z0 z2 z3 z5 hvr;by_cases hok:ph x;rotate_left
       ·have HOK:=aa hok;clear hok;have Gk:=Bk;have HW:=HB;have k2:=fun q:Wd wr=>q.slot (o:=2) Gk.out rfl;obtain⟨x0,x1,x2,x3,x4⟩:=fJ;obtain⟨x5,x6⟩:=iT;have x7:=fun q:Wd wr=>(q.cell hb).trans c7;have hne0:=Wd.ne wr;have HC0:=aa (fun q:Wd wr=>(gA x.n x.c x.z x.k x.x x.m x.y va vl vc x.zs q.w HZx0.out HZx2.out HZx3.out HZx5.out (HTx.below q.b)).mono (fun _ _ h=>aq.no h HOK.out));go_wp2_with fail;refine ag ar ar ?_;repeat (go_big_quiet_step (first|(go_at_call 141;exact Calls.wide (HC0.out _))|fail))
        refine wpQuiet_nil ?_;rintro _ ⟨q,rfl⟩;obtain⟨HB1,Ck⟩:=df;clear hne0 HW HB HC0 k2 x0 x1 x2 x3 x4 x5 x6 x7 Gk Bk c0 c1 c2 c3 c4 c5 c6 c7 pk;have HB:=HB1;clear HB1;have Bk:=Ck;clear Ck;go_wp2;go_ret;exact aq.f (fun h=>HOK.out (h.2.2.1.2.1 k x HXx.out)) HB.out
       have HOK:=aa hok;clear hok;by_cases hk0:0<k;rotate_left
       ·obtain⟨hd,Gk⟩:=nA;have HW:=HB;have k2:=fun q:Wd wr=>q.slot (o:=2) Gk.out rfl;obtain⟨x0,x1,x2,x3,x4⟩:=fJ;obtain⟨x5,x6⟩:=iT;have x7:=fun q:Wd wr=>(q.cell hb).trans c7;have hne0:=Wd.ne wr;have HC0:=aa (fun q:Wd wr=>(gA x.n x.c x.z x.k x.x x.m x.y va vl vc x.zs q.w HZx0.out HZx2.out HZx3.out HZx5.out (HTx.below q.b)).mono (fun _ _ h=>aq.yes h HOK.out));go_wp2_with fail;refine ag ar ar ?_;repeat (go_big_quiet_step (first|(go_at_call 141;exact Calls.wide (HC0.out _))|fail))
        refine wpQuiet_nil ?_;rintro _ ⟨q,rfl⟩;obtain⟨HB1,Ck⟩:=df;clear hne0 HW HB HC0 k2 x0 x1 x2 x3 x4 x5 x6 x7 Gk Bk c0 c1 c2 c3 c4 c5 c6 c7 pk;exact od
       have ek:((k:Int) - 1).toNat=k - 1:=af
       obtain⟨b',o',y,e',hb',hy,haty⟩:=bN (HR.v.below HB.out) (show k - 1<l3 by omega);cases e';have y0:wr.cell? ⟨b,o+(k - 1)*8,none⟩=some (.string y.n):=by
        exact jX
       have HXy:=aa hy;clear hy haty;cases hless:Fz y.n.toList x.n.toList
       ·obtain⟨Gk,HW,k2⟩:=BF;obtain⟨x0,x1,x2,x3,x4⟩:=fJ;obtain⟨x5,x6⟩:=iT;have x7:=fun q:Wd wr=>(q.cell hb).trans c7;obtain⟨yw,hne0⟩:=fQ;have HC0:=aa (fun q:Wd wr=>(gA x.n x.c x.z x.k x.x x.m x.y va vl vc x.zs q.w HZx0.out HZx2.out HZx3.out HZx5.out (HTx.below q.b)).mono (fun _ _ h=>aq.yes h HOK.out));go_wp2_with fail;refine ag ar ar ?_;repeat (go_big_quiet_step (first|(go_at_call 141;exact Calls.wide (HC0.out _))|fail))
        refine wpQuiet_nil ?_;rintro _ ⟨q,rfl⟩;obtain⟨HB1,Ck⟩:=df;clear hne0 HW HB HC0 k2 x0 x1 x2 x3 x4 x5 x6 x7 yw Gk Bk c0 c1 c2 c3 c4 c5 c6 c7 pk y0;have HB:=HB1;clear HB1;have Bk:=Ck;clear Ck;go_wp2;go_ret;refine aq.f (fun h=>?_) HB.out;have h3:=h.2.2.1.2.2 (k - 1) x y nu HXy.out;rw[hless] at h3;cases h3
       ·obtain⟨Gk,HW,k2⟩:=BF;obtain⟨x0,x1,x2,x3,x4⟩:=fJ;obtain⟨x5,x6⟩:=iT;have x7:=fun q:Wd wr=>(q.cell hb).trans c7;obtain⟨yw,hne0⟩:=fQ;have HC0:=aa (fun q:Wd wr=>(gA x.n x.c x.z x.k x.x x.m x.y va vl vc x.zs q.w HZx0.out HZx2.out HZx3.out HZx5.out (HTx.below q.b)).mono (fun _ _ h=>aq.yes h HOK.out));go_wp2_with fail;refine ag ar ar ?_;repeat (go_big_quiet_step (first|(go_at_call 141;exact Calls.wide (HC0.out _))|fail))
        refine wpQuiet_nil ?_;rintro _ ⟨q,rfl⟩;obtain⟨HB1,Ck⟩:=df;clear hne0 HW HB HC0 k2 x0 x1 x2 x3 x4 x5 x6 x7 yw Gk Bk c0 c1 c2 c3 c4 c5 c6 c7 pk y0;exact oe
      ·obtain rfl:l3=k:=af
       have HR3:Hid (ec ph Vd.n c.vs 8):=⟨by omega,fun j z hz=>HQ.out j z cZ hz,fun j z u hz hu=>HO.out j z u cZ hz hu⟩;clear HQ HO;skip;have kc:=ck3 Bk;go_wp2;go_loopw [6] (fun i wr=> ∃k:Nat,k<=l4/\i=.int .i64 k/\Hid (∀(j:Nat) z,j<k->c.xs[j]?=some z->o_ z)/\Hid (∀(j:Nat) z u,j+1<k->c.xs[j+1]?=some z->c.xs[j]?=some u->Fz u.n.toList z.n.toList=true)/\Hid (Below w.heap.size w wr)/\Hid (wr.heap[w.heap.size]?=some (.cells (c6 a1 l1 y1 a2 l2 y2 a3 l3 y3 a4 l4 y4 a5 l5 y5 c.now) 36 (0,0)))) (fun i _=>l4 - (intOf i).toNat);case atStart=>exact⟨0,by omega,rfl,fun _ _ h=>absurd h af,fun _ _ _ h=>absurd h af,HB.out,Bk.out⟩
       case round=>
        obtain⟨k,hk,rfl,HQ,HO,HB,Bk⟩:=hrel;have pk:=ck3 Bk;by_cases hlt:k<l4
        ·obtain⟨b,o,x,rfl,hb,hx,hat⟩:=dG (HR.x.below HB.out) hlt;obtain⟨z0,z2,z4,c0,c1,c2,c3,c4⟩:=bw hat;have HXx:=aa hx;have HZx0:=aa z0;have HZx2:=aa z2;have HZx4:=aa z4;clear hat hx z0 z2 z4;by_cases hok:o_ x;rotate_left
         ·have HOK:=aa hok;clear hok;have Gk:=Bk;have HW:=HB;have k3:=fun q:Wd wr=>q.slot (o:=3) Gk.out rfl;obtain⟨x0,x1,x2,x3,x4⟩:=fJ;have hne0:=Wd.ne wr;have HC0:=aa (fun q:Wd wr=>(eJ x.n x.z x.k x.x x.v q.w HZx0.out HZx2.out HZx4.out).mono (fun _ _ h=>aq.no h HOK.out));go_wp2_with fail;refine ag ar ar ?_;repeat (go_big_quiet_step (first|(go_at_call 142;exact Calls.wide (HC0.out _))|fail))
          refine wpQuiet_nil ?_;rintro _ ⟨q,rfl⟩;obtain⟨HB1,Ck⟩:=df;clear hne0 HW HB HC0 k3 x0 x1 x2 x3 x4 Gk Bk c0 c1 c2 c3 c4 pk;have HB:=HB1;clear HB1;have Bk:=Ck;clear Ck;go_wp2;go_ret;exact aq.f (fun h=>HOK.out (h.2.2.2.1.2.1 k x HXx.out)) HB.out
         have HOK:=aa hok;clear hok;by_cases hk0:0<k;rotate_left
         ·obtain⟨hd,Gk⟩:=nA;have HW:=HB;have k3:=fun q:Wd wr=>q.slot (o:=3) Gk.out rfl;obtain⟨x0,x1,x2,x3,x4⟩:=fJ;have hne0:=Wd.ne wr;have HC0:=aa (fun q:Wd wr=>(eJ x.n x.z x.k x.x x.v q.w HZx0.out HZx2.out HZx4.out).mono (fun _ _ h=>aq.yes h HOK.out));go_wp2_with fail;refine ag ar ar ?_;repeat (go_big_quiet_step (first|(go_at_call 142;exact Calls.wide (HC0.out _))|fail))
          refine wpQuiet_nil ?_;rintro _ ⟨q,rfl⟩;obtain⟨HB1,Ck⟩:=df;clear hne0 HW HB HC0 k3 x0 x1 x2 x3 x4 Gk Bk c0 c1 c2 c3 c4 pk;exact od
         have ek:((k:Int) - 1).toNat=k - 1:=af
         obtain⟨b',o',y,e',hb',hy,haty⟩:=dG (HR.x.below HB.out) (show k - 1<l4 by omega);cases e';have y0:wr.cell? ⟨b,o+(k - 1)*5,none⟩=some (.string y.n):=by
          exact jX
         have HXy:=aa hy;clear hy haty;cases hless:Fz y.n.toList x.n.toList
         ·obtain⟨Gk,HW,k3⟩:=BE;obtain⟨x0,x1,x2,x3,x4⟩:=fJ;obtain⟨yw,hne0⟩:=fQ;have HC0:=aa (fun q:Wd wr=>(eJ x.n x.z x.k x.x x.v q.w HZx0.out HZx2.out HZx4.out).mono (fun _ _ h=>aq.yes h HOK.out));go_wp2_with fail;refine ag ar ar ?_;repeat (go_big_quiet_step (first|(go_at_call 142;exact Calls.wide (HC0.out _))|fail))
          refine wpQuiet_nil ?_;rintro _ ⟨q,rfl⟩;obtain⟨HB1,Ck⟩:=df;clear hne0 HW HB HC0 k3 x0 x1 x2 x3 x4 yw Gk Bk c0 c1 c2 c3 c4 pk y0;have HB:=HB1;clear HB1;have Bk:=Ck;clear Ck;go_wp2;go_ret;refine aq.f (fun h=>?_) HB.out;have h3:=h.2.2.2.1.2.2 (k - 1) x y nu HXy.out;rw[hless] at h3;cases h3
         ·obtain⟨Gk,HW,k3⟩:=BE;obtain⟨x0,x1,x2,x3,x4⟩:=fJ;obtain⟨yw,hne0⟩:=fQ;have HC0:=aa (fun q:Wd wr=>(eJ x.n x.z x.k x.x x.v q.w HZx0.out HZx2.out HZx4.out).mono (fun _ _ h=>aq.yes h HOK.out));go_wp2_with fail;refine ag ar ar ?_;repeat (go_big_quiet_step (first|(go_at_call 142;exact Calls.wide (HC0.out _))|fail))
          refine wpQuiet_nil ?_;rintro _ ⟨q,rfl⟩;obtain⟨HB1,Ck⟩:=df;clear hne0 HW HB HC0 k3 x0 x1 x2 x3 x4 yw Gk Bk c0 c1 c2 c3 c4 pk y0;exact oe
        ·obtain rfl:l4=k:=af
         have HR4:Hid (ec o_ Xd.n c.xs 8):=⟨by omega,fun j z hz=>HQ.out j z cZ hz,fun j z u hz hu=>HO.out j z u cZ hz hu⟩;clear HQ HO;skip;have kc:=ck4 Bk;go_wp2;go_loopw [7] (fun i wr=> ∃k:Nat,k<=l5/\i=.int .i64 k/\Hid (∀(j:Nat) z,j<k->c.ps[j]?=some z->qO z)/\Hid (∀(j:Nat) z u,j+1<k->c.ps[j+1]?=some z->c.ps[j]?=some u->Fz u.n.toList z.n.toList=true)/\Hid (Below w.heap.size w wr)/\Hid (wr.heap[w.heap.size]?=some (.cells (c6 a1 l1 y1 a2 l2 y2 a3 l3 y3 a4 l4 y4 a5 l5 y5 c.now) 36 (0,0)))) (fun i _=>l5 - (intOf i).toNat);case atStart=>exact⟨0,by omega,rfl,fun _ _ h=>absurd h af,fun _ _ _ h=>absurd h af,HB.out,Bk.out⟩
         case round=>
          obtain⟨k,hk,rfl,HQ,HO,HB,Bk⟩:=hrel;have pk:=ck4 Bk;by_cases hlt:k<l5
          ·obtain⟨b,o,x,rfl,hb,hx,hat⟩:=bY (HR.p.below HB.out) hlt;obtain⟨va,vl,vc,hvr,z0,z2,z4,c0,c1,c2,c3,c4,c5⟩:=aS hat;have HXx:=aa hx;have HTx:=aa hvr;have HZx0:=aa z0;have HZx2:=aa z2;have HZx4:=aa z4;clear hat hx z0 z2 z4 hvr;by_cases hok:qO x;rotate_left
           ·have HOK:=aa hok;clear hok;have Gk:=Bk;have HW:=HB;have k4:=fun q:Wd wr=>q.slot (o:=4) Gk.out rfl;obtain⟨x0,x1,x2,x3,x4⟩:=fJ;have x5:=fun q:Wd wr=>(q.cell hb).trans c5;have hne0:=Wd.ne wr;have HC0:=aa (fun q:Wd wr=>(gD x.n x.c x.z va vl vc x.zs x.d x.p q.w HZx0.out HZx2.out HZx4.out (HTx.below q.b)).mono (fun _ _ h=>aq.no h HOK.out));go_wp2_with fail;refine ag ar ar ?_;repeat (go_big_quiet_step (first|(go_at_call 143;exact Calls.wide (HC0.out _))|fail))
            refine wpQuiet_nil ?_;rintro _ ⟨q,rfl⟩;obtain⟨HB1,Ck⟩:=df;clear hne0 HW HB HC0 k4 x0 x1 x2 x3 x4 x5 Gk Bk c0 c1 c2 c3 c4 c5 pk;have HB:=HB1;clear HB1;have Bk:=Ck;clear Ck;go_wp2;go_ret;exact aq.f (fun h=>HOK.out (h.2.2.2.2.2.1 k x HXx.out)) HB.out
           have HOK:=aa hok;clear hok;by_cases hk0:0<k;rotate_left
           ·obtain⟨hd,Gk⟩:=nA;have HW:=HB;have k4:=fun q:Wd wr=>q.slot (o:=4) Gk.out rfl;obtain⟨x0,x1,x2,x3,x4⟩:=fJ;have x5:=fun q:Wd wr=>(q.cell hb).trans c5;have hne0:=Wd.ne wr;have HC0:=aa (fun q:Wd wr=>(gD x.n x.c x.z va vl vc x.zs x.d x.p q.w HZx0.out HZx2.out HZx4.out (HTx.below q.b)).mono (fun _ _ h=>aq.yes h HOK.out));go_wp2_with fail;refine ag ar ar ?_;repeat (go_big_quiet_step (first|(go_at_call 143;exact Calls.wide (HC0.out _))|fail))
            refine wpQuiet_nil ?_;rintro _ ⟨q,rfl⟩;obtain⟨HB1,Ck⟩:=df;clear hne0 HW HB HC0 k4 x0 x1 x2 x3 x4 x5 Gk Bk c0 c1 c2 c3 c4 c5 pk;exact od
           have ek:((k:Int) - 1).toNat=k - 1:=af
           obtain⟨b',o',y,e',hb',hy,haty⟩:=bY (HR.p.below HB.out) (show k - 1<l5 by omega);cases e';have y0:wr.cell? ⟨b,o+(k - 1)*6,none⟩=some (.string y.n):=by
            exact jX
           have HXy:=aa hy;clear hy haty;cases hless:Fz y.n.toList x.n.toList
           ·obtain⟨Gk,HW,k4⟩:=BD;obtain⟨x0,x1,x2,x3,x4⟩:=fJ;have x5:=fun q:Wd wr=>(q.cell hb).trans c5;obtain⟨yw,hne0⟩:=fQ;have HC0:=aa (fun q:Wd wr=>(gD x.n x.c x.z va vl vc x.zs x.d x.p q.w HZx0.out HZx2.out HZx4.out (HTx.below q.b)).mono (fun _ _ h=>aq.yes h HOK.out));go_wp2_with fail;refine ag ar ar ?_;repeat (go_big_quiet_step (first|(go_at_call 143;exact Calls.wide (HC0.out _))|fail))
            refine wpQuiet_nil ?_;rintro _ ⟨q,rfl⟩;obtain⟨HB1,Ck⟩:=df;clear hne0 HW HB HC0 k4 x0 x1 x2 x3 x4 x5 yw Gk Bk c0 c1 c2 c3 c4 c5 pk y0;have HB:=HB1;clear HB1;have Bk:=Ck;clear Ck;go_wp2;go_ret;refine aq.f (fun h=>?_) HB.out;have h3:=h.2.2.2.2.2.2 (k - 1) x y nu HXy.out;rw[hless] at h3;cases h3
           ·obtain⟨Gk,HW,k4⟩:=BD;obtain⟨x0,x1,x2,x3,x4⟩:=fJ;have x5:=fun q:Wd wr=>(q.cell hb).trans c5;obtain⟨yw,hne0⟩:=fQ;have HC0:=aa (fun q:Wd wr=>(gD x.n x.c x.z va vl vc x.zs x.d x.p q.w HZx0.out HZx2.out HZx4.out (HTx.below q.b)).mono (fun _ _ h=>aq.yes h HOK.out));go_wp2_with fail;refine ag ar ar ?_;repeat (go_big_quiet_step (first|(go_at_call 143;exact Calls.wide (HC0.out _))|fail))
            refine wpQuiet_nil ?_;rintro _ ⟨q,rfl⟩;obtain⟨HB1,Ck⟩:=df;clear hne0 HW HB HC0 k4 x0 x1 x2 x3 x4 x5 yw Gk Bk c0 c1 c2 c3 c4 c5 pk y0;exact oe
          ·obtain rfl:l5=k:=af
           have HR5:Hid (ec qO Pd.n c.ps 8):=⟨by omega,fun j z hz=>HQ.out j z cZ hz,fun j z u hz hu=>HO.out j z u cZ hz hu⟩;clear HQ HO;go_wp2;go_ret;exact aq.t ⟨HR1.out,HR2.out,HR3.out,HR4.out,HR5.out⟩ HB.out

def Bi (c:Cl) (t:ByteArray):Prop:=∃(i:Nat) (k:Kd),c.ks[i]?=some k/\k.n=t
def SV (c:Cl) (v:Vd):Prop:=Bi c v.k/\(v.m=⟨#[]⟩\/∃(i:Nat) (x:Xd),c.xs[i]?=some x/\x.n=v.m/\x.v=v.n)
def SX (c:Cl) (x:Xd):Prop:=Bi c x.k/\(x.v=⟨#[]⟩\/∃(j:Nat) (v:Vd),c.vs[j]?=some v/\v.n=x.v/\v.m=x.n/\x.z<=v.c/\v.k=x.k/\v.x=x.x)
def rT (c:Cl):Prop:=(∀(j:Nat) z,c.vs[j]?=some z->SV c z)/\(∀(j:Nat) z,c.xs[j]?=some z->SX c z)

theorem pC (d:Ad) (c:Cl) (w:World) (hr:aJ w d c.raw) (hks:aP Kd.n c.ks) (hxs:aP Xd.n c.xs) (hvs:aP Vd.n c.vs):
  Calls Tryz.prog 111 #[.agg #[.slice d.a1 d.l1 d.c1,.slice d.a2 d.l2 d.c2,.slice d.a3 d.l3 d.c3,.slice d.a4 d.l4 d.c4,.slice d.a5 d.l5 d.c5,.int .i64 c.now]] w (aq (rT c) w):=by
 obtain⟨a1,l1,y1,a2,l2,y2,a3,l3,y3,a4,l4,y4,a5,l5,y5⟩:=d;dsimp only;obtain⟨HR,hl1,hm1,hl2,hm2,hl3,hm3,hl4,hm4,hl5,hm5⟩:=pL;clear hr;have HKS:=aa hks;have HXS:=aa hxs;have HVS:=aa hvs;clear hks hxs hvs;go_enter Tryz.func111,Tryz.ntmps111;go_wp2;go_loopw [3] (fun i wr=> ∃k:Nat,k<=l3/\i=.int .i64 k/\Hid (∀(j:Nat) z,j<k->c.vs[j]?=some z->SV c z)/\Hid (Below w.heap.size w wr)/\Hid (wr.heap[w.heap.size]?=some (.cells (c6 a1 l1 y1 a2 l2 y2 a3 l3 y3 a4 l4 y4 a5 l5 y5 c.now) 36 (0,0)))) (fun i _=>l3 - (intOf i).toNat);case atStart=>exact⟨0,by omega,rfl,fun _ _ h=>absurd h af,al _ _,FB⟩
 case round=>
  obtain⟨k,hk,rfl,HQ,HB,Bk⟩:=hrel;have pk:=ck2 Bk;by_cases hlt:k<l3
  ·obtain⟨b,o,v,rfl,hb,hx,hat⟩:=bN (HR.v.below HB.out) hlt;obtain⟨va,vl,vc,hvr,z0,z2,z3,z5,c0,c1,c2,c3,c4,c5,c6,c7⟩:=aK hat;have HXv:=aa hx;have HTv:=aa hvr;have HZv0:=aa z0;have HZv2:=aa z2;have HZv3:=aa z3;have HZv5:=aa z5;clear hat hx z0 z2 z3 z5 hvr;obtain⟨k0,k1,k2,k3,k4,k5⟩:=cs6 Bk;have ltk_0:=ae Bk.out;go_wp2_with fail;refine (gz ⟨a1,l1,y1,a2,l2,y2,(some ⟨b,o,none⟩),l3,y3,a4,l4,y4,a5,l5,y5⟩ c.now c.xs v.m _ (HR.x.below (HB.trans ((al _ _).mono HB.size)))).mono ?_;rintro e w1 ⟨hb2,hf⟩;clear k0 k1 k2 k3 k4 k5 ltk_0;obtain⟨HA0,hbx⟩:=aL hb2;replace Bk:=upK Bk hbx;have Br:=aa HA0;replace HB:=upB HB hbx;clear hb2 hbx HA0;clear pk hb c0 c1 c2 c3 c4 c5 c6 c7;by_cases hkh:Bi c v.k;rotate_left
   ·have HKH:=aa hkh;clear hkh;obtain⟨r,hre⟩:∃r:Int,e=.returned (.int .i64 r):=by rcases hf with ⟨j,y,_,_,h⟩|⟨_,h⟩ <;> exact⟨_,h⟩
    subst hre;clear hf;obtain⟨Gk,Gr,HW⟩:=bO;obtain⟨k0,k1,k2,k3,k4,k5⟩:=sl6 Gk;obtain⟨r0,r1,r2,r3,r4,r5,r6,r7⟩:=sl8 Gr;have hne0:=Wd.ne w1;have HC0:=aa (fun q:Wd w1=>kN ⟨a1,l1,y1,a2,l2,y2,(some ⟨b,o,none⟩),l3,y3,a4,l4,y4,a5,l5,y5⟩ c.now c.ks v.k q.w (HR.k.below (HW.trans (q.b.mono HW.size))) (fun j y h1 h2=>HKH.out ⟨j,y,h1,h2⟩));go_wp2_with fail;refine ag ar ar ?_;repeat (go_big_quiet_step (first|(go_at_call 104;exact Calls.wide (HC0.out _))|fail))
    refine wpQuiet_nil ?_;rintro _ ⟨q1,rfl⟩;have HB2:=upB HW q1.b;obtain⟨Ck,Cr⟩:=fO;clear hne0 HW HB HC0 k0 k1 k2 k3 k4 k5 r0 r1 r2 r3 r4 r5 r6 r7 Gk Gr Bk Br;have HB:=HB2;clear HB2;have Bk:=Ck;clear Ck;have Br:=Cr;clear Cr;go_wp2;go_ret;exact aq.f (fun h=>HKH.out (h.1 k v HXv.out).1) HB.out
   obtain⟨i2,kd2,g1,g2⟩:=hkh;have HG1:=aa g1;have HG2:=aa g2;have hi20:¬((i2:Int)<0):=af
   have hi21:decide ((i2:Int)<0)=false:=aR
   clear g1 g2;by_cases he:v.m=⟨#[]⟩
   ·have hq:=cU he;have HEm:=aa he;clear he;obtain⟨r,hre⟩:∃r:Int,e=.returned (.int .i64 r):=by rcases hf with ⟨j,y,_,_,h⟩|⟨_,h⟩ <;> exact⟨_,h⟩
    subst hre;clear hf;obtain⟨Gk,Gr,HW⟩:=bO;obtain⟨k0,k1,k2,k3,k4,k5⟩:=sl6 Gk;obtain⟨r0,r1,r2,r3,r4,r5,r6,r7⟩:=sl8 Gr;obtain⟨hne0,HC0⟩:=BK;go_wp2_with fail;refine ag ar ar ?_;repeat (go_big_quiet_step (first|(go_at_call 104;exact Calls.wide (HC0.out _))|fail))
    refine wpQuiet_nil ?_;rintro _ ⟨q1,rfl⟩;have HB2:=upB HW q1.b;obtain⟨Ck,Cr⟩:=fO;clear hne0 HW HB HC0 k0 k1 k2 k3 k4 k5 r0 r1 r2 r3 r4 r5 r6 r7 Gk Gr Bk Br;have HB:=HB2;clear HB2;have Bk:=Ck;clear Ck;have Br:=Cr;clear Cr;go_wp2_with fail;refine⟨⟨k+1,by omega,by go_num,fun j z hj hz=>?_,HB.out,Bk.out⟩,by simp[intOf];omega⟩;by_cases e:j=k
    ·subst e;rw[HXv.out] at hz;obtain rfl:=Fo hz;exact⟨⟨i2,kd2,HG1.out,HG2.out⟩,.inl HEm.out⟩
    ·exact HQ.out j z af hz
   have hq:=bc he;have HEm:=aa he;clear he;rcases hf with ⟨j4,y,h1,h2,rfl⟩|⟨hh,rfl⟩;rotate_left
   ·have HH:=aa hh;clear hh;obtain⟨Gk,Gr,HW⟩:=bO;obtain⟨k0,k1,k2,k3,k4,k5⟩:=sl6 Gk;obtain⟨r0,r1,r2,r3,r4,r5,r6,r7⟩:=sl8 Gr;obtain⟨hne0,HC0⟩:=BK;go_wp2_with fail;refine ag ar ar ?_;repeat (go_big_quiet_step (first|(go_at_call 104;exact Calls.wide (HC0.out _))|fail))
    refine wpQuiet_nil ?_;rintro _ ⟨q1,rfl⟩;have HB2:=upB HW q1.b;obtain⟨Ck,Cr⟩:=fO;clear hne0 HW HB HC0 k0 k1 k2 k3 k4 k5 r0 r1 r2 r3 r4 r5 r6 r7 Gk Gr Bk Br;have HB:=HB2;clear HB2;have Bk:=Ck;clear Ck;have Br:=Cr;clear Cr;go_wp2;go_ret;refine aq.f (fun h=>?_) HB.out;rcases (h.1 k v HXv.out).2 with h2|⟨i,y,h2,h3,_⟩
    ·exact HEm.out h2
    ·exact HH.out i y h2 h3
   have hl4':j4<l4:=by have h3:=(Fk.1 h1).1;omega
   obtain⟨b4,o4,y',rfl,hb4,hy',hat⟩:=dG HR.x hl4';rw[h1] at hy';obtain rfl:=Fo hy';obtain⟨z0,z2,z4,c0,c1,c2,c3,c4⟩:=bw hat;have HJ:=aa h1;have HN:=aa h2;have hcv:=(ak HB.out hb4).trans c4;have hbv:=FC hb4 HB.size;have hj0:¬((j4:Int)<0):=af
   have hj1:decide ((j4:Int)<0)=false:=aR
   clear hy' hat z0 z2 z4 c0 c1 c2 c3 c4 h1 h2;by_cases hvn:y.v=v.n
   ·have hq2:=a9 hvn;have HVN:=aa hvn;clear hvn;obtain⟨Gk,Gr,HW⟩:=bO;obtain⟨k0,k1,k2,k3,k4,k5⟩:=sl6 Gk;obtain⟨r0,r1,r2,r3,r4,r5,r6,r7⟩:=sl8 Gr;obtain⟨yw,hne0,HC0⟩:=BX;go_wp2_with fail;refine ag ar ar ?_;repeat (go_big_quiet_step (first|(go_at_call 104;exact Calls.wide (HC0.out _))|fail))
    refine wpQuiet_nil ?_;rintro _ ⟨q1,rfl⟩;have HB2:=upB HW q1.b;obtain⟨Ck,Cr⟩:=fO;clear hne0 HW HB HC0 k0 k1 k2 k3 k4 k5 r0 r1 r2 r3 r4 r5 r6 r7 yw Gk Gr Bk Br hcv hbv;have HB:=HB2;clear HB2;have Bk:=Ck;clear Ck;have Br:=Cr;clear Cr;go_wp2_with fail;refine⟨⟨k+1,by omega,by go_num,fun j z hj hz=>?_,HB.out,Bk.out⟩,by simp[intOf];omega⟩;by_cases e:j=k
    ·subst e;rw[HXv.out] at hz;obtain rfl:=Fo hz;exact⟨⟨i2,kd2,HG1.out,HG2.out⟩,.inr ⟨j4,y,HJ.out,HN.out,HVN.out⟩⟩
    ·exact HQ.out j z af hz
   ·have hq2:=bB hvn;have HVN:=aa hvn;clear hvn;obtain⟨Gk,Gr,HW⟩:=bO;obtain⟨k0,k1,k2,k3,k4,k5⟩:=sl6 Gk;obtain⟨r0,r1,r2,r3,r4,r5,r6,r7⟩:=sl8 Gr;obtain⟨yw,hne0,HC0⟩:=BX;go_wp2_with fail;refine ag ar ar ?_;repeat (go_big_quiet_step (first|(go_at_call 104;exact Calls.wide (HC0.out _))|fail))
    refine wpQuiet_nil ?_;rintro _ ⟨q1,rfl⟩;have HB2:=upB HW q1.b;obtain⟨Ck,Cr⟩:=fO;clear hne0 HW HB HC0 k0 k1 k2 k3 k4 k5 r0 r1 r2 r3 r4 r5 r6 r7 yw Gk Gr Bk Br hcv hbv;have HB:=HB2;clear HB2;have Bk:=Ck;clear Ck;have Br:=Cr;clear Cr;go_wp2;go_ret;refine aq.f (fun h=>?_) HB.out;rcases (h.1 k v HXv.out).2 with h2|⟨i,y2,h2,h3,h4⟩
    ·exact HEm.out h2
    ·obtain⟨_,rfl⟩:=HXS.inj h2 HJ.out (h3.trans HN.symm);exact HVN.out h4
  ·obtain rfl:l3=k:=af
   have HQ1:Hid (∀(j:Nat) z,c.vs[j]?=some z->SV c z):=fun j z hz=>HQ.out j z cZ hz;clear HQ;have kc:=ck3 Bk;go_wp2;go_loopw [6] (fun i wr=> ∃k:Nat,k<=l4/\i=.int .i64 k/\Hid (∀(j:Nat) z,j<k->c.xs[j]?=some z->SX c z)/\Hid (Below w.heap.size w wr)/\Hid (wr.heap[w.heap.size]?=some (.cells (c6 a1 l1 y1 a2 l2 y2 a3 l3 y3 a4 l4 y4 a5 l5 y5 c.now) 36 (0,0)))) (fun i _=>l4 - (intOf i).toNat);case atStart=>exact⟨0,by omega,rfl,fun _ _ h=>absurd h af,HB.out,Bk.out⟩
   case round=>
    obtain⟨k,hk,rfl,HQ,HB,Bk⟩:=hrel;have pk:=ck3 Bk;by_cases hlt:k<l4
    ·obtain⟨b,o,x,rfl,hb,hx,hat⟩:=dG (HR.x.below HB.out) hlt;obtain⟨z0,z2,z4,c0,c1,c2,c3,c4⟩:=bw hat;have HXx:=aa hx;have HZx0:=aa z0;have HZx2:=aa z2;have HZx4:=aa z4;clear hat hx z0 z2 z4;obtain⟨k0,k1,k2,k3,k4,k5⟩:=cs6 Bk;have ltk_0:=ae Bk.out;go_wp2_with fail;refine (jC ⟨a1,l1,y1,a2,l2,y2,a3,l3,y3,(some ⟨b,o,none⟩),l4,y4,a5,l5,y5⟩ c.now c.vs x.v _ (HR.v.below (HB.trans ((al _ _).mono HB.size)))).mono ?_;rintro e w1 ⟨hb2,hf⟩;clear k0 k1 k2 k3 k4 k5 ltk_0;obtain⟨HA0,hbx⟩:=aL hb2;replace Bk:=upK Bk hbx;have Br:=aa HA0;replace HB:=upB HB hbx;clear hb2 hbx HA0;clear pk hb c0 c1 c2 c3 c4;by_cases hkh:Bi c x.k;rotate_left
     ·have HKH:=aa hkh;clear hkh;obtain⟨r,hre⟩:∃r:Int,e=.returned (.int .i64 r):=by rcases hf with ⟨j,y,_,_,h⟩|⟨_,h⟩ <;> exact⟨_,h⟩
      subst hre;clear hf;obtain⟨k0,k1,k2,k3,k4,k5⟩:=cs6 Bk;have ltk_1:=ae Bk.out;obtain⟨r0,r1,r2,r3,r4⟩:=cs5 Br;have ltr_1:=ae Br.out;go_wp2_with fail;refine (kN ⟨a1,l1,y1,a2,l2,y2,a3,l3,y3,(some ⟨b,o,none⟩),l4,y4,a5,l5,y5⟩ c.now c.ks x.k _ (HR.k.below HB.out) (fun j y h1 h2=>HKH.out ⟨j,y,h1,h2⟩)).mono ?_;rintro e w2 ⟨rfl,hb3⟩;clear k0 k1 k2 k3 k4 k5 ltk_1 r0 r1 r2 r3 r4 ltr_1;replace Bk:=upK Bk hb3;replace Br:=upK Br hb3;replace HB:=upB HB hb3;clear hb3;go_wp2;go_ret;exact aq.f (fun h=>HKH.out (h.2 k x HXx.out).1) HB.out
     obtain⟨i2,kd2,g1,g2⟩:=hkh;have HG1:=aa g1;have HG2:=aa g2;have hi20:¬((i2:Int)<0):=af
     have hi21:decide ((i2:Int)<0)=false:=aR
     clear g1 g2;by_cases he:x.v=⟨#[]⟩
     ·have hq:=cU he;have HEm:=aa he;clear he;obtain⟨r,hre⟩:∃r:Int,e=.returned (.int .i64 r):=by rcases hf with ⟨j,y,_,_,h⟩|⟨_,h⟩ <;> exact⟨_,h⟩
      subst hre;clear hf;obtain⟨k0,k1,k2,k3,k4,k5⟩:=cs6 Bk;have ltk_1:=ae Bk.out;obtain⟨r0,r1,r2,r3,r4⟩:=cs5 Br;have ltr_1:=ae Br.out;go_wp2_with fail;refine (dX ⟨a1,l1,y1,a2,l2,y2,a3,l3,y3,(some ⟨b,o,none⟩),l4,y4,a5,l5,y5⟩ c.now c.ks x.k _ (HR.k.below HB.out) HKS.out HG1.out HG2.out).mono ?_;rintro e w2 ⟨rfl,hb3⟩;clear k0 k1 k2 k3 k4 k5 ltk_1 r0 r1 r2 r3 r4 ltr_1;replace Bk:=upK Bk hb3;replace Br:=upK Br hb3;replace HB:=upB HB hb3;clear hb3;obtain⟨k0,k1,k2,k3,k4,k5⟩:=cs6 Bk;have ltk_2:=ae Bk.out;obtain⟨r0,r1,r2,r3,r4⟩:=cs5 Br;have ltr_2:=ae Br.out;go_wp2_with fail;refine⟨⟨k+1,by omega,by go_num,fun j z hj hz=>?_,HB.out,Bk.out⟩,by simp[intOf];omega⟩;by_cases e:j=k
      ·subst e;rw[HXx.out] at hz;obtain rfl:=Fo hz;exact⟨⟨i2,kd2,HG1.out,HG2.out⟩,.inl HEm.out⟩
      ·exact HQ.out j z af hz
     have hq:=bc he;have HEm:=aa he;clear he;rcases hf with ⟨j3,y,h1,h2,rfl⟩|⟨hh,rfl⟩;rotate_left
     ·have HH:=aa hh;clear hh;obtain⟨k0,k1,k2,k3,k4,k5⟩:=cs6 Bk;have ltk_1:=ae Bk.out;obtain⟨r0,r1,r2,r3,r4⟩:=cs5 Br;have ltr_1:=ae Br.out;go_wp2_with fail;refine (dX ⟨a1,l1,y1,a2,l2,y2,a3,l3,y3,(some ⟨b,o,none⟩),l4,y4,a5,l5,y5⟩ c.now c.ks x.k _ (HR.k.below HB.out) HKS.out HG1.out HG2.out).mono ?_;rintro e w2 ⟨rfl,hb3⟩;clear k0 k1 k2 k3 k4 k5 ltk_1 r0 r1 r2 r3 r4 ltr_1;replace Bk:=upK Bk hb3;replace Br:=upK Br hb3;replace HB:=upB HB hb3;clear hb3;have pr:=ck4 Br;obtain⟨Gk,Gr,HW⟩:=bO;have k2:=fun q:Wd w2=>q.slot (o:=2) Gk.out rfl;obtain⟨r0,r1,r2,r3,r4⟩:=sl5 Gr;have hne0:=Wd.ne w2;go_wp2_with fail;refine ag ar ar ?_;repeat (go_big_quiet_step (first|fail))
      refine wpQuiet_nil ?_;rintro _ ⟨q1,rfl⟩;have HB3:=upB HW q1.b;obtain⟨Ck,Cr⟩:=fO;clear hne0 HW HB k2 r0 r1 r2 r3 r4 Gk Gr Bk Br pr;have HB:=HB3;clear HB3;have Bk:=Ck;clear Ck;have Br:=Cr;clear Cr;go_wp2;go_ret;refine aq.f (fun h=>?_) HB.out;rcases (h.2 k x HXx.out).2 with h2|⟨i,y,h2,h3,_⟩
      ·exact HEm.out h2
      ·exact HH.out i y h2 h3
     have hl3':j3<l3:=by have h3:=(Fk.1 h1).1;omega
     obtain⟨b3,o3,y',rfl,hb3,hy',hat⟩:=bN HR.v hl3';rw[h1] at hy';obtain rfl:=Fo hy';obtain⟨va,vl,vc,hvr,z0,z2,z3,z5,c0,c1,c2,c3,c4,c5,c6,c7⟩:=aK hat;have HJ:=aa h1;have HN:=aa h2;have hj0:¬((j3:Int)<0):=af
     have hj1:decide ((j3:Int)<0)=false:=aR
     have HC1:=aa c1;have HC3:=aa c3;have HC4:=aa c4;have HC5:=aa c5;have HB3:=aa hb3;clear hy' hat hvr z0 z2 z3 z5 c0 c1 c2 c3 c4 c5 c6 c7 h1 h2 hb3;obtain⟨k0,k1,k2,k3,k4,k5⟩:=cs6 Bk;have ltk_1:=ae Bk.out;obtain⟨r0,r1,r2,r3,r4⟩:=cs5 Br;have ltr_1:=ae Br.out;go_wp2_with fail;refine (dX ⟨a1,l1,y1,a2,l2,y2,(some ⟨b3,o3,none⟩),l3,y3,(some ⟨b,o,none⟩),l4,y4,a5,l5,y5⟩ c.now c.ks x.k _ (HR.k.below HB.out) HKS.out HG1.out HG2.out).mono ?_;rintro e w2 ⟨rfl,hb3⟩;clear k0 k1 k2 k3 k4 k5 ltk_1 r0 r1 r2 r3 r4 ltr_1;replace Bk:=upK Bk hb3;replace Br:=upK Br hb3;replace HB:=upB HB hb3;clear hb3;have pr:=ck4 Br;have hbv:=FC HB3.out HB.size;have v1:=(ak HB.out HB3.out).trans HC1.out;have v3:=(ak HB.out HB3.out).trans HC3.out;have v4:=(ak HB.out HB3.out).trans HC4.out;have v5:=(ak HB.out HB3.out).trans HC5.out;clear HC1 HC3 HC4 HC5 HB3;by_cases hno:y.m=x.n;rotate_left
     ·have HNo:=aa hno;clear hno;have n1:=bB HNo.out;obtain⟨Gk,Gr,HW⟩:=bO;have k2:=fun q:Wd w2=>q.slot (o:=2) Gk.out rfl;obtain⟨r0,r1,r2,r3,r4⟩:=sl5 Gr;obtain⟨v1w,v3w,v4w,v5w,hne0⟩:=nK;go_wp2_with fail;refine ag ar ar ?_;repeat (go_big_quiet_step (first|fail))
      refine wpQuiet_nil ?_;rintro _ ⟨q1,rfl⟩;have HB3:=upB HW q1.b;obtain⟨Ck,Cr⟩:=fO;clear hne0 HW HB k2 r0 r1 r2 r3 r4 v1w v3w v4w v5w Gk Gr Bk Br pr v1 v3 v4 v5 hbv;have HB:=HB3;clear HB3;have Bk:=Ck;clear Ck;have Br:=Cr;clear Cr;go_wp2;go_ret;refine aq.f (fun h=>?_) HB.out;rcases (h.2 k x HXx.out).2 with h2|⟨i,y2,h2,h3,h4⟩
      ·exact HEm.out h2
      ·obtain⟨_,rfl⟩:=HVS.inj h2 HJ.out (h3.trans HN.symm);exact HNo.out h4.1
     have HY1:=aa hno;have q1:=a9 hno;clear hno;by_cases hno:x.z<=y.c;rotate_left
     ·have HNo:=aa hno;clear hno;have n1:y.c<x.z:=by have:=HNo.out;omega
      obtain⟨Gk,Gr,HW⟩:=bO;have k2:=fun q:Wd w2=>q.slot (o:=2) Gk.out rfl;obtain⟨r0,r1,r2,r3,r4⟩:=sl5 Gr;obtain⟨v1w,v3w,v4w,v5w,hne0⟩:=nK;go_wp2_with fail;refine ag ar ar ?_;repeat (go_big_quiet_step (first|fail))
      refine wpQuiet_nil ?_;rintro _ ⟨q1,rfl⟩;have HB3:=upB HW q1.b;obtain⟨Ck,Cr⟩:=fO;clear hne0 HW HB k2 r0 r1 r2 r3 r4 v1w v3w v4w v5w Gk Gr Bk Br pr v1 v3 v4 v5 hbv;have HB:=HB3;clear HB3;have Bk:=Ck;clear Ck;have Br:=Cr;clear Cr;go_wp2;go_ret;refine aq.f (fun h=>?_) HB.out;rcases (h.2 k x HXx.out).2 with h2|⟨i,y2,h2,h3,h4⟩
      ·exact HEm.out h2
      ·obtain⟨_,rfl⟩:=HVS.inj h2 HJ.out (h3.trans HN.symm);have h5:=h4.2.1;have h6:=HNo.out;omega
     have HY2:=aa hno;have q2:decide (y.c<x.z)=false:=by simp;omega
     clear hno;by_cases hno:y.k=x.k;rotate_left
     ·have HNo:=aa hno;clear hno;have n1:=bB HNo.out;obtain⟨Gk,Gr,HW⟩:=bO;have k2:=fun q:Wd w2=>q.slot (o:=2) Gk.out rfl;obtain⟨r0,r1,r2,r3,r4⟩:=sl5 Gr;obtain⟨v1w,v3w,v4w,v5w,hne0⟩:=nK;go_wp2_with fail;refine ag ar ar ?_;repeat (go_big_quiet_step (first|fail))
      refine wpQuiet_nil ?_;rintro _ ⟨q1,rfl⟩;have HB3:=upB HW q1.b;obtain⟨Ck,Cr⟩:=fO;clear hne0 HW HB k2 r0 r1 r2 r3 r4 v1w v3w v4w v5w Gk Gr Bk Br pr v1 v3 v4 v5 hbv;have HB:=HB3;clear HB3;have Bk:=Ck;clear Ck;have Br:=Cr;clear Cr;go_wp2;go_ret;refine aq.f (fun h=>?_) HB.out;rcases (h.2 k x HXx.out).2 with h2|⟨i,y2,h2,h3,h4⟩
      ·exact HEm.out h2
      ·obtain⟨_,rfl⟩:=HVS.inj h2 HJ.out (h3.trans HN.symm);exact HNo.out h4.2.2.1
     have HY3:=aa hno;have q3:=a9 hno;clear hno;by_cases hno:y.x=x.x;rotate_left
     ·have HNo:=aa hno;clear hno;have n1:(y.x==x.x)=false:=by simpa using HNo.out
      obtain⟨Gk,Gr,HW⟩:=bO;have k2:=fun q:Wd w2=>q.slot (o:=2) Gk.out rfl;obtain⟨r0,r1,r2,r3,r4⟩:=sl5 Gr;obtain⟨v1w,v3w,v4w,v5w,hne0⟩:=nK;go_wp2_with fail;refine ag ar ar ?_;repeat (go_big_quiet_step (first|fail))
      refine wpQuiet_nil ?_;rintro _ ⟨q1,rfl⟩;have HB3:=upB HW q1.b;obtain⟨Ck,Cr⟩:=fO;clear hne0 HW HB k2 r0 r1 r2 r3 r4 v1w v3w v4w v5w Gk Gr Bk Br pr v1 v3 v4 v5 hbv;have HB:=HB3;clear HB3;have Bk:=Ck;clear Ck;have Br:=Cr;clear Cr;go_wp2;go_ret;refine aq.f (fun h=>?_) HB.out;rcases (h.2 k x HXx.out).2 with h2|⟨i,y2,h2,h3,h4⟩
      ·exact HEm.out h2
      ·obtain⟨_,rfl⟩:=HVS.inj h2 HJ.out (h3.trans HN.symm);exact HNo.out h4.2.2.2
     have HY4:=aa hno;have q4:(y.x==x.x)=true:=by simpa using hno
     clear hno;obtain⟨Gk,Gr,HW⟩:=bO;have k2:=fun q:Wd w2=>q.slot (o:=2) Gk.out rfl;obtain⟨r0,r1,r2,r3,r4⟩:=sl5 Gr;obtain⟨v1w,v3w,v4w,v5w,hne0⟩:=nK;go_wp2_with fail;refine ag ar ar ?_;repeat (go_big_quiet_step (first|fail))
     refine wpQuiet_nil ?_;rintro _ ⟨qz,rfl⟩;have HB3:=upB HW qz.b;have Ck:=upK Gk qz.b;have Cr:=upK Gr qz.b;clear hne0 HW HB k2 r0 r1 r2 r3 r4 v1w v3w v4w v5w Gk Gr Bk Br pr v1 v3 v4 v5 hbv;have HB:=HB3;clear HB3;have Bk:=Ck;clear Ck;have Br:=Cr;clear Cr;clear q1 q2 q3 q4;go_wp2_with fail;refine⟨⟨k+1,by omega,by go_num,fun j z hj hz=>?_,HB.out,Bk.out⟩,by simp[intOf];omega⟩;by_cases e:j=k
     ·subst e;rw[HXx.out] at hz;obtain rfl:=Fo hz;exact⟨⟨i2,kd2,HG1.out,HG2.out⟩,.inr ⟨j3,y,HJ.out,HN.out,HY1.out,HY2.out,HY3.out,HY4.out⟩⟩
     ·exact HQ.out j z af hz
    ·obtain rfl:l4=k:=af
     have HQ2:Hid (∀(j:Nat) z,c.xs[j]?=some z->SX c z):=fun j z hz=>HQ.out j z cZ hz;exact l8

def PSa (c:Cl) (p:Pd):Prop:=p.d=⟨#[]⟩\/∃(i:Nat) (n:Nd),c.ns[i]?=some n/\n.n=p.d/\(p.z=⟨#[]⟩\/n.z=p.z)
def DZ (c:Cl) (p:Pd) (t:ByteArray):Prop:=(∃(i:Nat) (x:Xd),c.xs[i]?=some x/\x.n=t)/\(p.d=⟨#[]⟩\/∃(v:Vd) (i:Nat) (n:Nd),bI c t v/\c.ns[i]?=some n/\n.n=p.d/\v.z=n.z)
def PSb (c:Cl) (p:Pd):Prop:=∀(j:Nat) t,p.zs[j]?=some t->DZ c p t
def PSc (c:Cl) (k:Nat) (p:Pd):Prop:=∀(j:Nat) q,j<k->c.ps[j]?=some q->lH c q p
def PS (c:Cl) (k:Nat) (p:Pd):Prop:=PSa c p/\PSb c p/\PSc c k p
def mD (c:Cl):Prop:=(∀(k:Nat) p,c.ps[k]?=some p->PS c k p)/\∀(j:Nat) n,c.ns[j]?=some n->cpuOf n.n c.ps<=n.c

theorem mW (d:Ad) (c:Cl) (w:World) (hr:aJ w d c.raw) (hn:aP Nd.n c.ns) (hx:aP Xd.n c.xs) (hv:aP Vd.n c.vs) (hne:∀(j:Nat) v,c.vs[j]?=some v->¬v.n=⟨#[]⟩) (hps8:c.ps.length<=8) (hpc:∀(j:Nat) p,c.ps[j]?=some p->0<=p.c/\p.c<=1000000):
  Calls Tryz.prog 112 #[.agg #[.slice d.a1 d.l1 d.c1,.slice d.a2 d.l2 d.c2,.slice d.a3 d.l3 d.c3,.slice d.a4 d.l4 d.c4,.slice d.a5 d.l5 d.c5,.int .i64 c.now]] w (aq (mD c) w):=by
 obtain⟨a1,l1,y1,a2,l2,y2,a3,l3,y3,a4,l4,y4,a5,l5,y5⟩:=d;dsimp only;obtain⟨HR,hl1,hm1,hl3⟩:=nM;obtain⟨hl5,hm5⟩:=jL;clear hr;have HNR:=aa hn;obtain⟨HX,HV,HNE⟩:=iR;have HL5:=aa hps8;have HPC:=aa hpc;clear hn hx hv hne hps8 hpc;go_enter Tryz.func112,Tryz.ntmps112;go_wp2;go_loopw [3] (fun i wr=> ∃k:Nat,k<=l5/\i=.int .i64 k/\Hid (∀(j:Nat) z,j<k->c.ps[j]?=some z->PS c j z)/\Hid (Below w.heap.size w wr)/\Hid (wr.heap[w.heap.size]?=some (.cells (c6 a1 l1 y1 a2 l2 y2 a3 l3 y3 a4 l4 y4 a5 l5 y5 c.now) 36 (0,0)))) (fun i _=>l5 - (intOf i).toNat);case atStart=>exact⟨0,by omega,rfl,fun _ _ h=>absurd h af,al _ _,FB⟩
 case round=>
  obtain⟨k,hk,rfl,HQ,HB,Bk⟩:=hrel;have pk:=ck4 Bk;by_cases hlt:k<l5
  ·obtain⟨b,o,p,rfl,hb,hx,hat⟩:=bY (HR.p.below HB.out) hlt;obtain⟨va,vl,vc,hvr,z0,z2,z4,c0,c1,c2,c3,c4,c5⟩:=aS hat;have HXp:=aa hx;have HTp:=aa hvr;clear hat hx z0 z2 z4 hvr;have hvl:=HTp.1;have hvc:=Fx HTp.2.1 HTp.2.2.1;have HVL:=aa hvl;clear hvl;obtain⟨k0,k1,k2,k3,k4,k5⟩:=cs6 Bk;have ltk_0:=ae Bk.out;go_wp2_with fail;refine (jE ⟨a1,l1,y1,a2,l2,y2,a3,l3,y3,a4,l4,y4,(some ⟨b,o,none⟩),l5,y5⟩ c.now c.ns p.d _ (HR.n.below (HB.trans ((al _ _).mono HB.size)))).mono ?_;rintro e w1 ⟨hb2,hf⟩;clear k0 k1 k2 k3 k4 k5 ltk_0;obtain⟨HA0,hbx⟩:=aL hb2;replace Bk:=upK Bk hbx;have Br:=aa HA0;replace HTp:=aa (HTp.below hbx);replace HB:=upB HB hbx;clear hb2 hbx HA0;clear pk hb c0 c1 c2 c3 c4 c5;by_cases he:p.d=⟨#[]⟩
   ·have hq:=cU he;have HEm:=aa he;clear he;obtain⟨r5,hre⟩:∃r:Int,e=.returned (.int .i64 r):=by rcases hf with ⟨j,y,_,_,h⟩|⟨_,h⟩ <;> exact⟨_,h⟩
    subst hre;clear hf;obtain⟨Gk,Gr,HW⟩:=bO;have k0:=fun q:Wd w1=>q.slot (o:=0) Gk.out rfl;obtain⟨r0,r1,r2,r3,r4,r5⟩:=sl6 Gr;have hne0:=Wd.ne w1;go_wp2_with fail;refine ag ar ar ?_;repeat (go_big_quiet_step (first|fail))
    refine wpQuiet_nil ?_;rintro _ ⟨q0,rfl⟩;obtain⟨HB2,Ck,Cr,CHTp⟩:=nF;clear hne0 HW HB k0 r0 r1 r2 r3 r4 r5 Gk Gr Bk Br HTp;have HB:=HB2;clear HB2;have HTp:=CHTp;clear CHTp;have Bk:=Ck;clear Ck;have Br:=Cr;clear Cr;have HPa:Hid (PSa c p):=.inl HEm.out;obtain⟨gb,hgb⟩:∃gb,gb=wr.heap.size:=⟨_,rfl⟩;rw[<-hgb] at Br;have pr3:=ck3 Br;rw[hgb] at pr3;go_wp2;rw[<-hgb];clear pr3 hgb;have KV:=Bk;have GV:=Br;have BV:=HB;have TV:=HTp;clear Bk Br HB HTp;obtain⟨W,hW⟩:∃W,W=q0.w:=⟨_,rfl⟩;rw[<-hW] at KV GV BV TV ⊢;clear hW;go_loopw [6] (fun i wr=> ∃kq:Nat,kq<=vl/\i=.int .i64 kq/\Hid (∀(j:Nat) t,j<kq->p.zs[j]?=some t->DZ c p t)/\Hid (Below W.heap.size W wr)) (fun i _=>vl - (intOf i).toNat);case atStart=>exact⟨0,by omega,rfl,fun _ _ h=>absurd h af,Ft _ _⟩
    case round=>
     obtain⟨kq,hkq,rfl,HQ2,HBW⟩:=hrel;obtain⟨HB,Bk⟩:=nD;have Br:=upK GV HBW.out;have pr3:=ck3 Br;by_cases hlt2:kq<vl
     ·obtain⟨b2,o2,t,rfl,hb,hxt,hc,hsz⟩:=(TV.below HBW.out).at hlt2;have HXt:=aa hxt;clear hxt hsz;have hcase:(∃v,bI c t v)\/(∀v,¬bI c t v):=by
       exact yD
      rcases hcase with ⟨v,hbd⟩|hbd
      ·obtain⟨j3,hj3⟩:=hbd.at;have hl3':j3<l3:=by have h1:=(Fk.1 hj3).1;omega
       obtain⟨b3,o3,v',rfl,hb3,hv',hat⟩:=bN HR.v hl3';rw[hj3] at hv';obtain rfl:=Fo hv';obtain⟨xa,xl,xc,hvr,z0,z2,z3,z5,d0,d1,d2,d3,d4,d5,d6,d7⟩:=aK hat;have HJ:=aa hj3;have HD:=aa hbd;have HC2:=aa d2;have HB3:=aa hb3;have hj31:decide ((j3:Int)<0)=false:=aR
       clear hv' hat hvr z0 z2 z3 z5 d0 d1 d2 d3 d4 d5 d6 d7 hj3 hbd hb3;obtain⟨Gk,Gr,HW⟩:=bO;obtain⟨k0,k1,k2,k3,k4,k5⟩:=sl6 Gk;have r3:=fun q:Wd wr=>q.slot (o:=3) Gr.out rfl;obtain⟨tw,hne0⟩:=iS;have HC0:=aa (fun q:Wd wr=>fz ⟨a1,l1,y1,a2,l2,y2,(some ⟨b3,o3,none⟩),l3,y3,a4,l4,y4,(some ⟨b,o,none⟩),l5,y5⟩ c t q.w (HR.below (HW.trans (q.b.mono HW.size))) HX.out HV.out HNE.out HJ.out HD.out);go_wp2_with fail;refine ag ar ar ?_;repeat (go_big_quiet_step (first|(go_at_call 102;exact Calls.wide (HC0.out _))|fail))
       refine wpQuiet_nil ?_;rintro _ ⟨q1,rfl⟩;obtain⟨HB1,Ck⟩:=cL;have Cr:=upK Gr q1.b;clear hne0 HW HB HC0 k0 k1 k2 k3 k4 k5 r3 tw Gk Gr Bk Br pr3;have HB:=HB1;clear HB1;have Bk:=Ck;clear Ck;have Br:=Cr;clear Cr;obtain⟨hc1,hb1,HBW1⟩:=sj;clear hc hb HBW;by_cases hg:∃(i:Nat) (x:Xd),c.xs[i]?=some x/\x.n=t;rotate_left
       ·have HG:=aa hg;clear hg;obtain⟨Gk,Gr,HW⟩:=bO;obtain⟨k0,k1,k2,k3,k4,k5⟩:=sl6 Gk;obtain⟨r0,r1,r2,r3,r4,r5⟩:=sl6 Gr;obtain⟨tw,hne0⟩:=jK;have HC0:=aa (fun q:Wd q1.w=>fv ⟨a1,l1,y1,a2,l2,y2,(some ⟨b3,o3,none⟩),l3,y3,a4,l4,y4,(some ⟨b,o,none⟩),l5,y5⟩ c.now c.xs t q.w (HR.x.below (HW.trans (q.b.mono HW.size))) (fun i x h1 h2=>HG.out ⟨i,x,h1,h2⟩));exact D9
       obtain⟨i4,x4,g1,g2⟩:=hg;obtain⟨HG1,HG2,hi41⟩:=lT;clear g1 g2;obtain⟨Gk,Gr,HW⟩:=bO;obtain⟨k0,k1,k2,k3,k4,k5⟩:=sl6 Gk;obtain⟨r0,r1,r2,r3,r4,r5⟩:=sl6 Gr;obtain⟨tw,hne0⟩:=jK;have HC0:=aa (fun q:Wd q1.w=>eZ ⟨a1,l1,y1,a2,l2,y2,(some ⟨b3,o3,none⟩),l3,y3,a4,l4,y4,(some ⟨b,o,none⟩),l5,y5⟩ c.now c.xs t q.w (HR.x.below (HW.trans (q.b.mono HW.size))) HX.out HG1.out HG2.out);exact xz
      ·have HD:=aa hbd;clear hbd;obtain⟨Gk,Gr,HW⟩:=bO;obtain⟨k0,k1,k2,k3,k4,k5⟩:=sl6 Gk;have r3:=fun q:Wd wr=>q.slot (o:=3) Gr.out rfl;obtain⟨tw,hne0⟩:=iS;have HC0:=aa (fun q:Wd wr=>f_ ⟨a1,l1,y1,a2,l2,y2,a3,l3,y3,a4,l4,y4,(some ⟨b,o,none⟩),l5,y5⟩ c t q.w (HR.below (HW.trans (q.b.mono HW.size))) HX.out HV.out HNE.out HD.out);go_wp2_with fail;refine ag ar ar ?_;repeat (go_big_quiet_step (first|(go_at_call 102;exact Calls.wide (HC0.out _))|fail))
       refine wpQuiet_nil ?_;rintro _ ⟨q1,rfl⟩;obtain⟨HB1,Ck⟩:=cL;have Cr:=upK Gr q1.b;clear hne0 HW HB HC0 k0 k1 k2 k3 k4 k5 r3 tw Gk Gr Bk Br pr3;have HB:=HB1;clear HB1;have Bk:=Ck;clear Ck;have Br:=Cr;clear Cr;obtain⟨hc1,hb1,HBW1⟩:=sj;clear hc hb HBW;by_cases hg:∃(i:Nat) (x:Xd),c.xs[i]?=some x/\x.n=t;rotate_left
       ·have HG:=aa hg;clear hg;obtain⟨Gk,Gr,HW⟩:=bO;obtain⟨k0,k1,k2,k3,k4,k5⟩:=sl6 Gk;obtain⟨r0,r1,r2,r3,r4,r5⟩:=sl6 Gr;obtain⟨tw,hne0⟩:=jK;have HC0:=aa (fun q:Wd q1.w=>fv ⟨a1,l1,y1,a2,l2,y2,a3,l3,y3,a4,l4,y4,(some ⟨b,o,none⟩),l5,y5⟩ c.now c.xs t q.w (HR.x.below (HW.trans (q.b.mono HW.size))) (fun i x h1 h2=>HG.out ⟨i,x,h1,h2⟩));exact D9
       obtain⟨i4,x4,g1,g2⟩:=hg;obtain⟨HG1,HG2,hi41⟩:=lT;clear g1 g2;obtain⟨Gk,Gr,HW⟩:=bO;obtain⟨k0,k1,k2,k3,k4,k5⟩:=sl6 Gk;obtain⟨r0,r1,r2,r3,r4,r5⟩:=sl6 Gr;obtain⟨tw,hne0⟩:=jK;have HC0:=aa (fun q:Wd q1.w=>eZ ⟨a1,l1,y1,a2,l2,y2,a3,l3,y3,a4,l4,y4,(some ⟨b,o,none⟩),l5,y5⟩ c.now c.xs t q.w (HR.x.below (HW.trans (q.b.mono HW.size))) HX.out HG1.out HG2.out);exact xz
     ·obtain rfl:vl=kq:=af
      have HQb:Hid (PSb c p):=fun j t ht=>HQ2.out j t Bz ht;clear HQ2;have TV2:=aa (TV.below HBW.out);have KV2:=Bk;have GV2:=Br;have BV2:=HB;clear KV GV BV TV Bk Br HB HBW;obtain⟨W2,hW⟩:∃W2,W2=wr:=⟨_,rfl⟩;rw[<-hW] at KV2 GV2 BV2 TV2;go_wp2;clear pr3;rw[<-hW];clear hW;go_loopw [8] (fun i wr=> ∃kz:Nat,kz<=k/\i=.int .i64 kz/\Hid (∀(j:Nat) q,j<kz->c.ps[j]?=some q->lH c q p)/\Hid (Below W2.heap.size W2 wr)) (fun i _=>k - (intOf i).toNat);case atStart=>exact⟨0,by omega,rfl,fun _ _ h=>absurd h af,Ft _ _⟩
      case round=>
       obtain⟨kz,hkz,rfl,HQ3,HBW⟩:=hrel;have HB:=aa (BV2.trans (HBW.mono BV2.size));have Bk:=upK KV2 HBW.out;have Br:=upK GV2 HBW.out;have HTp:=aa (TV2.below HBW.out);by_cases hlt3:kz<k
       ·obtain⟨b',o',pq,e',hb',hqq,hatq⟩:=bY (HR.p.below HB.out) (show kz<l5 by omega);cases e';obtain⟨qa,ql,qc,hqr,z0,z2,z4,d0,d1,d2,d3,d4,d5⟩:=aS hatq;have HXq:=aa hqq;have HTq:=aa hqr;clear hatq hqq hqr z0 z2 z4;by_cases hpr:lH c pq p
        ·have HPr:=aa hpr;clear hpr;obtain⟨Gk,Gr,HW⟩:=bO;obtain⟨k0,k1,k2,k3,k4,k5⟩:=sl6 Gk;obtain⟨r0,r1,r2,r3,r4,r5⟩:=sl6 Gr;obtain⟨q0,q1,q2,q3,q4,q5,hne0⟩:=Ao;have HC0:=aa (fun qw:Wd wr=>(fw ⟨a1,l1,y1,a2,l2,y2,a3,l3,y3,a4,l4,y4,(some ⟨b,o,none⟩),l5,y5⟩ c pq p qa ql qc va vl vc qw.w (HR.below (HW.trans (qw.b.mono HW.size))) HX.out HV.out HNE.out (HTq.below qw.b) (HTp.below qw.b)).mono (fun _ _ h=>aq.yes h HPr.out));exact xA
        ·have HPr:=aa hpr;clear hpr;obtain⟨Gk,Gr,HW⟩:=bO;obtain⟨k0,k1,k2,k3,k4,k5⟩:=sl6 Gk;obtain⟨r0,r1,r2,r3,r4,r5⟩:=sl6 Gr;obtain⟨q0,q1,q2,q3,q4,q5,hne0⟩:=Ao;have HC0:=aa (fun qw:Wd wr=>(fw ⟨a1,l1,y1,a2,l2,y2,a3,l3,y3,a4,l4,y4,(some ⟨b,o,none⟩),l5,y5⟩ c pq p qa ql qc va vl vc qw.w (HR.below (HW.trans (qw.b.mono HW.size))) HX.out HV.out HNE.out (HTq.below qw.b) (HTp.below qw.b)).mono (fun _ _ h=>aq.no h HPr.out));exact xy
       ·exact xv
   have hq:=bc he;have HEm:=aa he;clear he;rcases hf with ⟨j1,n,h1,h2,rfl⟩|⟨hh,rfl⟩;rotate_left
   ·have HH:=aa hh;clear hh;obtain⟨Gk,Gr,HW⟩:=bO;have k0:=fun q:Wd w1=>q.slot (o:=0) Gk.out rfl;obtain⟨r0,r1,r2,r3,r4,r5⟩:=sl6 Gr;have hne0:=Wd.ne w1;go_wp2_with fail;refine ag ar ar ?_;repeat (go_big_quiet_step (first|fail))
    refine wpQuiet_nil ?_;rintro _ ⟨q0,rfl⟩;obtain⟨HB2,Ck,Cr,CHTp⟩:=nF;clear hne0 HW HB k0 r0 r1 r2 r3 r4 r5 Gk Gr Bk Br HTp;have HB:=HB2;clear HB2;have HTp:=CHTp;clear CHTp;have Bk:=Ck;clear Ck;have Br:=Cr;clear Cr;go_wp2;go_ret;refine aq.f (fun h=>?_) HB.out;rcases (h.1 k p HXp.out).1 with h2|⟨i,n,h2,h3,_⟩
    ·exact HEm.out h2
    ·exact HH.out i n h2 h3
   have hl1':j1<l1:=by have h3:=(Fk.1 h1).1;omega
   obtain⟨b1,o1,n',rfl,hb1n,hn',hat⟩:=cA HR.n hl1';rw[h1] at hn';obtain rfl:=Fo hn';obtain⟨na,nl,nc,hnr,z0,z1,d0,d1,d2,d3,d4,d5,d6⟩:=aZ hat;have HJn:=aa h1;have HNn:=aa h2;have HCn:=aa d1;have HBn:=aa hb1n;have hj11:decide ((j1:Int)<0)=false:=aR
   have hbn:=FC hb1n HB.size;have n1:=(ak HB.out hb1n).trans d1;clear hn' hat hnr z0 z1 d0 d1 d2 d3 d4 d5 d6 h1 h2 hb1n;by_cases hz0:p.z=⟨#[]⟩
   ·have hq2:=cU hz0;have HPa:Hid (PSa c p):=.inr ⟨j1,n,HJn.out,HNn.out,.inl hz0⟩;clear hz0;obtain⟨Gk,Gr,HW⟩:=bO;have k0:=fun q:Wd w1=>q.slot (o:=0) Gk.out rfl;obtain⟨r0,r1,r2,r3,r4,r5⟩:=sl6 Gr;have nw:=fun q:Wd w1=>(q.cell hbn).trans n1;have hne0:=Wd.ne w1;go_wp2_with fail;refine ag ar ar ?_;repeat (go_big_quiet_step (first|fail))
    refine wpQuiet_nil ?_;rintro _ ⟨q0,rfl⟩;obtain⟨HB2,Ck,Cr,CHTp⟩:=nF;clear hne0 HW HB k0 r0 r1 r2 r3 r4 r5 nw Gk Gr Bk Br HTp hbn n1;have HB:=HB2;clear HB2;have HTp:=CHTp;clear CHTp;have Bk:=Ck;clear Ck;have Br:=Cr;clear Cr;clear hq2;exact xB
   have hq2:=bc hz0;by_cases hz1:n.z=p.z
   ·have hq3:=a9 hz1;have HPa:Hid (PSa c p):=.inr ⟨j1,n,HJn.out,HNn.out,.inr hz1⟩;clear hz0 hz1;obtain⟨Gk,Gr,HW⟩:=bO;have k0:=fun q:Wd w1=>q.slot (o:=0) Gk.out rfl;obtain⟨r0,r1,r2,r3,r4,r5⟩:=sl6 Gr;have nw:=fun q:Wd w1=>(q.cell hbn).trans n1;have hne0:=Wd.ne w1;go_wp2_with fail;refine ag ar ar ?_;repeat (go_big_quiet_step (first|fail))
    refine wpQuiet_nil ?_;rintro _ ⟨q0,rfl⟩;obtain⟨HB2,Ck,Cr,CHTp⟩:=nF;clear hne0 HW HB k0 r0 r1 r2 r3 r4 r5 nw Gk Gr Bk Br HTp hbn n1;have HB:=HB2;clear HB2;have HTp:=CHTp;clear CHTp;have Bk:=Ck;clear Ck;have Br:=Cr;clear Cr;clear hq2 hq3;exact xB
   ·have hq3:=bB hz1;have HZ0:=aa hz0;have HZ1:=aa hz1;clear hz0 hz1;obtain⟨Gk,Gr,HW⟩:=bO;have k0:=fun q:Wd w1=>q.slot (o:=0) Gk.out rfl;obtain⟨r0,r1,r2,r3,r4,r5⟩:=sl6 Gr;have nw:=fun q:Wd w1=>(q.cell hbn).trans n1;have hne0:=Wd.ne w1;go_wp2_with fail;refine ag ar ar ?_;repeat (go_big_quiet_step (first|fail))
    refine wpQuiet_nil ?_;rintro _ ⟨q0,rfl⟩;obtain⟨HB2,Ck,Cr,CHTp⟩:=nF;clear hne0 HW HB k0 r0 r1 r2 r3 r4 r5 nw Gk Gr Bk Br HTp hbn n1;have HB:=HB2;clear HB2;have HTp:=CHTp;clear CHTp;have Bk:=Ck;clear Ck;have Br:=Cr;clear Cr;go_wp2;go_ret;refine aq.f (fun h=>?_) HB.out;rcases (h.1 k p HXp.out).1 with h2|⟨i,n',h2,h3,h4⟩
    ·exact HEm.out h2
    ·obtain⟨_,rfl⟩:=HNR.inj h2 HJn.out (h3.trans HNn.symm);rcases h4 with h4|h4
     ·exact HZ0.out h4
     ·exact HZ1.out h4
  ·obtain rfl:l5=k:=af
   have HQ1:Hid (∀(k:Nat) p,c.ps[k]?=some p->PS c k p):=fun j z hz=>HQ.out j z cZ hz;clear HQ;go_wp2;clear pk;go_loopw [9] (fun i wr=> ∃k:Nat,k<=l1/\i=.int .i64 k/\Hid (∀(j:Nat) n,j<k->c.ns[j]?=some n->cpuOf n.n c.ps<=n.c)/\Hid (Below w.heap.size w wr)/\Hid (wr.heap[w.heap.size]?=some (.cells (c6 a1 l1 y1 a2 l2 y2 a3 l3 y3 a4 l4 y4 a5 l5 y5 c.now) 36 (0,0)))) (fun i _=>l1 - (intOf i).toNat);case atStart=>exact⟨0,by omega,rfl,fun _ _ h=>absurd h af,HB.out,Bk.out⟩
   case round=>
    obtain⟨k,hk,rfl,HQ,HB,Bk⟩:=hrel;have pk:=ck0 Bk;by_cases hlt:k<l1
    ·obtain⟨b,o,n,rfl,hb,hx,hat⟩:=cA (HR.n.below HB.out) hlt;obtain⟨va,vl,vc,hvr,z0,z1,c0,c1,c2,c3,c4,c5,c6⟩:=aZ hat;have HXn:=aa hx;clear hat hx z0 z1 hvr;have Gk:=Bk;have HW:=HB;obtain⟨k0,k1,k2,k3,k4,k5⟩:=sl6 Gk;have n0w:=fun q:Wd wr=>(q.cell hb).trans c0;have n2w:=fun q:Wd wr=>(q.cell hb).trans c2;have hne0:=Wd.ne wr;have HC0:=aa (fun q:Wd wr=>ik ⟨(some ⟨b,o,none⟩),l1,y1,a2,l2,y2,a3,l3,y3,a4,l4,y4,a5,l5,y5⟩ c.now c.ps n.n q.w (HR.p.below (HW.trans (q.b.mono HW.size))) HL5.out HPC.out);go_wp2_with fail;refine ag ar ar ?_;repeat (go_big_quiet_step (first|(go_at_call 80;exact Calls.wide (HC0.out _))|fail))
     refine wpQuiet_nil ?_;rintro _ ⟨q1,rfl⟩;obtain⟨HB1,Ck⟩:=cL;clear hne0 HW HB HC0 k0 k1 k2 k3 k4 k5 n0w n2w Gk Bk pk c0 c1 c2 c3 c4 c5 c6 hb;have HB:=HB1;clear HB1;have Bk:=Ck;clear Ck;by_cases hq:cpuOf n.n c.ps<=n.c
     ·exact yJ
     ·have HCq:=aa hq;go_wp2;go_ret;exact aq.f (fun h=>by have h1:cpuOf n.n c.ps<=n.c:=h.2 k n HXn.out;have h2:=HCq.out;omega) HB.out
    ·exact yk

def ue (c:Cl):Prop:=(∀(j:Nat) z,c.vs[j]?=some z->AQ1 c z)/\∀(j:Nat) n,c.ns[j]?=some n->onOf n.n c.vs<=n.s

theorem kE (d:Ad) (c:Cl) (w:World) (hr:aJ w d c.raw) (hn:aP Nd.n c.ns) (hvs8:c.vs.length<=8):
  Calls Tryz.prog 113 #[.agg #[.slice d.a1 d.l1 d.c1,.slice d.a2 d.l2 d.c2,.slice d.a3 d.l3 d.c3,.slice d.a4 d.l4 d.c4,.slice d.a5 d.l5 d.c5,.int .i64 c.now]] w (aq (ue c) w):=by
 obtain⟨a1,l1,y1,a2,l2,y2,a3,l3,y3,a4,l4,y4,a5,l5,y5⟩:=d;dsimp only;obtain⟨HR,hl1,hm1,hl3⟩:=nM;have hm3:l3<=9223372036854775807:=Fx hr.v.2.1 hr.v.2.2.1;clear hr;have HNR:=aa hn;have HL3:=aa hvs8;clear hn hvs8;go_enter Tryz.func113,Tryz.ntmps113;go_wp2;go_loopw [3] (fun i wr=> ∃k:Nat,k<=l3/\i=.int .i64 k/\Hid (∀(j:Nat) z,j<k->c.vs[j]?=some z->AQ1 c z)/\Hid (Below w.heap.size w wr)/\Hid (wr.heap[w.heap.size]?=some (.cells (c6 a1 l1 y1 a2 l2 y2 a3 l3 y3 a4 l4 y4 a5 l5 y5 c.now) 36 (0,0)))) (fun i _=>l3 - (intOf i).toNat);case atStart=>exact⟨0,by omega,rfl,fun _ _ h=>absurd h af,al _ _,FB⟩
 case round=>
  obtain⟨k,hk,rfl,HQ,HB,Bk⟩:=hrel;have pk:=ck2 Bk;by_cases hlt:k<l3
  ·obtain⟨b,o,v,rfl,hb,hx,hat⟩:=bN (HR.v.below HB.out) hlt;obtain⟨va,vl,vc,hvr,z0,z2,z3,z5,c0,c1,c2,c3,c4,c5,c6,c7⟩:=aK hat;have HXv:=aa hx;have HTv:=aa hvr;clear hat hx z0 z2 z3 z5 hvr;have hvl:=HTv.1;have hvc:=Fx HTv.2.1 HTv.2.2.1;have HVL:=aa hvl;clear hvl;have KV:Hid ((wr.alloc (.cells (vov v va vl vc) 99)).heap[w.heap.size]?=some (.cells (c6 a1 l1 y1 a2 l2 y2 (some ⟨b,o,none⟩) l3 y3 a4 l4 y4 a5 l5 y5 c.now) 36 (0,0))):=(Fw wr (.cells (vov v va vl vc) 99) _ (ae Bk.out)).trans Bk.out;obtain⟨GV,BV⟩:=BL;have TT:=aa (HTv.below (al wr (.cells (vov v va vl vc) 99)));obtain⟨W,hW⟩:∃W,W=wr.alloc (.cells (vov v va vl vc) 99):=⟨_,rfl⟩;obtain⟨gb,hgb⟩:∃gb,gb=wr.heap.size:=⟨_,rfl⟩;rw[<-hW] at KV GV BV TT;rw[<-hgb] at GV;go_wp2;rw[<-hW,<-hgb];clear hW hgb HB Bk HTv c0 c1 c2 c3 c4 c5 c6 c7 hb pk;go_loopw [5] (fun i wr=> ∃kq:Nat,kq<=vl/\i=.int .i64 kq/\Hid (∀(j:Nat) t,j<kq->v.zs[j]?=some t->∃(i:Nat) (n:Nd),c.ns[i]?=some n/\n.n=t/\n.z=v.z)/\Hid (Below W.heap.size W wr)) (fun i _=>vl - (intOf i).toNat);case atStart=>exact⟨0,by omega,rfl,fun _ _ h=>absurd h af,Ft _ _⟩
   case round=>
    obtain⟨kq,hkq,rfl,HQ2,HBW⟩:=hrel;obtain⟨HB,Bk⟩:=nD;have Bv:=upK GV HBW.out;have pv:=ck7 Bv;by_cases hlt2:kq<vl
    ·obtain⟨b2,o2,t,rfl,hb,hx,hc,hsz⟩:=(TT.below HBW.out).at hlt2;have HXt:=aa hx;clear hx hsz;by_cases hnn:∃(i:Nat) (n:Nd),c.ns[i]?=some n/\n.n=t;rotate_left
     ·have HH:=aa hnn;clear hnn;obtain⟨Gk,Gv,HW,k0,k1,k2,k3,k4,k5⟩:=BU;have v7:=fun q:Wd wr=>q.slot (o:=7) Gv.out rfl;obtain⟨tw,hne0⟩:=iS;have HC0:=aa (fun q:Wd wr=>td ⟨a1,l1,y1,a2,l2,y2,(some ⟨b,o,none⟩),l3,y3,a4,l4,y4,a5,l5,y5⟩ c.now c.ns t q.w (HR.n.below (HW.trans (q.b.mono HW.size))) (fun i n h1 h2=>HH.out ⟨i,n,h1,h2⟩));go_wp2_with fail;refine ag ar ar ?_;repeat (go_big_quiet_step (first|(go_at_call 144;exact Calls.wide (HC0.out _))|fail))
      refine wpQuiet_nil ?_;rintro _ ⟨q1,rfl⟩;obtain⟨HB1,Ck⟩:=cL;have Cv:=upK Gv q1.b;clear hne0 HW HB HC0 k0 k1 k2 k3 k4 k5 v7 tw Gk Gv Bk Bv pv;have HB:=HB1;clear HB1;have Bk:=Ck;clear Ck;have Bv:=Cv;clear Cv;obtain⟨Gk,Gv,HW,k0,v2,v7⟩:=vh;have hne0:=Wd.ne q1.w;go_wp2_with fail;refine ag ar ar ?_;repeat (go_big_quiet_step (first|fail))
      refine wpQuiet_nil ?_;rintro _ ⟨q2,rfl⟩;obtain⟨HB2,Ck⟩:=dM;have Cv:=upK Gv q2.b;clear hne0 HW HB k0 v2 v7 Gk Gv Bk Bv;have HB:=HB2;clear HB2;have Bk:=Ck;clear Ck;have Bv:=Cv;clear Cv;go_wp2;go_ret;refine aq.f (fun h=>?_) HB.out;obtain⟨i,n,h2,h3,_⟩:=(h.1 k v HXv.out) kq t HXt.out;exact HH.out ⟨i,n,h2,h3⟩
     obtain⟨j1,n,h1,h2⟩:=hnn;have hl1':j1<l1:=by have h3:=(Fk.1 h1).1;omega
     obtain⟨b1,o1,n',rfl,hb1n,hn',hat⟩:=cA HR.n hl1';rw[h1] at hn';obtain rfl:=Fo hn';obtain⟨na,nl,nc,hnr,z0,z1,d0,d1,d2,d3,d4,d5,d6⟩:=aZ hat;have HJn:=aa h1;have HNn:=aa h2;have HCn:=aa d1;have HBn:=aa hb1n;have hj11:decide ((j1:Int)<0)=false:=aR
     clear hn' hat hnr z0 z1 d0 d1 d2 d3 d4 d5 d6 h1 h2 hb1n;have Gk:=Bk;have Gv:=Bv;have HW:=HB;obtain⟨k0,k1,k2,k3,k4,k5⟩:=sl6 Gk;have v7:=fun q:Wd wr=>q.slot (o:=7) Gv.out rfl;obtain⟨tw,hne0⟩:=iS;have HC0:=aa (fun q:Wd wr=>jD ⟨(some ⟨b1,o1,none⟩),l1,y1,a2,l2,y2,(some ⟨b,o,none⟩),l3,y3,a4,l4,y4,a5,l5,y5⟩ c.now c.ns t q.w (HR.n.below (HW.trans (q.b.mono HW.size))) HNR.out HJn.out HNn.out);go_wp2_with fail;refine ag ar ar ?_;repeat (go_big_quiet_step (first|(go_at_call 144;exact Calls.wide (HC0.out _))|fail))
     refine wpQuiet_nil ?_;rintro _ ⟨q1,rfl⟩;obtain⟨HB1,Ck⟩:=cL;have Cv:=upK Gv q1.b;clear hne0 HW HB HC0 k0 k1 k2 k3 k4 k5 v7 tw Gk Gv Bk Bv pv hb hc;have HB:=HB1;clear HB1;have Bk:=Ck;clear Ck;have Bv:=Cv;clear Cv;have HBW1:=upB HBW q1.b;have hbn:=FC HBn.out HB.size;have n1:=(ak HB.out HBn.out).trans HCn.out;clear HBW;by_cases hz:n.z=v.z
     ·have q8:=a9 hz;have HZ:=aa hz;clear hz;obtain⟨Gk,Gv,HW,k0,v2,v7⟩:=vh;have nw:=fun q:Wd q1.w=>(q.cell hbn).trans n1;have hne0:=Wd.ne q1.w;go_wp2_with fail;refine ag ar ar ?_;repeat (go_big_quiet_step (first|fail))
      refine wpQuiet_nil ?_;rintro _ ⟨q2,rfl⟩;obtain⟨HB2,Ck⟩:=dM;have Cv:=upK Gv q2.b;clear hne0 HW HB k0 v2 v7 nw Gk Gv Bk Bv hbn n1;have HB:=HB2;clear HB2;have Bk:=Ck;clear Ck;have Bv:=Cv;clear Cv;clear q8;go_wp2_with fail;refine⟨⟨kq+1,by omega,by go_num,fun j s hj hs=>?_,HBW1.trans (q2.b.mono HBW1.size)⟩,by simp[intOf];omega⟩;by_cases e:j=kq
      ·subst e;rw[HXt.out] at hs;obtain rfl:=Fo hs;exact⟨j1,n,HJn.out,HNn.out,HZ.out⟩
      ·exact HQ2.out j s af hs
     ·have q8:=bB hz;have HZ:=aa hz;clear hz;obtain⟨Gk,Gv,HW,k0,v2,v7⟩:=vh;have nw:=fun q:Wd q1.w=>(q.cell hbn).trans n1;have hne0:=Wd.ne q1.w;go_wp2_with fail;refine ag ar ar ?_;repeat (go_big_quiet_step (first|fail))
      refine wpQuiet_nil ?_;rintro _ ⟨q2,rfl⟩;obtain⟨HB2,Ck⟩:=dM;have Cv:=upK Gv q2.b;clear hne0 HW HB k0 v2 v7 nw Gk Gv Bk Bv hbn n1;have HB:=HB2;clear HB2;have Bk:=Ck;clear Ck;have Bv:=Cv;clear Cv;go_wp2;go_ret;refine aq.f (fun h=>?_) HB.out;obtain⟨i,m2,e1,e2,e3⟩:=(h.1 k v HXv.out) kq t HXt.out;obtain⟨_,rfl⟩:=HNR.inj e1 HJn.out (e2.trans HNn.symm);exact HZ.out e3
    ·exact CC
  ·obtain rfl:l3=k:=af
   have HQ1:Hid (∀(j:Nat) z,c.vs[j]?=some z->AQ1 c z):=fun j z hz=>HQ.out j z cZ hz;clear HQ;go_wp2;clear pk;go_loopw [7] (fun i wr=> ∃k:Nat,k<=l1/\i=.int .i64 k/\Hid (∀(j:Nat) n,j<k->c.ns[j]?=some n->onOf n.n c.vs<=n.s)/\Hid (Below w.heap.size w wr)/\Hid (wr.heap[w.heap.size]?=some (.cells (c6 a1 l1 y1 a2 l2 y2 a3 l3 y3 a4 l4 y4 a5 l5 y5 c.now) 36 (0,0)))) (fun i _=>l1 - (intOf i).toNat);case atStart=>exact⟨0,by omega,rfl,fun _ _ h=>absurd h af,HB.out,Bk.out⟩
   case round=>
    obtain⟨k,hk,rfl,HQ,HB,Bk⟩:=hrel;have pk:=ck0 Bk;by_cases hlt:k<l1
    ·obtain⟨b,o,n,rfl,hb,hx,hat⟩:=cA (HR.n.below HB.out) hlt;obtain⟨va,vl,vc,hvr,z0,z1,c0,c1,c2,c3,c4,c5,c6⟩:=aZ hat;have HXn:=aa hx;clear hat hx z0 z1 hvr;have Gk:=Bk;have HW:=HB;obtain⟨k0,k1,k2,k3,k4,k5⟩:=sl6 Gk;have n0w:=fun q:Wd wr=>(q.cell hb).trans c0;have n2w:=fun q:Wd wr=>(q.cell hb).trans c3;have hne0:=Wd.ne wr;have HC0:=aa (fun q:Wd wr=>Am ⟨(some ⟨b,o,none⟩),l1,y1,a2,l2,y2,a3,l3,y3,a4,l4,y4,a5,l5,y5⟩ c.now c.vs n.n q.w (HR.v.below (HW.trans (q.b.mono HW.size))) HL3.out);go_wp2_with fail;refine ag ar ar ?_;repeat (go_big_quiet_step (first|(go_at_call 146;exact Calls.wide (HC0.out _))|fail))
     refine wpQuiet_nil ?_;rintro _ ⟨q1,rfl⟩;obtain⟨HB1,Ck⟩:=cL;clear hne0 HW HB HC0 k0 k1 k2 k3 k4 k5 n0w n2w Gk Bk pk c0 c1 c2 c3 c4 c5 c6 hb;have HB:=HB1;clear HB1;have Bk:=Ck;clear Ck;by_cases hq:onOf n.n c.vs<=n.s
     ·exact yJ
     ·have HCq:=aa hq;go_wp2;go_ret;exact aq.f (fun h=>by have h1:onOf n.n c.vs<=n.s:=h.2 k n HXn.out;have h2:=HCq.out;omega) HB.out
    ·exact yk

def mF (W:World):Fact:=fun v w=> ∃g,v=.pointer (some ⟨g,0,none⟩)/\W.heap.size<=g/\w.heap[g]?=some (.cells #[.string ⟨#[]⟩,.string ⟨#[]⟩,.int .i64 0,.int .i64 0,.int .i64 0,.bool false,.slice none 0 0] 57 (0,0))
theorem mF.mono (W:World):Fact.bD (mF W):=by
 rintro v w w' ⟨g,h1,h2,h3⟩ hb;exact⟨g,h1,h2,(hb.block g (ae h3)).trans h3⟩
theorem Ed {w:World} {g:Nat} {v0 v1 v2 v3 v4 v5 v6:Value} (h:w.heap[g]?=some (.cells #[.string ⟨#[]⟩,.string ⟨#[]⟩,.int .i64 0,.int .i64 0,.int .i64 0,.bool false,.slice none 0 0] 57 (0,0))):
  (((((((w.setCell ⟨g,0,none⟩ (v0)).setCell ⟨g,1,none⟩ (v1)).setCell ⟨g,2,none⟩ (v2)).setCell ⟨g,3,none⟩ (v3)).setCell ⟨g,4,none⟩ (v4)).setCell ⟨g,5,none⟩ (v5)).setCell ⟨g,6,none⟩ (v6)).heap[g]?=some (.cells #[v0,v1,v2,v3,v4,v5,v6] 57 (0,0)):=by
 have:=aA (i:=6) (aA (i:=5) (aA (i:=4) (aA (i:=3) (aA (i:=2) (aA (i:=1) (aA (i:=0) h v0) v1) v2) v3) v4) v5) v6;simpa using this
theorem pz {W w:World} {g:Nat} {v0 v1 v2 v3 v4 v5 v6:Value} (hg:W.heap.size<=g) (h:Below W.heap.size W w):Below W.heap.size W (((((((w.setCell ⟨g,0,none⟩ (v0)).setCell ⟨g,1,none⟩ (v1)).setCell ⟨g,2,none⟩ (v2)).setCell ⟨g,3,none⟩ (v3)).setCell ⟨g,4,none⟩ (v4)).setCell ⟨g,5,none⟩ (v5)).setCell ⟨g,6,none⟩ (v6)):=
 ah hg (ah hg (ah hg (ah hg (ah hg (ah hg (ah hg h))))))
def EK (c:Cl) (p:Pd) (n:Nd):Prop:=∀(j:Nat) t,p.zs[j]?=some t->∃v,bI c t v/\InL n.zs v.n

theorem nd (d:Ad) (c:Cl) (p:Pd) (pa:Option Addr) (pl pc:Nat) (j1:Nat) (n:Nd) (w:World) (hr:aJ w d c.raw) (hn:aP Nd.n c.ns) (hx:aP Xd.n c.xs) (hv:aP Vd.n c.vs) (hne:∀(j:Nat) v,c.vs[j]?=some v->¬v.n=⟨#[]⟩) (hp:ay w pa pl pc p.zs) (hj1:c.ns[j1]?=some n) (hnn:n.n=p.d) (hbd:∀(j:Nat) t,p.zs[j]?=some t->∃v,bI c t v):
  Calls Tryz.prog 147 #[.agg #[.slice d.a1 d.l1 d.c1,.slice d.a2 d.l2 d.c2,.slice d.a3 d.l3 d.c3,.slice d.a4 d.l4 d.c4,.slice d.a5 d.l5 d.c5,.int .i64 c.now],.agg #[.string p.n,.int .i64 p.c,.string p.z,.slice pa pl pc,.string p.d,.int .i64 p.p]] w (aq (EK c p n) w):=by
 obtain⟨a1,l1,y1,a2,l2,y2,a3,l3,y3,a4,l4,y4,a5,l5,y5⟩:=d;dsimp only;have HR:=aa hr;have hl1:c.ns.length=l1:=sh
 have hl3:c.vs.length=l3:=kY
 clear hr;have HNR:=aa hn;obtain⟨HX,HV,HNE⟩:=iR;have HP:=aa hp;have HBD:=aa hbd;have hlc:=Fx hp.2.1 hp.2.2.1;have hzl:=hp.1;have hl1':j1<l1:=by have h3:=(Fk.1 hj1).1;omega
 obtain⟨b1,o1,n',rfl,hb1n,hn',hat⟩:=cA HR.n hl1';rw[hj1] at hn';obtain rfl:=Fo hn';obtain⟨na,nl,nc,hnr,z0,z1,d0,d1,d2,d3,d4,d5,d6⟩:=aZ hat;have HJn:=aa hj1;have HNn:=aa hnn;have HTn:=aa hnr;have HBn:=aa hb1n;have HD:Hid (w.cell? ⟨b1,o1+j1*7,none⟩=some (.string n.n)/\w.cell? ⟨b1,o1+j1*7+1,none⟩=some (.string n.z)/\w.cell? ⟨b1,o1+j1*7+2,none⟩=some (.int .i64 n.c)/\w.cell? ⟨b1,o1+j1*7+3,none⟩=some (.int .i64 n.s)/\w.cell? ⟨b1,o1+j1*7+4,none⟩=some (.int .i64 n.u)/\w.cell? ⟨b1,o1+j1*7+5,none⟩=some (.bool n.d)/\w.cell? ⟨b1,o1+j1*7+6,none⟩=some (.slice na nl nc)):=⟨d0,d1,d2,d3,d4,d5,d6⟩;clear hn' hat hnr z0 z1 d0 d1 d2 d3 d4 d5 d6 hj1 hnn hb1n hn hx hv hne hp hbd;obtain⟨W,hW0⟩:∃W,W=(w.alloc (.cells (c6 (some ⟨b1,o1,none⟩) l1 y1 a2 l2 y2 a3 l3 y3 a4 l4 y4 a5 l5 y5 c.now) 36)).alloc (.cells (pov p pa pl pc) 64):=⟨_,rfl⟩;have GK:Hid (W.heap[w.heap.size]?=some (.cells (c6 (some ⟨b1,o1,none⟩) l1 y1 a2 l2 y2 a3 l3 y3 a4 l4 y4 a5 l5 y5 c.now) 36 (0,0))):=by rw[hW0];exact cS _ _ _
 have GP:Hid (W.heap[w.heap.size+1]?=some (.cells (pov p pa pl pc) 64 (0,0))):=by rw[hW0];exact bE _ _ _
 have BW:Hid (Below w.heap.size w W):=by rw[hW0];exact aF _ _ _
 go_enter Tryz.func147,Tryz.ntmps147;go_wp2_with fail;rw[<-hW0];clear hW0;rename_i K0 hK0;refine aU ar rfl rfl ar ?_;refine' au.an _ rfl ?_ ?_;rotate_left 1
 ·exact qb
 refine' au.an _ rfl ?_ ?_;rotate_left 1
 ·refine Obl.plain rfl ?_;intro ac wg K hsz hW hf hK;clear hsz;have e7:=hf 7 aj;simp[ai,Fp] at e7;exact wN
 refine' au.an _ rfl ?_ ?_;rotate_left 1
 ·refine Obl.plain rfl ?_;intro ac wg K hsz hW hf hK;clear hsz;have e2:=hf 2 aj;simp[ai,Fp] at e2;exact wN
 refine' au.an _ rfl ?_ ?_;rotate_left 1
 ·exact lX
 refine' au.an _ rfl ?_ ?_;rotate_left 1
 ·refine Obl.plain rfl ?_;intro ac wg K hsz hW hf hK;clear hsz;have e10:=hf 10 aj;simp[ai,Fp] at e10;clear hf;obtain⟨r0,r1,r2,r3,r4,r5⟩:=cs6 ((hW.block _ (ae GP.out)).trans GP.out);exact aT
 refine' au.an (.int .i64 j1) rfl ?_ ?_
 ·refine Obl.plain rfl ?_;intro ac wg K hsz hW hf hK;clear hsz;have e9:=hf 9 aj;simp[ai,Fp] at e9;have e11:=hf 11 aj;simp[ai,Fp] at e11;clear hf;go_simp;refine (jD ⟨(some ⟨b1,o1,none⟩),l1,y1,a2,l2,y2,a3,l3,y3,a4,l4,y4,a5,l5,y5⟩ c.now c.ns p.d _ (HR.n.below (BW.trans (hW.mono BW.size))) HNR.out HJn.out HNn.out).mono ?_;rintro e w5 ⟨rfl,hb5⟩;exact hK _ _ hb5 rfl
 refine' au.an _ rfl ?_ ?_;rotate_left 1
 ·refine Obl.plain rfl ?_;intro ac wg K hsz hW hf hK;clear hsz;have e8:=hf 8 aj;simp[ai,Fp] at e8;have e12:=hf 12 aj;simp[ai,Fp] at e12;clear hf;exact aT
 refine' au.an _ rfl ?_ ?_;rotate_left 1
 ·refine Obl.plain rfl ?_;intro ac wg K hsz hW hf hK;clear hsz;have e13:=hf 13 aj;simp[ai,Fp] at e13;clear hf;have hBg:=BW.trans (hW.mono BW.size);obtain⟨d0,d1,d2,d3,d4,d5,d6⟩:=HD.out;have g0:=(ak hBg HBn.out).trans d0;have g1:=(ak hBg HBn.out).trans d1;have g2:=(ak hBg HBn.out).trans d2;have g3:=(ak hBg HBn.out).trans d3;have g4:=(ak hBg HBn.out).trans d4;have g5:=(ak hBg HBn.out).trans d5;have g6:=(ak hBg HBn.out).trans d6;clear d0 d1 d2 d3 d4 d5 d6 hBg;exact aT
 refine au.step (mF W) rfl (mF.mono W) ?_ ?_
 ·exact nW
 refine au.done ?_;intro q wz hW hf;simp only[List.forall_mem_cons] at hf;obtain⟨⟨g5,h5,hbW,hgb⟩,h14,-⟩:=hf;have r0:=ck0 hgb;have r1:=ck1 hgb;have r2:=ck2 hgb;have r3:=ck3 hgb;have r4:=ck4 hgb;have r5:=ck5 hgb;have r6:=ck6 hgb;have f0:=av hgb 0;have f1:=av hgb 1;have f2:=av hgb 2;have f3:=av hgb 3;have f4:=av hgb 4;have f5:=av hgb 5;have f6:=av hgb 6;have GN:=aa (Ed (v0:=.string n.n) (v1:=.string n.z) (v2:=.int .i64 n.c) (v3:=.int .i64 n.s) (v4:=.int .i64 n.u) (v5:=.bool n.d) (v6:=.slice na nl nc) hgb);have BN:=aa (pz (v0:=.string n.n) (v1:=.string n.z) (v2:=.int .i64 n.c) (v3:=.int .i64 n.s) (v4:=.int .i64 n.u) (v5:=.bool n.d) (v6:=.slice na nl nc) hbW hW);clear hgb hW;intro K hK;rw[if_pos bJ];simp only[aE,List.foldr,Act.put,List.setIfInBounds_toArray,List.set_cons_zero,List.set_cons_succ,h5,h14];simp only[List.getLast];go_simp;refine hK _ _ ?_;refine hK0 _ _ ?_;clear hK hK0 K K0;generalize (((((((wz.setCell ⟨g5,0,none⟩ (.string n.n)).setCell ⟨g5,1,none⟩ (.string n.z)).setCell ⟨g5,2,none⟩ (.int .i64 n.c)).setCell ⟨g5,3,none⟩ (.int .i64 n.s)).setCell ⟨g5,4,none⟩ (.int .i64 n.u)).setCell ⟨g5,5,none⟩ (.bool n.d)).setCell ⟨g5,6,none⟩ (.slice na nl nc))=Y at GN BN ⊢;clear r0 f0 r1 f1 r2 f2 r3 f3 r4 f4 r5 f5 r6 f6;have KV:=upK GK BN.out;have PVv:=upK GP BN.out;have BV:=aa (BW.trans (BN.mono BW.size));clear GK GP BW BN hbW;have pp:=ck3 PVv;go_wp2;clear pp;go_loopw [6] (fun i wr=> ∃k:Nat,k<=pl/\i=.int .i64 k/\Hid (∀(j:Nat) t,j<k->p.zs[j]?=some t->∃v,bI c t v/\InL n.zs v.n)/\Hid (Below Y.heap.size Y wr)) (fun i _=>pl - (intOf i).toNat);case atStart=>exact⟨0,by omega,rfl,fun _ _ h=>absurd h af,Ft _ _⟩
 case round=>
  obtain⟨k,hk,rfl,HQ,HBY⟩:=hrel;have HB:=aa (BV.trans (HBY.mono BV.size));have Bk:=upK KV HBY.out;have Bp:=upK PVv HBY.out;have Bn:=upK GN HBY.out;have pp:=ck3 Bp;by_cases hlt:k<pl
  ·obtain⟨b,o,t,rfl,hb,hxt,hc,hsz⟩:=(HP.below HB.out).at hlt;have HXt:=aa hxt;clear hxt hsz;obtain⟨v,hbd⟩:=HBD.out k t HXt.out;obtain⟨j3,hj3⟩:=hbd.at;have hl3':j3<l3:=by have h1:=(Fk.1 hj3).1;omega
   obtain⟨b3,o3,v',rfl,hb3,hv',hat⟩:=bN HR.v hl3';rw[hj3] at hv';obtain rfl:=Fo hv';obtain⟨xa,xl,xc,hvr,z0,z2,z3,z5,d0,d1,d2,d3,d4,d5,d6,d7⟩:=aK hat;have HJ:=aa hj3;have HDb:=aa hbd;have hbv:=FC hb3 HB.size;have v0:=(ak HB.out hb3).trans d0;clear hv' hat hvr z0 z2 z3 z5 d0 d1 d2 d3 d4 d5 d6 d7 hj3 hbd hb3;by_cases hin:InL n.zs v.n
   ·have HIn:=aa hin;clear hin;have Gk:=Bk;have Gp:=Bp;have Gn:=Bn;have HW:=HB;obtain⟨k0,k1,k2,k3,k4,k5⟩:=sl6 Gk;obtain⟨p3,n6,tw,vw,hne0,HC0⟩:=B9;have HC1:=aa (fun q:Wd wr=>(di na nl nc n.zs v.n q.w (HTn.below (HW.trans (q.b.mono HW.size)))).mono (fun _ _ h=>aq.yes h HIn.out));go_wp2_with fail;refine ag ar ar ?_;repeat (go_big_quiet_step (first|(go_at_call 102;exact Calls.wide (HC0.out _))|(go_at_call 108;exact Calls.wide (HC1.out _))|fail))
    refine wpQuiet_nil ?_;rintro _ ⟨q2,rfl⟩;have HB1:=upB HW q2.b;have Ck:=upK Gk q2.b;have Cp:=upK Gp q2.b;have Cn:=upK Gn q2.b;clear hne0 HW HB HC0 HC1 k0 k1 k2 k3 k4 k5 p3 n6 tw vw Gk Gp Gn Bk Bp Bn pp hb hc hbv v0;have HB:=HB1;clear HB1;have Bk:=Ck;clear Ck;have Bp:=Cp;clear Cp;have Bn:=Cn;clear Cn;go_wp2_with fail;refine⟨⟨k+1,by omega,by go_num,fun j s hj hs=>?_,HBY.trans (q2.b.mono HBY.size)⟩,by simp[intOf];omega⟩;by_cases e:j=k
    ·subst e;rw[HXt.out] at hs;obtain rfl:=Fo hs;exact⟨v,HDb.out,HIn.out⟩
    ·exact HQ.out j s af hs
   ·have HIn:=aa hin;clear hin;have Gk:=Bk;have Gp:=Bp;have Gn:=Bn;have HW:=HB;obtain⟨k0,k1,k2,k3,k4,k5⟩:=sl6 Gk;obtain⟨p3,n6,tw,vw,hne0,HC0⟩:=B9;have HC1:=aa (fun q:Wd wr=>(di na nl nc n.zs v.n q.w (HTn.below (HW.trans (q.b.mono HW.size)))).mono (fun _ _ h=>aq.no h HIn.out));go_wp2_with fail;refine ag ar ar ?_;repeat (go_big_quiet_step (first|(go_at_call 102;exact Calls.wide (HC0.out _))|(go_at_call 108;exact Calls.wide (HC1.out _))|fail))
    refine wpQuiet_nil ?_;rintro _ ⟨q2,rfl⟩;have HB1:=upB HW q2.b;have Ck:=upK Gk q2.b;have Cp:=upK Gp q2.b;have Cn:=upK Gn q2.b;clear hne0 HW HB HC0 HC1 k0 k1 k2 k3 k4 k5 p3 n6 tw vw Gk Gp Gn Bk Bp Bn pp hb hc hbv v0;have HB:=HB1;clear HB1;have Bk:=Ck;clear Ck;have Bp:=Cp;clear Cp;have Bn:=Cn;clear Cn;go_wp2;go_ret;refine aq.f (fun h=>?_) HB.out;obtain⟨v2,e1,e2⟩:=h k t HXt.out;obtain rfl:=bI.inj HX.out HV.out HDb.out e1;exact HIn.out e2
  ·exact yh

theorem lP (d:Ad) (c:Cl) (w:World) (hr:aJ w d c.raw) (hn:aP Nd.n c.ns) (hx:aP Xd.n c.xs) (hv:aP Vd.n c.vs) (hne:∀(j:Nat) v,c.vs[j]?=some v->¬v.n=⟨#[]⟩) (hrun:∀(j:Nat) p,c.ps[j]?=some p->p.p=2->(∃(i:Nat) (n:Nd),c.ns[i]?=some n/\n.n=p.d)/\∀(j:Nat) t,p.zs[j]?=some t->∃v,bI c t v):
  Calls Tryz.prog 114 #[.agg #[.slice d.a1 d.l1 d.c1,.slice d.a2 d.l2 d.c2,.slice d.a3 d.l3 d.c3,.slice d.a4 d.l4 d.c4,.slice d.a5 d.l5 d.c5,.int .i64 c.now]] w (aq (kt c) w):=by
 obtain⟨a1,l1,y1,a2,l2,y2,a3,l3,y3,a4,l4,y4,a5,l5,y5⟩:=d;dsimp only;obtain⟨HR,hl1,hm1,hl3⟩:=nM;obtain⟨hl5,hm5⟩:=jL;clear hr;have HNR:=aa hn;obtain⟨HX,HV,HNE⟩:=iR;have HRun:=aa hrun;clear hn hx hv hne hrun;go_enter Tryz.func114,Tryz.ntmps114;go_wp2;go_loopw [3] (fun i wr=> ∃k:Nat,k<=l1/\i=.int .i64 k/\Hid (∀(j:Nat) z,j<k->c.ns[j]?=some z->ub c z)/\Hid (Below w.heap.size w wr)/\Hid (wr.heap[w.heap.size]?=some (.cells (c6 a1 l1 y1 a2 l2 y2 a3 l3 y3 a4 l4 y4 a5 l5 y5 c.now) 36 (0,0)))) (fun i _=>l1 - (intOf i).toNat);case atStart=>exact⟨0,by omega,rfl,fun _ _ h=>absurd h af,al _ _,FB⟩
 case round=>
  obtain⟨k,hk,rfl,HQ,HB,Bk⟩:=hrel;have pk:=ck0 Bk;by_cases hlt:k<l1
  ·obtain⟨b,o,n,rfl,hb,hx,hat⟩:=cA (HR.n.below HB.out) hlt;obtain⟨va,vl,vc,hvr,z0,z1,c0,c1,c2,c3,c4,c5,c6⟩:=aZ hat;have HXn:=aa hx;have HTn:=aa hvr;clear hat hx z0 z1 hvr;have hvl:=HTn.1;have hvc:=Fx HTn.2.1 HTn.2.2.1;have HVL:=aa hvl;clear hvl;have KV:Hid ((wr.alloc (.cells (nov n va vl vc) 57)).heap[w.heap.size]?=some (.cells (c6 (some ⟨b,o,none⟩) l1 y1 a2 l2 y2 a3 l3 y3 a4 l4 y4 a5 l5 y5 c.now) 36 (0,0))):=(Fw wr (.cells (nov n va vl vc) 57) _ (ae Bk.out)).trans Bk.out;have GV:Hid ((wr.alloc (.cells (nov n va vl vc) 57)).heap[wr.heap.size]?=some (.cells (nov n va vl vc) 57 (0,0))):=FB;have BV:=aa (HB.trans ((al wr (.cells (nov n va vl vc) 57)).mono HB.size));have TT:=aa (HTn.below (al wr (.cells (nov n va vl vc) 57)));obtain⟨W,hW⟩:∃W,W=wr.alloc (.cells (nov n va vl vc) 57):=⟨_,rfl⟩;obtain⟨gb,hgb⟩:∃gb,gb=wr.heap.size:=⟨_,rfl⟩;rw[<-hW] at KV GV BV TT;rw[<-hgb] at GV;go_wp2;rw[<-hW,<-hgb];clear hW hgb HB Bk HTn c0 c1 c2 c3 c4 c5 c6 hb pk;go_loopw [5] (fun i wr=> ∃kq:Nat,kq<=vl/\i=.int .i64 kq/\Hid (∀(j:Nat) t,j<kq->n.zs[j]?=some t->∃(i:Nat) (v:Vd),c.vs[i]?=some v/\v.n=t/\(n.d=true\/InL v.zs n.n))/\Hid (Below W.heap.size W wr)) (fun i _=>vl - (intOf i).toNat);case atStart=>exact⟨0,by omega,rfl,fun _ _ h=>absurd h af,Ft _ _⟩
   case round=>
    obtain⟨kq,hkq,rfl,HQ2,HBW⟩:=hrel;obtain⟨HB,Bk⟩:=nD;have Bv:=upK GV HBW.out;have pv:=ck6 Bv;by_cases hlt2:kq<vl
    ·obtain⟨b2,o2,t,rfl,hb,hx,hc,hsz⟩:=(TT.below HBW.out).at hlt2;have HXt:=aa hx;clear hx hsz;by_cases hnn:∃(i:Nat) (v:Vd),c.vs[i]?=some v/\v.n=t;rotate_left
     ·have HH:=aa hnn;clear hnn;obtain⟨Gk,Gv,HW,k0,k1,k2,k3,k4,k5⟩:=BU;have v6:=fun q:Wd wr=>q.slot (o:=6) Gv.out rfl;obtain⟨tw,hne0⟩:=iS;have HC0:=aa (fun q:Wd wr=>ij ⟨(some ⟨b,o,none⟩),l1,y1,a2,l2,y2,a3,l3,y3,a4,l4,y4,a5,l5,y5⟩ c.now c.vs t q.w (HR.v.below (HW.trans (q.b.mono HW.size))) (fun i v h1 h2=>HH.out ⟨i,v,h1,h2⟩));go_wp2_with fail;refine ag ar ar ?_;repeat (go_big_quiet_step (first|(go_at_call 133;exact Calls.wide (HC0.out _))|fail))
      refine wpQuiet_nil ?_;rintro _ ⟨q1,rfl⟩;obtain⟨HB1,Ck⟩:=cL;have Cv:=upK Gv q1.b;clear hne0 HW HB HC0 k0 k1 k2 k3 k4 k5 v6 tw Gk Gv Bk Bv pv;have HB:=HB1;clear HB1;have Bk:=Ck;clear Ck;have Bv:=Cv;clear Cv;obtain⟨Gk,Gv,HW,k2,v0,v2,v5,v6⟩:=so;have hne0:=Wd.ne q1.w;go_wp2_with fail;refine ag ar ar ?_;repeat (go_big_quiet_step (first|fail))
      refine wpQuiet_nil ?_;rintro _ ⟨q2,rfl⟩;obtain⟨HB2,Ck⟩:=dM;have Cv:=upK Gv q2.b;clear hne0 HW HB k2 v0 v2 v5 v6 Gk Gv Bk Bv;have HB:=HB2;clear HB2;have Bk:=Ck;clear Ck;have Bv:=Cv;clear Cv;go_wp2;go_ret;refine aq.f (fun h=>?_) HB.out;obtain⟨i,v,h2,h3,_⟩:=(h.1 k n HXn.out) kq t HXt.out;exact HH.out ⟨i,v,h2,h3⟩
     obtain⟨j3,v,h1,h2⟩:=hnn;have hl3':j3<l3:=by have h3:=(Fk.1 h1).1;omega
     obtain⟨b3,o3,v',rfl,hb3,hv',hat⟩:=bN HR.v hl3';rw[h1] at hv';obtain rfl:=Fo hv';obtain⟨xa,xl,xc,hvr,z0,z2,z3,z5,d0,d1,d2,d3,d4,d5,d6,d7⟩:=aK hat;have HJ:=aa h1;have HNv:=aa h2;have HTx:=aa hvr;have HC7:=aa d7;have HB3:=aa hb3;have hj31:decide ((j3:Int)<0)=false:=aR
     clear hv' hat hvr z0 z2 z3 z5 d0 d1 d2 d3 d4 d5 d6 d7 h1 h2 hb3;have Gk:=Bk;have Gv:=Bv;have HW:=HB;obtain⟨k0,k1,k2,k3,k4,k5⟩:=sl6 Gk;have v6:=fun q:Wd wr=>q.slot (o:=6) Gv.out rfl;obtain⟨tw,hne0⟩:=iS;have HC0:=aa (fun q:Wd wr=>jB ⟨(some ⟨b,o,none⟩),l1,y1,a2,l2,y2,(some ⟨b3,o3,none⟩),l3,y3,a4,l4,y4,a5,l5,y5⟩ c.now c.vs t q.w (HR.v.below (HW.trans (q.b.mono HW.size))) HV.out HJ.out HNv.out);go_wp2_with fail;refine ag ar ar ?_;repeat (go_big_quiet_step (first|(go_at_call 133;exact Calls.wide (HC0.out _))|fail))
     refine wpQuiet_nil ?_;rintro _ ⟨q1,rfl⟩;obtain⟨HB1,Ck⟩:=cL;have Cv:=upK Gv q1.b;clear hne0 HW HB HC0 k0 k1 k2 k3 k4 k5 v6 tw Gk Gv Bk Bv pv hb hc;have HB:=HB1;clear HB1;have Bk:=Ck;clear Ck;have Bv:=Cv;clear Cv;have HBW1:=upB HBW q1.b;have hbv:=FC HB3.out HB.size;have v7:=(ak HB.out HB3.out).trans HC7.out;clear HBW;rcases He n.d with hd|hd
     ·have HDd:=aa hd;clear hd;have Bv2:Hid (q1.w.heap[gb]?=some (.cells #[.string n.n,.string n.z,.int .i64 n.c,.int .i64 n.s,.int .i64 n.u,.bool true,.slice (some ⟨b2,o2,none⟩) vl vc] 57 (0,0))):=by have:=Bv.out;rw[HDd.out] at this;exact this
      clear Bv;have Bv:=Bv2;clear Bv2;obtain⟨Gk,Gv,HW,k2,v0,v2,v5,v6⟩:=so;have vw:=fun q:Wd q1.w=>(q.cell hbv).trans v7;have hne0:=Wd.ne q1.w;go_wp2_with fail;refine ag ar ar ?_;repeat (go_big_quiet_step (first|fail))
      refine wpQuiet_nil ?_;rintro _ ⟨q2,rfl⟩;obtain⟨HB2,Ck⟩:=dM;have Cv:=upK Gv q2.b;clear hne0 HW HB k2 v0 v2 v5 v6 vw Gk Gv Bk Bv hbv v7;have HB:=HB2;clear HB2;have Bk:=Ck;clear Ck;have Bv:=Cv;clear Cv;go_wp2_with fail;refine⟨⟨kq+1,by omega,by go_num,fun j s hj hs=>?_,HBW1.trans (q2.b.mono HBW1.size)⟩,by simp[intOf];omega⟩;by_cases e:j=kq
      ·subst e;rw[HXt.out] at hs;obtain rfl:=Fo hs;exact⟨j3,v,HJ.out,HNv.out,.inl HDd.out⟩
      ·exact HQ2.out j s af hs
     ·have HDd:=aa hd;clear hd;have Bv2:Hid (q1.w.heap[gb]?=some (.cells #[.string n.n,.string n.z,.int .i64 n.c,.int .i64 n.s,.int .i64 n.u,.bool false,.slice (some ⟨b2,o2,none⟩) vl vc] 57 (0,0))):=by have:=Bv.out;rw[HDd.out] at this;exact this
      clear Bv;have Bv:=Bv2;clear Bv2;by_cases hin:InL v.zs n.n
      ·have HIn:=aa hin;clear hin;obtain⟨Gk,Gv,HW,k2,v0,v2,v5,v6⟩:=so;have vw:=fun q:Wd q1.w=>(q.cell hbv).trans v7;have hne0:=Wd.ne q1.w;have HC0:=aa (fun q:Wd q1.w=>(di xa xl xc v.zs n.n q.w (HTx.below (HW.trans (q.b.mono HW.size)))).mono (fun _ _ h=>aq.yes h HIn.out));go_wp2_with fail;refine ag ar ar ?_;repeat (go_big_quiet_step (first|(go_at_call 108;exact Calls.wide (HC0.out _))|fail))
       refine wpQuiet_nil ?_;rintro _ ⟨q2,rfl⟩;obtain⟨HB2,Ck⟩:=dM;have Cv:=upK Gv q2.b;clear hne0 HW HB HC0 k2 v0 v2 v5 v6 vw Gk Gv Bk Bv hbv v7;have HB:=HB2;clear HB2;have Bk:=Ck;clear Ck;have Bv:=Cv;clear Cv;go_wp2_with fail;refine⟨⟨kq+1,by omega,by go_num,fun j s hj hs=>?_,HBW1.trans (q2.b.mono HBW1.size)⟩,by simp[intOf];omega⟩;by_cases e:j=kq
       ·subst e;rw[HXt.out] at hs;obtain rfl:=Fo hs;exact⟨j3,v,HJ.out,HNv.out,.inr HIn.out⟩
       ·exact HQ2.out j s af hs
      ·have HIn:=aa hin;clear hin;obtain⟨Gk,Gv,HW,k2,v0,v2,v5,v6⟩:=so;have vw:=fun q:Wd q1.w=>(q.cell hbv).trans v7;have hne0:=Wd.ne q1.w;have HC0:=aa (fun q:Wd q1.w=>(di xa xl xc v.zs n.n q.w (HTx.below (HW.trans (q.b.mono HW.size)))).mono (fun _ _ h=>aq.no h HIn.out));go_wp2_with fail;refine ag ar ar ?_;repeat (go_big_quiet_step (first|(go_at_call 108;exact Calls.wide (HC0.out _))|fail))
       refine wpQuiet_nil ?_;rintro _ ⟨q2,rfl⟩;obtain⟨HB2,Ck⟩:=dM;have Cv:=upK Gv q2.b;clear hne0 HW HB HC0 k2 v0 v2 v5 v6 vw Gk Gv Bk Bv hbv v7;have HB:=HB2;clear HB2;have Bk:=Ck;clear Ck;have Bv:=Cv;clear Cv;go_wp2;go_ret;refine aq.f (fun h=>?_) HB.out;obtain⟨i,v2,e1,e2,e3⟩:=(h.1 k n HXn.out) kq t HXt.out;obtain⟨_,rfl⟩:=HV.inj e1 HJ.out (e2.trans HNv.symm);rcases e3 with e3|e3
       ·rw[HDd.out] at e3;cases e3
       ·exact HIn.out e3
    ·obtain rfl:vl=kq:=af
     go_wp2_with fail;refine⟨⟨k+1,by omega,by go_num,fun j z hj hz=>?_,HB.out,Bk.out⟩,by simp[intOf];omega⟩;by_cases e:j=k
     ·subst e;rw[HXn.out] at hz;exact wW
     ·exact HQ.out j z af hz
  ·obtain rfl:l1=k:=af
   have HQ1:Hid (∀(j:Nat) z,c.ns[j]?=some z->ub c z):=fun j z hz=>HQ.out j z cZ hz;clear HQ;go_wp2;clear pk;go_loopw [7] (fun i wr=> ∃k:Nat,k<=l5/\i=.int .i64 k/\Hid (∀(j:Nat) z,j<k->c.ps[j]?=some z->MQ2 c z)/\Hid (Below w.heap.size w wr)/\Hid (wr.heap[w.heap.size]?=some (.cells (c6 a1 l1 y1 a2 l2 y2 a3 l3 y3 a4 l4 y4 a5 l5 y5 c.now) 36 (0,0)))) (fun i _=>l5 - (intOf i).toNat);case atStart=>exact⟨0,by omega,rfl,fun _ _ h=>absurd h af,HB.out,Bk.out⟩
   case round=>
    obtain⟨k,hk,rfl,HQ,HB,Bk⟩:=hrel;have pk:=ck4 Bk;by_cases hlt:k<l5
    ·obtain⟨b,o,p,rfl,hb,hx,hat⟩:=bY (HR.p.below HB.out) hlt;obtain⟨va,vl,vc,hvr,z0,z2,z4,c0,c1,c2,c3,c4,c5⟩:=aS hat;have HXp:=aa hx;have HTp:=aa hvr;clear hat hx z0 z2 z4 hvr;by_cases hp2:p.p=2;rotate_left
     ·have HP2:=aa hp2;have hp3:(p.p==2)=false:=by simpa using hp2
      have Gk:Hid ((wr.alloc (.cells (pov p va vl vc) 64)).heap[w.heap.size]?=some (.cells (c6 a1 l1 y1 a2 l2 y2 a3 l3 y3 a4 l4 y4 (some ⟨b,o,none⟩) l5 y5 c.now) 36 (0,0))):=(Fw _ _ _ (ae Bk.out)).trans (Bk.out);have Gr:Hid ((wr.alloc (.cells (pov p va vl vc) 64)).heap[wr.heap.size]?=some (.cells (pov p va vl vc) 64 (0,0))):=FB;have HW:Hid (Below w.heap.size w (wr.alloc (.cells (pov p va vl vc) 64))):=(HB.trans ((al _ _).mono HB.size));obtain⟨k0,k1,k2,k3,k4,k5⟩:=sl6 Gk;obtain⟨r0,r1,r2,r3,r4,r5⟩:=sl6 Gr;have hne0:=Wd.ne (wr.alloc (.cells (pov p va vl vc) 64));go_wp2_with fail;refine ag ar ar ?_;repeat (go_big_quiet_step (first|fail))
      refine wpQuiet_nil ?_;rintro _ ⟨q1,rfl⟩;obtain⟨HB1,Ck⟩:=cL;have Cr:=upK Gr q1.b;clear hne0 HW HB k0 k1 k2 k3 k4 k5 r0 r1 r2 r3 r4 r5 Gk Gr Bk pk hb c0 c1 c2 c3 c4 c5;have HB:=HB1;clear HB1;have Bk:=Ck;clear Ck;clear Cr;clear hp2 hp3;go_wp2_with fail;refine⟨⟨k+1,by omega,by go_num,fun j z hj hz=>?_,HB.out,Bk.out⟩,by simp[intOf];omega⟩;exact yg
     have HP2:=aa hp2;obtain⟨⟨j1,n,h1,h2⟩,hbd⟩:=HRun.out k p HXp.out hp2;rw[hp2] at c5;clear hp2;have HBD:=aa hbd;have hl1':j1<l1:=by have h3:=(Fk.1 h1).1;omega
     obtain⟨b1,o1,n',rfl,hb1n,hn',hat⟩:=cA HR.n hl1';rw[h1] at hn';obtain rfl:=Fo hn';obtain⟨na,nl,nc,hnr,z0,z1,d0,d1,d2,d3,d4,d5,d6⟩:=aZ hat;have HJn:=aa h1;have HNn:=aa h2;have e5:=(ak HB.out hb1n).trans d5;have hbn:=FC hb1n HB.size;clear hn' hat hnr z0 z1 d0 d1 d2 d3 d4 d5 d6 h1 h2 hb1n hbd;rcases He n.d with hd|hd
     ·have HDd:=aa hd;rw[hd] at e5;clear hd;obtain⟨hbnv,e5v⟩:=vp;obtain⟨Gk,Gr,HW⟩:=Dg;obtain⟨k0,k1,k2,k3,k4,k5⟩:=sl6 Gk;obtain⟨r0,r1,r2,r3,r4,r5⟩:=sl6 Gr;obtain⟨nw,hne0,HC0⟩:=vy;go_wp2_with fail;refine ag ar ar ?_;repeat (go_big_quiet_step (first|(go_at_call 144;exact Calls.wide (HC0.out _))|fail))
      refine wpQuiet_nil ?_;rintro _ ⟨q1,rfl⟩;obtain⟨HB1,Ck⟩:=cL;have Cr:=upK Gr q1.b;clear hne0 HW HB HC0 k0 k1 k2 k3 k4 k5 r0 r1 r2 r3 r4 r5 nw Gk Gr Bk pk hb hbn e5 hbnv e5v c0 c1 c2 c3 c4 c5;have HB:=HB1;clear HB1;have Bk:=Ck;clear Ck;clear Cr;go_wp2;go_ret;refine aq.f (fun h=>?_) HB.out;obtain⟨i,m,e1,e2,e3,_⟩:=(h.2 k p HXp.out) HP2.out;obtain⟨_,rfl⟩:=HNR.inj e1 HJn.out (e2.trans HNn.symm);rw[HDd.out] at e3;cases e3
     ·by_cases hal:EK c p n
      ·have HAl:=aa hal;clear hal;have HDd:=aa hd;rw[hd] at e5;clear hd;obtain⟨hbnv,e5v⟩:=vp;have HCA:Hid (∀q:Wd (wr.alloc (.cells #[.string p.n,.int .i64 p.c,.string p.z,.slice va vl vc,.string p.d,.int .i64 2] 64)),Calls Tryz.prog 147 #[.agg #[.slice (some ⟨b1,o1,none⟩) l1 y1,.slice a2 l2 y2,.slice a3 l3 y3,.slice a4 l4 y4,.slice (some ⟨b,o,none⟩) l5 y5,.int .i64 c.now],.agg #[.string p.n,.int .i64 p.c,.string p.z,.slice va vl vc,.string p.d,.int .i64 2]] q.w fun e w'=>e=.returned (.bool true)/\Below q.w.heap.size q.w w'):=by
        intro q;have h0:=(nd ⟨(some ⟨b1,o1,none⟩),l1,y1,a2,l2,y2,a3,l3,y3,a4,l4,y4,(some ⟨b,o,none⟩),l5,y5⟩ c p va vl vc j1 n q.w (HR.below (HB.trans (((al wr _).trans (q.b.mono aR)).mono HB.size))) HNR.out HX.out HV.out HNE.out (HTp.below ((al wr _).trans (q.b.mono aR))) HJn.out HNn.out HBD.out).mono (fun _ _ h=>aq.yes h HAl.out);rw[HP2.out] at h0;exact h0
       obtain⟨Gk,Gr,HW⟩:=Dg;obtain⟨k0,k1,k2,k3,k4,k5⟩:=sl6 Gk;obtain⟨r0,r1,r2,r3,r4,r5⟩:=sl6 Gr;obtain⟨nw,hne0,HC0⟩:=vy;have HC1:=aa (fun q:Wd (wr.alloc (.cells #[.string p.n,.int .i64 p.c,.string p.z,.slice va vl vc,.string p.d,.int .i64 2] 64))=>HCA.out q);go_wp2_with fail;refine ag ar ar ?_;repeat (go_big_quiet_step (first|(go_at_call 144;exact Calls.wide (HC0.out _))|(go_at_call 147;exact Calls.wide (HC1.out _))|fail))
       refine wpQuiet_nil ?_;rintro _ ⟨q1,rfl⟩;obtain⟨HB1,Ck⟩:=cL;have Cr:=upK Gr q1.b;clear hne0 HW HB HC0 HC1 k0 k1 k2 k3 k4 k5 r0 r1 r2 r3 r4 r5 nw Gk Gr Bk pk hb hbn e5 hbnv e5v c0 c1 c2 c3 c4 c5;have HB:=HB1;clear HB1;have Bk:=Ck;clear Ck;clear Cr;go_wp2_with fail;refine⟨⟨k+1,by omega,by go_num,fun j z hj hz=>?_,HB.out,Bk.out⟩,by simp[intOf];omega⟩;by_cases e:j=k
       ·subst e;rw[HXp.out] at hz;obtain rfl:=Fo hz;exact fun _=>⟨j1,n,HJn.out,HNn.out,HDd.out,HAl.out⟩
       ·exact HQ.out j z af hz
      ·have HAl:=aa hal;clear hal;have HDd:=aa hd;rw[hd] at e5;clear hd;obtain⟨hbnv,e5v⟩:=vp;have HCA:Hid (∀q:Wd (wr.alloc (.cells #[.string p.n,.int .i64 p.c,.string p.z,.slice va vl vc,.string p.d,.int .i64 2] 64)),Calls Tryz.prog 147 #[.agg #[.slice (some ⟨b1,o1,none⟩) l1 y1,.slice a2 l2 y2,.slice a3 l3 y3,.slice a4 l4 y4,.slice (some ⟨b,o,none⟩) l5 y5,.int .i64 c.now],.agg #[.string p.n,.int .i64 p.c,.string p.z,.slice va vl vc,.string p.d,.int .i64 2]] q.w fun e w'=>e=.returned (.bool false)/\Below q.w.heap.size q.w w'):=by
        intro q;have h0:=(nd ⟨(some ⟨b1,o1,none⟩),l1,y1,a2,l2,y2,a3,l3,y3,a4,l4,y4,(some ⟨b,o,none⟩),l5,y5⟩ c p va vl vc j1 n q.w (HR.below (HB.trans (((al wr _).trans (q.b.mono aR)).mono HB.size))) HNR.out HX.out HV.out HNE.out (HTp.below ((al wr _).trans (q.b.mono aR))) HJn.out HNn.out HBD.out).mono (fun _ _ h=>aq.no h HAl.out);rw[HP2.out] at h0;exact h0
       obtain⟨Gk,Gr,HW⟩:=Dg;obtain⟨k0,k1,k2,k3,k4,k5⟩:=sl6 Gk;obtain⟨r0,r1,r2,r3,r4,r5⟩:=sl6 Gr;obtain⟨nw,hne0,HC0⟩:=vy;have HC1:=aa (fun q:Wd (wr.alloc (.cells #[.string p.n,.int .i64 p.c,.string p.z,.slice va vl vc,.string p.d,.int .i64 2] 64))=>HCA.out q);go_wp2_with fail;refine ag ar ar ?_;repeat (go_big_quiet_step (first|(go_at_call 144;exact Calls.wide (HC0.out _))|(go_at_call 147;exact Calls.wide (HC1.out _))|fail))
       refine wpQuiet_nil ?_;rintro _ ⟨q1,rfl⟩;obtain⟨HB1,Ck⟩:=cL;have Cr:=upK Gr q1.b;clear hne0 HW HB HC0 HC1 k0 k1 k2 k3 k4 k5 r0 r1 r2 r3 r4 r5 nw Gk Gr Bk pk hb hbn e5 hbnv e5v c0 c1 c2 c3 c4 c5;have HB:=HB1;clear HB1;have Bk:=Ck;clear Ck;clear Cr;go_wp2;go_ret;refine aq.f (fun h=>?_) HB.out;obtain⟨i,m,e1,e2,e3,e4⟩:=(h.2 k p HXp.out) HP2.out;obtain⟨_,rfl⟩:=HNR.inj e1 HJn.out (e2.trans HNn.symm);exact HAl.out e4
    ·obtain rfl:l5=k:=af
     go_wp2;go_ret;exact aq.t ⟨HQ1.out,fun j z hz=>HQ.out j z cZ hz⟩ HB.out

theorem fD {α:Type} {nm:α->ByteArray} {xs:List α} {t:ByteArray} (h:aP nm xs):hit nm xs t=true↔∃(i:Nat) (x:α),xs[i]?=some x/\nm x=t:=by
 constructor
 ·intro e;obtain⟨x,h1,h2⟩:=dq e;exact⟨_,x,h1,h2⟩
 ·rintro⟨i,x,h1,h2⟩;exact (cM h h1 h2).2
theorem lD {c:Cl} (h:cW c):rU c↔rT c:=by
 have hk:=h.2.1.2.2;have hv:=h.2.2.1.2.2;have hx:=h.2.2.2.1.2.2;constructor
 ·rintro⟨h1,h2⟩;refine⟨fun j v e=>?_,fun j x e=>?_⟩
  ·obtain⟨a,b⟩:=h1 j v e;refine⟨(fD hk).1 a,b.imp id ?_⟩;rintro⟨i,j',x,v',e1,e2,e3,e4,e5,e6,_⟩;exact⟨i,x,e1,e2,e5⟩
  ·obtain⟨a,b⟩:=h2 j x e;refine⟨(fD hk).1 a,b.imp id ?_⟩;rintro⟨i,j',x',v',e1,e2,e3,e4,e5,e6,e7,e8,e9⟩;obtain⟨_,rfl⟩:=hx.inj e1 e e2;exact⟨j',v',e3,e4,e6,e7,e8,e9⟩
 ·rintro⟨h1,h2⟩;refine⟨fun j v e=>?_,fun j x e=>?_⟩
  ·obtain⟨a,b⟩:=h1 j v e;refine⟨(fD hk).2 a,b.imp id ?_⟩;rintro⟨i,x,e1,e2,e3⟩;have hne:¬x.v=⟨#[]⟩:=fun q=>h.ne j v e (e3.symm.trans q);obtain⟨_,b2⟩:=h2 i x e1;rcases b2 with b2|⟨j',v',f1,f2,f3,f4,f5,f6⟩
   ·exact absurd b2 hne
   obtain⟨_,rfl⟩:=hv.inj f1 e (f2.trans e3);exact⟨i,j,x,v',e1,e2,e,rfl,e3,rfl,f4,f5,f6⟩
  ·obtain⟨a,b⟩:=h2 j x e;refine⟨(fD hk).2 a,b.imp id ?_⟩;rintro⟨j',v,e1,e2,e3,e4,e5,e6⟩;exact⟨j,j',x,v,e,rfl,e1,e2,rfl,e3,e4,e5,e6⟩
theorem j5 {c:Cl} (h:cW c) (hb:rT c):mE c↔mD c:=by
 have hn:=h.1.2.2;have hv:=h.2.2.1.2.2;have hx:=h.2.2.2.1.2.2;have one:(∀(j:Nat) z,c.vs[j]?=some z->PQ3 c z)↔∀(k:Nat) p,c.ps[k]?=some p->PSc c k p:=by
  constructor
  ·intro h3 k p hp j q hj hq;by_cases e1:q.d=⟨#[]⟩
   ·exact .inl e1
   by_cases e2:p.d=⟨#[]⟩
   ·exact .inr (.inl e2)
   by_cases e3:q.d=p.d
   ·exact .inr (.inr (.inl e3))
   refine .inr (.inr (.inr fun i t ht v hbd hs hin=>e3 ?_));obtain⟨i1,j1,x,f1,f2,f3,f4⟩:=hbd;have hxv:¬x.v=⟨#[]⟩:=fun z=>h.ne j1 v f3 (f4.trans z);have hvm:v.m=t:=by
    rcases (hb.2 i1 x f1).2 with z|⟨j2,v2,g1,g2,g3,_⟩
    ·exact absurd z hxv
    ·obtain⟨_,rfl⟩:=hv.inj g1 f3 (g2.trans f4.symm);rw[g3,f2]
   have ht0:¬v.m=⟨#[]⟩:=fun z=>by
    have h1:=(h.2.2.2.1.2.1 i1 x f1).1.1;rw[f2,<-hvm,z] at h1;exact absurd h1 aj
   have:=h3 j1 v f3 hs ht0;rw[hvm] at this;exact this j k q p hq hp e1 e2 ⟨i,ht⟩ hin
  ·intro h3 j v hj hs hm i1 i2 p q hp hq d1 d2 in1 in2;obtain⟨i4,x,f1,f2,f3⟩:=(hb.1 j v hj).2.resolve_left hm;have hbd:bI c v.m v:=⟨i4,j,x,f1,f2,hj,f3.symm⟩;rcases Nat.lt_trichotomy i1 i2 with k|k|k
   ·obtain⟨r,hr⟩:=in1;rcases h3 i2 q hq i1 p k hp with z|z|z|z
    ·exact absurd z d1
    ·exact absurd z d2
    ·exact z
    ·exact absurd in2 (z r v.m hr v hbd hs)
   ·subst k;rw[hp] at hq;rw[Fo hq]
   ·obtain⟨r,hr⟩:=in2;rcases h3 i1 p hp i2 q k hq with z|z|z|z
    ·exact absurd z d2
    ·exact absurd z d1
    ·exact z.symm
    ·exact absurd in1 (z r v.m hr v hbd hs)
 constructor
 ·rintro⟨h1,h2,h3⟩;refine⟨fun k p hp=>⟨?_,?_,one.1 h3 k p hp⟩,h2⟩
  ·rcases (h1 k p hp).2 with z|⟨i,n,e1,e2,e3,e4⟩
   ·exact .inl z
   ·exact .inr ⟨i,n,e1,e2,e3.imp id Eq.symm⟩
  ·intro j t ht;refine⟨(fD hx).1 ((h1 k p hp).1 j t ht),?_⟩;rcases (h1 k p hp).2 with z|⟨i,n,e1,e2,e3,e4⟩
   ·exact .inl z
   ·obtain⟨v,f1,f2⟩:=e4 j t ht;exact .inr ⟨v,i,n,f1,e1,e2,f2⟩
 ·rintro⟨h1,h2⟩;refine⟨fun k p hp=>⟨fun j t ht=>(fD hx).2 ((h1 k p hp).2.1 j t ht).1,?_⟩,h2,one.2 (fun k p hp=>(h1 k p hp).2.2)⟩;rcases (h1 k p hp).1 with z|⟨i,n,e1,e2,e3⟩
  ·exact .inl z
  by_cases z:p.d=⟨#[]⟩
  ·exact .inl z
  refine .inr ⟨i,n,e1,e2,e3.imp id Eq.symm,fun j t ht=>?_⟩;obtain⟨v,i',n',f1,f2,f3,f4⟩:=((h1 k p hp).2.1 j t ht).2.resolve_left z;obtain⟨_,rfl⟩:=hn.inj f2 e1 (f3.trans e2.symm);exact⟨v,f1,f4⟩
theorem running {c:Cl} (h:cW c) (hp:mD c) (j:Nat) (p:Pd) (hj:c.ps[j]?=some p) (h2:p.p=2):(∃(i:Nat) (n:Nd),c.ns[i]?=some n/\n.n=p.d)/\∀(j:Nat) t,p.zs[j]?=some t->∃v,bI c t v:=by
 have hd:¬p.d=⟨#[]⟩:=fun e=>by
  have h1:=(h.2.2.2.2.2.1 j p hj).2.2.2.2;rcases h1 with ⟨h3,_⟩|⟨_,h3⟩
  ·rw[h2] at h3;cases h3
  ·have h4:=h3.1;rw[e] at h4;exact absurd h4 aj
 obtain⟨a,b,_⟩:=hp.1 j p hj;obtain⟨i,n,e1,e2,_⟩:=a.resolve_left hd;refine⟨⟨i,n,e1,e2⟩,fun k t ht=>?_⟩;obtain⟨v,_,_,e3,_⟩:=(b k t ht).2.resolve_left hd;exact⟨v,e3⟩

theorem pt (d:Ad) (c:Cl) (w:World) (hr:aJ w d c.raw):
  Calls Tryz.prog 85 #[.agg #[.slice d.a1 d.l1 d.c1,.slice d.a2 d.l2 d.c2,.slice d.a3 d.l3 d.c3,.slice d.a4 d.l4 d.c4,.slice d.a5 d.l5 d.c5,.int .i64 c.now]] w (aq (aB c) w):=by
 obtain⟨HR,HB⟩:=gJ;clear hr;go_enter Tryz.func85,Tryz.ntmps85;go_wp2_with fail;refine (lj c.now _).mono ?_;rintro e w1 ⟨r,rfl,hi,hw⟩;have hb:Below (w.alloc (.cells (clv d c.now) 36)).heap.size (w.alloc (.cells (clv d c.now) 36)) w1:=by first|(rw[hw];exact Ft _ _)|(rw[<-hw];exact Ft _ _)
 clear hw;obtain⟨HA0,hbx⟩:=aL hb;have Bk:=aa HA0;replace HB:=upB HB hbx;clear hb hbx HA0;have HI1:=aa hi;clear hi;cases r
 ·exact qG
 obtain⟨k0,k1,k2,k3,k4,k5⟩:=cs6 Bk;go_wp2_with fail;refine (tg d c _ (HR.below HB.out)).mono ?_;rintro e w2 ⟨r,rfl,hi,hb⟩;clear k0 k1 k2 k3 k4 k5;replace Bk:=upK Bk hb;replace HB:=upB HB hb;clear hb;have HI2:=aa hi;clear hi;cases r
 ·exact qI
 have HOK:=aa (HI2.1 ct);obtain⟨k0,k1,k2,k3,k4,k5⟩:=cs6 Bk;go_wp2_with fail;refine (pC d c _ (HR.below HB.out) HOK.2.1.2.2 HOK.2.2.2.1.2.2 HOK.2.2.1.2.2).mono ?_;rintro e w3 ⟨r,rfl,hi,hb⟩;clear k0 k1 k2 k3 k4 k5;replace Bk:=upK Bk hb;replace HB:=upB HB hb;clear hb;have HI3:=aa hi;clear hi;cases r
 ·obtain⟨k0,k1,k2,k3,k4,k5⟩:=cs6 Bk;go_wp2;go_ret;exact aq.f (fun h=>by have:=HI3.2 ((lD HOK.out).1 h.2.2.1);cases this) HB.out
 have HBd:=aa (HI3.1 ct);obtain⟨k0,k1,k2,k3,k4,k5⟩:=cs6 Bk;go_wp2_with fail;refine (mW d c _ (HR.below HB.out) HOK.1.2.2 HOK.2.2.2.1.2.2 HOK.2.2.1.2.2 HOK.ne (by have:=HOK.2.2.2.2.1;omega) HOK.EN).mono ?_;rintro e w4 ⟨r,rfl,hi,hb⟩;clear k0 k1 k2 k3 k4 k5;replace Bk:=upK Bk hb;replace HB:=upB HB hb;clear hb;have HI4:=aa hi;clear hi;cases r
 ·obtain⟨k0,k1,k2,k3,k4,k5⟩:=cs6 Bk;go_wp2;go_ret;exact aq.f (fun h=>by have:=HI4.2 ((j5 HOK.out HBd.out).1 h.2.2.2.1);cases this) HB.out
 have HPl:=aa (HI4.1 ct);obtain⟨k0,k1,k2,k3,k4,k5⟩:=cs6 Bk;go_wp2_with fail;refine (kE d c _ (HR.below HB.out) HOK.1.2.2 (by have:=HOK.2.2.1.1;omega)).mono ?_;rintro e w5 ⟨r,rfl,hi,hb⟩;clear k0 k1 k2 k3 k4 k5;replace Bk:=upK Bk hb;replace HB:=upB HB hb;clear hb;have HI5:=aa hi;clear hi;cases r
 ·exact yb
 obtain⟨k0,k1,k2,k3,k4,k5⟩:=cs6 Bk;go_wp2_with fail;refine (lP d c _ (HR.below HB.out) HOK.1.2.2 HOK.2.2.2.1.2.2 HOK.2.2.1.2.2 HOK.ne (running HOK.out HPl.out)).mono ?_;rintro e w6 ⟨r,rfl,hi,hb⟩;clear k0 k1 k2 k3 k4 k5;replace Bk:=upK Bk hb;replace HB:=upB HB hb;clear hb;have HI6:=aa hi;clear hi;cases r
 ·exact xZ
 go_wp2;go_ret;exact aq.t ⟨HI1.1 ct,HOK.out,(lD HOK.out).2 HBd.out,(j5 HOK.out HBd.out).2 HPl.out,HI5.1 ct,HI6.1 ct⟩ HB.out

end Rc
end Go.Proofs.YtpejepeekdjfoaaGreatDoor

namespace Go.Proofs.YtpejepeekdjfoaaGreatDoor
open Go.RowKit Go.Extern.Stop Go.Stop Go.Extern
namespace Rc

structure Ers (w:World) (E:Nat->Addr):Prop where
 v0:w.cell? ⟨2,0,none⟩=some (.iface 266 (.pointer (some (E 0))))
 v1:w.cell? ⟨3,0,none⟩=some (.iface 266 (.pointer (some (E 1))))
 v2:w.cell? ⟨4,0,none⟩=some (.iface 266 (.pointer (some (E 2))))
 v3:w.cell? ⟨6,0,none⟩=some (.iface 266 (.pointer (some (E 3))))
 v4:w.cell? ⟨8,0,none⟩=some (.iface 266 (.pointer (some (E 4))))
 v5:w.cell? ⟨9,0,none⟩=some (.iface 266 (.pointer (some (E 5))))
 v6:w.cell? ⟨7,0,none⟩=some (.iface 266 (.pointer (some (E 6))))
 v7:w.cell? ⟨1,0,none⟩=some (.iface 266 (.pointer (some (E 7))))
 v8:w.cell? ⟨0,0,none⟩=some (.iface 266 (.pointer (some (E 8))))
 v9:w.cell? ⟨5,0,none⟩=some (.iface 266 (.pointer (some (E 9))))
 blk:∀i,i<10->∃cs T,w.heap[(E i).block]?=some (.cells cs T (0,0))
 inj:∀i j,i<10->j<10->E i=E j->i=j
theorem bg {w:World} {b o:Nat} {v:Value} (h:w.cell? ⟨b,o,none⟩=some v):b<w.heap.size:=World.block_lt_of_cell? w _ h
theorem Ers.below {w w':World} {E:Nat->Addr} (h:Ers w E) (hb:Below w.heap.size w w'):Ers w' E:=
 ⟨(ak hb (bg h.v0)).trans h.v0,(ak hb (bg h.v1)).trans h.v1,(ak hb (bg h.v2)).trans h.v2,(ak hb (bg h.v3)).trans h.v3,(ak hb (bg h.v4)).trans h.v4,(ak hb (bg h.v5)).trans h.v5,(ak hb (bg h.v6)).trans h.v6,(ak hb (bg h.v7)).trans h.v7,(ak hb (bg h.v8)).trans h.v8,(ak hb (bg h.v9)).trans h.v9,fun i hi=>by
  obtain⟨cs,T,h1⟩:=h.blk i hi;exact⟨cs,T,(hb.block _ (ae h1)).trans h1⟩,h.inj⟩
theorem Ers.ens {w:World} {E:Nat->Addr} (h:Ers w E):ens w:=⟨_,_,h.v2⟩

theorem zp (v:Value) (w:World):(Extern.ReflectliteType.typeOf #[.iface 266 v]).run Tryz.prog w=.ok (.iface 223 (.agg #[.pointer (some ⟨10,266,none⟩)])) w:=by kernel_rfl
def Eo:Array Value->Sem Value:=Extern.ReflectliteType.method fun t=>do Rtype.noPackHeld "Comparable" t;pure (.bool (<-typeInfo t).comparable)
theorem mn (w:World):(Eo #[.agg #[.pointer (some ⟨10,266,none⟩)]]).run Tryz.prog w=.ok (.bool true) w:=by kernel_rfl
theorem gg (v:Value) (w:World):(Go.method 416 223 v "Comparable").run Tryz.prog w=.ok (288,v) w:=by kernel_rfl
theorem zr:(Tryz.prog.info? 266).map (·.comparable)=some true:=by kernel_rfl
theorem zq:(Tryz.prog.info? 304).map (·.size)=some 1:=by kernel_rfl
theorem Ee (v:Value) (xT:TypeId) (w:World):(GW (.iface 266 v) xT 225 true).run Tryz.prog w=.ok (.tuple #[.nilIface,.bool false]) w:=run_typeAssert_lacksB Tryz.underlying225 (by kernel_rfl) (by kernel_rfl) v xT w
theorem tq (v:Value) (xT:TypeId) (w:World):(GW (.iface 266 v) xT 228 true).run Tryz.prog w=.ok (.tuple #[.nilIface,.bool false]) w:=run_typeAssert_lacksB Tryz.underlying228 (by kernel_rfl) (by kernel_rfl) v xT w
theorem qR (v:Value) (xT:TypeId) (w:World):(GW (.iface 266 v) xT 230 true).run Tryz.prog w=.ok (.tuple #[.nilIface,.bool false]) w:=run_typeAssert_lacksB Tryz.underlying230 (by kernel_rfl) (by kernel_rfl) v xT w

theorem ei (a:Addr) (w:World)  :
  Calls Tryz.prog 98 #[.iface 266 (.pointer (some (a))),.iface 266 (.pointer (some (a)))] w fun e w'=>e=.returned (.bool true)/\w'=w:=by
 obtain⟨i,hi,hcmp⟩:=FG.1 zr;obtain⟨j,hj,hjs⟩:=FG.1 zq;obtain⟨h8,h32,tT,cT,mR⟩:=BZ;have heq:=run_eql_iface_ptr_same (P:=Tryz.prog) w a Tryz.underlying68 Tryz.underlying266 hi hcmp hj;exact xR

theorem zm (a b:Addr) (ca cb:Array Value) (ta tb:TypeId) (w:World) (hne:a≠b) (ha:w.heap[a.block]?=some (.cells ca ta (0,0))) (hb:w.heap[b.block]?=some (.cells cb tb (0,0))):
  Calls Tryz.prog 98 #[.iface 266 (.pointer (some (a))),.iface 266 (.pointer (some (b)))] w fun e w'=>e=.returned (.bool false)/\w'=w:=by
 obtain⟨i,hi,hcmp⟩:=FG.1 zr;obtain⟨j,hj,hjs⟩:=FG.1 zq;obtain⟨h8,h32,tT,cT,mR⟩:=BZ;have nE:=Ee;have uE:=tq;have vE:=qR;have heq:=run_eql_iface_ptr_other (P:=Tryz.prog) w Tryz.underlying68 Tryz.underlying266 hi hcmp hj (by rw[hjs];decide) hne ha hb;exact xR

theorem aG {w:World} {E:Nat->Addr} (h:Ers w E) (i j:Nat) (hi:i<10) (hj:j<10) (hne:¬i=j):
  Calls Tryz.prog 98 #[.iface 266 (.pointer (some (E i))),.iface 266 (.pointer (some (E j)))] w fun e w'=>e=.returned (.bool false)/\w'=w:=by
 obtain⟨ca,ta,h1⟩:=h.blk i hi;obtain⟨cb,tb,h2⟩:=h.blk j hj;exact zm (E i) (E j) ca cb ta tb w (fun e=>hne (h.inj i j hi hj e)) h1 h2

def dz:Nat->Int
 | 0=>2
 | 1=>1
 | 2=>6
 | 3=>7
 | 4=>9
 | 5=>11
 | 6=>7
 | 7=>11
 | 8=>10
 | 9=>3
 | _=>0

theorem EX (E:Nat->Addr) (w:World) (h:Ers w E):Calls Tryz.prog 61 #[.iface 266 (.pointer (some (E 0)))] w fun e w'=>e=.returned (.int .i64 2)/\w'=w:=by
 obtain⟨HE,v0,v1,v2,v3,v4,v5,v6,v7,v8,v9⟩:=gL;clear h;go_enter Tryz.func61,Tryz.ntmps61;go_wp2_with fail;refine (ei (E 0) _).mono ?_;exact gM

theorem EW (E:Nat->Addr) (w:World) (h:Ers w E):Calls Tryz.prog 61 #[.iface 266 (.pointer (some (E 1)))] w fun e w'=>e=.returned (.int .i64 1)/\w'=w:=by
 obtain⟨HE,v0,v1,v2,v3,v4,v5,v6,v7,v8,v9⟩:=gL;clear h;go_enter Tryz.func61,Tryz.ntmps61;go_wp2_with fail;refine (aG HE.out 1 0 aj aj aj).mono ?_;rintro e w' ⟨rfl,rfl⟩;go_wp2_with fail;refine (aG HE.out 1 9 aj aj aj).mono ?_;rintro e w' ⟨rfl,rfl⟩;go_wp2_with fail;refine (aG HE.out 1 2 aj aj aj).mono ?_;rintro e w' ⟨rfl,rfl⟩;go_wp2_with fail;refine (aG HE.out 1 3 aj aj aj).mono ?_;rintro e w' ⟨rfl,rfl⟩;go_wp2_with fail;refine (aG HE.out 1 6 aj aj aj).mono ?_;rintro e w' ⟨rfl,rfl⟩;go_wp2_with fail;refine (aG HE.out 1 4 aj aj aj).mono ?_;rintro e w' ⟨rfl,rfl⟩;go_wp2_with fail;refine (aG HE.out 1 5 aj aj aj).mono ?_;rintro e w' ⟨rfl,rfl⟩;go_wp2_with fail;refine (aG HE.out 1 7 aj aj aj).mono ?_;rintro e w' ⟨rfl,rfl⟩;go_wp2_with fail;refine (aG HE.out 1 8 aj aj aj).mono ?_;exact gM

theorem EV (E:Nat->Addr) (w:World) (h:Ers w E):Calls Tryz.prog 61 #[.iface 266 (.pointer (some (E 2)))] w fun e w'=>e=.returned (.int .i64 6)/\w'=w:=by
 obtain⟨HE,v0,v1,v2,v3,v4,v5,v6,v7,v8,v9⟩:=gL;clear h;go_enter Tryz.func61,Tryz.ntmps61;go_wp2_with fail;refine (aG HE.out 2 0 aj aj aj).mono ?_;rintro e w' ⟨rfl,rfl⟩;go_wp2_with fail;refine (aG HE.out 2 9 aj aj aj).mono ?_;rintro e w' ⟨rfl,rfl⟩;go_wp2_with fail;refine (ei (E 2) _).mono ?_;exact gM

theorem EU (E:Nat->Addr) (w:World) (h:Ers w E):Calls Tryz.prog 61 #[.iface 266 (.pointer (some (E 3)))] w fun e w'=>e=.returned (.int .i64 7)/\w'=w:=by
 obtain⟨HE,v0,v1,v2,v3,v4,v5,v6,v7,v8,v9⟩:=gL;clear h;go_enter Tryz.func61,Tryz.ntmps61;go_wp2_with fail;refine (aG HE.out 3 0 aj aj aj).mono ?_;rintro e w' ⟨rfl,rfl⟩;go_wp2_with fail;refine (aG HE.out 3 9 aj aj aj).mono ?_;rintro e w' ⟨rfl,rfl⟩;go_wp2_with fail;refine (aG HE.out 3 2 aj aj aj).mono ?_;rintro e w' ⟨rfl,rfl⟩;go_wp2_with fail;refine (ei (E 3) _).mono ?_;exact gM

theorem ET (E:Nat->Addr) (w:World) (h:Ers w E):Calls Tryz.prog 61 #[.iface 266 (.pointer (some (E 4)))] w fun e w'=>e=.returned (.int .i64 9)/\w'=w:=by
 obtain⟨HE,v0,v1,v2,v3,v4,v5,v6,v7,v8,v9⟩:=gL;clear h;go_enter Tryz.func61,Tryz.ntmps61;go_wp2_with fail;refine (aG HE.out 4 0 aj aj aj).mono ?_;rintro e w' ⟨rfl,rfl⟩;go_wp2_with fail;refine (aG HE.out 4 9 aj aj aj).mono ?_;rintro e w' ⟨rfl,rfl⟩;go_wp2_with fail;refine (aG HE.out 4 2 aj aj aj).mono ?_;rintro e w' ⟨rfl,rfl⟩;go_wp2_with fail;refine (aG HE.out 4 3 aj aj aj).mono ?_;rintro e w' ⟨rfl,rfl⟩;go_wp2_with fail;refine (aG HE.out 4 6 aj aj aj).mono ?_;rintro e w' ⟨rfl,rfl⟩;go_wp2_with fail;refine (ei (E 4) _).mono ?_;exact gM

theorem ES (E:Nat->Addr) (w:World) (h:Ers w E):Calls Tryz.prog 61 #[.iface 266 (.pointer (some (E 5)))] w fun e w'=>e=.returned (.int .i64 11)/\w'=w:=by
 obtain⟨HE,v0,v1,v2,v3,v4,v5,v6,v7,v8,v9⟩:=gL;clear h;go_enter Tryz.func61,Tryz.ntmps61;go_wp2_with fail;refine (aG HE.out 5 0 aj aj aj).mono ?_;rintro e w' ⟨rfl,rfl⟩;go_wp2_with fail;refine (aG HE.out 5 9 aj aj aj).mono ?_;rintro e w' ⟨rfl,rfl⟩;go_wp2_with fail;refine (aG HE.out 5 2 aj aj aj).mono ?_;rintro e w' ⟨rfl,rfl⟩;go_wp2_with fail;refine (aG HE.out 5 3 aj aj aj).mono ?_;rintro e w' ⟨rfl,rfl⟩;go_wp2_with fail;refine (aG HE.out 5 6 aj aj aj).mono ?_;rintro e w' ⟨rfl,rfl⟩;go_wp2_with fail;refine (aG HE.out 5 4 aj aj aj).mono ?_;rintro e w' ⟨rfl,rfl⟩;go_wp2_with fail;refine (ei (E 5) _).mono ?_;exact gM

theorem ER (E:Nat->Addr) (w:World) (h:Ers w E):Calls Tryz.prog 61 #[.iface 266 (.pointer (some (E 6)))] w fun e w'=>e=.returned (.int .i64 7)/\w'=w:=by
 obtain⟨HE,v0,v1,v2,v3,v4,v5,v6,v7,v8,v9⟩:=gL;clear h;go_enter Tryz.func61,Tryz.ntmps61;go_wp2_with fail;refine (aG HE.out 6 0 aj aj aj).mono ?_;rintro e w' ⟨rfl,rfl⟩;go_wp2_with fail;refine (aG HE.out 6 9 aj aj aj).mono ?_;rintro e w' ⟨rfl,rfl⟩;go_wp2_with fail;refine (aG HE.out 6 2 aj aj aj).mono ?_;rintro e w' ⟨rfl,rfl⟩;go_wp2_with fail;refine (aG HE.out 6 3 aj aj aj).mono ?_;rintro e w' ⟨rfl,rfl⟩;go_wp2_with fail;refine (ei (E 6) _).mono ?_;exact gM

theorem EP (E:Nat->Addr) (w:World) (h:Ers w E):Calls Tryz.prog 61 #[.iface 266 (.pointer (some (E 7)))] w fun e w'=>e=.returned (.int .i64 11)/\w'=w:=by
 obtain⟨HE,v0,v1,v2,v3,v4,v5,v6,v7,v8,v9⟩:=gL;clear h;go_enter Tryz.func61,Tryz.ntmps61;go_wp2_with fail;refine (aG HE.out 7 0 aj aj aj).mono ?_;rintro e w' ⟨rfl,rfl⟩;go_wp2_with fail;refine (aG HE.out 7 9 aj aj aj).mono ?_;rintro e w' ⟨rfl,rfl⟩;go_wp2_with fail;refine (aG HE.out 7 2 aj aj aj).mono ?_;rintro e w' ⟨rfl,rfl⟩;go_wp2_with fail;refine (aG HE.out 7 3 aj aj aj).mono ?_;rintro e w' ⟨rfl,rfl⟩;go_wp2_with fail;refine (aG HE.out 7 6 aj aj aj).mono ?_;rintro e w' ⟨rfl,rfl⟩;go_wp2_with fail;refine (aG HE.out 7 4 aj aj aj).mono ?_;rintro e w' ⟨rfl,rfl⟩;go_wp2_with fail;refine (aG HE.out 7 5 aj aj aj).mono ?_;rintro e w' ⟨rfl,rfl⟩;go_wp2_with fail;refine (ei (E 7) _).mono ?_;exact gM

theorem EO (E:Nat->Addr) (w:World) (h:Ers w E):Calls Tryz.prog 61 #[.iface 266 (.pointer (some (E 8)))] w fun e w'=>e=.returned (.int .i64 10)/\w'=w:=by
 obtain⟨HE,v0,v1,v2,v3,v4,v5,v6,v7,v8,v9⟩:=gL;clear h;go_enter Tryz.func61,Tryz.ntmps61;go_wp2_with fail;refine (aG HE.out 8 0 aj aj aj).mono ?_;rintro e w' ⟨rfl,rfl⟩;go_wp2_with fail;refine (aG HE.out 8 9 aj aj aj).mono ?_;rintro e w' ⟨rfl,rfl⟩;go_wp2_with fail;refine (aG HE.out 8 2 aj aj aj).mono ?_;rintro e w' ⟨rfl,rfl⟩;go_wp2_with fail;refine (aG HE.out 8 3 aj aj aj).mono ?_;rintro e w' ⟨rfl,rfl⟩;go_wp2_with fail;refine (aG HE.out 8 6 aj aj aj).mono ?_;rintro e w' ⟨rfl,rfl⟩;go_wp2_with fail;refine (aG HE.out 8 4 aj aj aj).mono ?_;rintro e w' ⟨rfl,rfl⟩;go_wp2_with fail;refine (aG HE.out 8 5 aj aj aj).mono ?_;rintro e w' ⟨rfl,rfl⟩;go_wp2_with fail;refine (aG HE.out 8 7 aj aj aj).mono ?_;rintro e w' ⟨rfl,rfl⟩;go_wp2_with fail;refine (ei (E 8) _).mono ?_;exact gM

theorem mM (E:Nat->Addr) (i:Nat) (w:World) (h:Ers w E) (hi:i<9):Calls Tryz.prog 61 #[.iface 266 (.pointer (some (E i)))] w fun e w'=>e=.returned (.int .i64 (dz i))/\w'=w:=by
 match i,hi with
 | 0,_=>exact EX E w h
 | 1,_=>exact EW E w h
 | 2,_=>exact EV E w h
 | 3,_=>exact EU E w h
 | 4,_=>exact ET E w h
 | 5,_=>exact ES E w h
 | 6,_=>exact ER E w h
 | 7,_=>exact EP E w h
 | 8,_=>exact EO E w h

theorem eh (E:Nat->Addr) (i:Nat) (cc:Int) (hcc:cc=dz i) (w:World) (h:Ers w E) (hi:i<9):Calls Tryz.prog 30 #[.iface 266 (.pointer (some (E i)))] w fun e w'=>e=.returned (.agg #[.slice none 0 0,.slice none 0 0,.slice none 0 0,.slice none 0 0,.slice none 0 0,.int .i64 0,.string ⟨#[]⟩,.int .i64 cc])/\Below w.heap.size w w':=by
 have HE:=aa (h.below (al w (.cells #[.slice none 0 0,.slice none 0 0,.slice none 0 0,.slice none 0 0,.slice none 0 0,.int .i64 0,.string ⟨#[]⟩,.int .i64 0] 38)));clear h;go_enter Tryz.func30,Tryz.ntmps30;go_wp2_with fail;refine (mM E i _ HE.out hi).mono ?_;rintro e w' ⟨rfl,rfl⟩;rw[<-hcc];clear hcc;go_wp2;exact bodyPost_ret (v:=.agg #[.slice none 0 0,.slice none 0 0,.slice none 0 0,.slice none 0 0,.slice none 0 0,.int .i64 0,.string ⟨#[]⟩,.int .i64 cc]) (by simp[results,Tryz.results30,go_sem]) rfl ⟨rfl,al _ _⟩

end Rc
end Go.Proofs.YtpejepeekdjfoaaGreatDoor

namespace Go.Proofs.YtpejepeekdjfoaaGreatDoor
open Go.RowKit

theorem oB (s:ByteArray) (w:World):
  Calls Tryz.prog 87 #[.string s] w fun e w'=>e=.returned (.bool (decide (8000<s.size)))/\w=w':=by
 go_enter Tryz.func87,Tryz.ntmps87;go_wp2;go_ret;exact⟨by simp;omega,rfl⟩
theorem kb (s:ByteArray) (w:World) (h:8000<s.size):
  Calls Tryz.prog 87 #[.string s] w fun e w'=>e=.returned (.bool true)/\w=w':=by
 have:=oB s w;rw[decide_eq_true h] at this;exact this
theorem jm (s:ByteArray) (w:World) (h:¬8000<s.size):
  Calls Tryz.prog 87 #[.string s] w fun e w'=>e=.returned (.bool false)/\w=w':=by
 have:=oB s w;rw[decide_eq_false h] at this;exact this

end Go.Proofs.YtpejepeekdjfoaaGreatDoor

namespace Go.Proofs.YtpejepeekdjfoaaGreatDoor
open Go.RowKit
namespace Rc
open Mk

theorem Below.eD {B:Nat} {w w':World} (h:Below B w w'):Below B w w'.drew:=⟨h.os,h.tape,h.output,h.size,h.block⟩
def Bj (c:Cl) (t:ByteArray):Prop:=∃(i:Nat) (x:Xd),c.xs[i]?=some x/\x.n=t
theorem Bj.Dz {c:Cl} {t:ByteArray} (h:hit Xd.n c.xs t=true):Bj c t:=by
 obtain⟨x,h1,h2⟩:=dq h;exact⟨_,x,h1,h2⟩
def gw (c:Cl) (t:ByteArray):Nat->Prop
 | 0=>8000<t.size
 | 1=>¬8000<t.size/\¬aB c
 | 2=>¬8000<t.size/\aB c/\¬Bj c t
 | _=>False
def EG (c:Cl) (t:ByteArray) (p:Int):Prop:=(8000<t.size/\p=2)\/(¬8000<t.size/\¬aB c/\p=1)\/(¬8000<t.size/\aB c/\p=0)

theorem uJ (d:Ad) (c:Cl) (t:ByteArray) (w:World) (hr:aJ w d c.raw):
  Calls Tryz.prog 49 #[.agg #[.slice d.a1 d.l1 d.c1,.slice d.a2 d.l2 d.c2,.slice d.a3 d.l3 d.c3,.slice d.a4 d.l4 d.c4,.slice d.a5 d.l5 d.c5,.int .i64 c.now],.string t] w fun e w'=> ∃p:Int,e=.returned (.int .i64 p)/\EG c t p/\Below w.heap.size w w':=by
 obtain⟨HR,HB⟩:=gJ;clear hr;by_cases hl:8000<t.size
 ·go_enter Tryz.func49,Tryz.ntmps49;go_wp2;go_ret;exact⟨2,rfl,.inl ⟨hl,rfl⟩,al _ _⟩
 go_enter Tryz.func49,Tryz.ntmps49;go_wp2_with fail;refine (pt d c _ (HR.below (HB.trans ((al _ _).mono HB.size)))).mono ?_;rintro e w1 ⟨r,rfl,hi,hb⟩;obtain⟨HA0,hbx⟩:=aL hb;replace HB:=upB HB hbx;clear hb hbx HA0;have HI:=aa hi;clear hi;cases r
 ·go_wp2;go_ret;exact⟨1,rfl,.inr (.inl ⟨hl,fun h=>(by have:=HI.2 h;cases this),rfl⟩),HB.out⟩
 ·go_wp2;go_ret;exact⟨0,rfl,.inr (.inr ⟨hl,HI.1 ct,rfl⟩),HB.out⟩

theorem mv:(Tryz.prog.info? 57).map (fun i=>(i.zero,i.size,i.bytes))=some (some (.agg #[.string ⟨#[]⟩,.string ⟨#[]⟩,.int .i64 0,.int .i64 0,.int .i64 0,.bool false,.slice none 0 0]),7,88):=by kernel_rfl
def ndZ:Nd:=⟨⟨#[]⟩,⟨#[]⟩,0,0,0,false,[]⟩

theorem DJ {w:World} {g len:Nat} (h:w.heap[g]?=some (.cells (madeCells #[.string ⟨#[]⟩,.string ⟨#[]⟩,.int .i64 0,.int .i64 0,.int .i64 0,.bool false,.slice none 0 0] (len*7)) 57 (0,0))) (hl:len<=1048576) (S:Nat->Prop) (hS:S g):
  az w (some ⟨g,0,none⟩) len len 7 57 ((FN len ndZ).map ndF) S:=by
 refine⟨by simp,Fq _,by omega,.inr ⟨g,_,fun _ _=>0,rfl,h,hS,?_,?_,?_⟩⟩
 ·exact nQ
 ·intro j r hr i f hi;rw[FA] at hr;obtain⟨x,hx,rfl⟩:=FG.1 hr;have hj:j<len:=by have:=(Fk.1 hx).1;simpa using this
  obtain rfl:x=ndZ:=by
   exact fT
  have him:i<7:=(Fk.1 hi).1;have hlt:j*7+i<len*7:=af
  have hcell:(madeCells #[.string ⟨#[]⟩,.string ⟨#[]⟩,.int .i64 0,.int .i64 0,.int .i64 0,.bool false,.slice none 0 0] (len*7))[j*7+i]?=some (#[.string ⟨#[]⟩,.string ⟨#[]⟩,.int .i64 0,.int .i64 0,.int .i64 0,.bool false,.slice none 0 0][i]!):=by
   unfold madeCells;rw[Iy,Il];rw[if_pos hlt];have:(j*7+i) % 7=i:=af
   simp[this]
  refine⟨_,hcell,?_⟩;rcases i with _|_|_|_|_|_|_|i
  ·cases hi;exact⟨rfl,by decide⟩
  ·cases hi;exact⟨rfl,by decide⟩
  ·cases hi;exact rfl
  ·cases hi;exact rfl
  ·cases hi;exact rfl
  ·cases hi;exact rfl
  ·cases hi;exact⟨none,0,0,rfl,rfl,Fq _,by decide,fun j x hx=>by simp[ndZ] at hx,.inl rfl⟩
  ·omega
 ·intro j r i zs j' r' i' zs' hr hi hz;exfalso;rw[FA] at hr;obtain⟨x,hx,rfl⟩:=FG.1 hr;obtain rfl:x=ndZ:=by
   exact fT
  have him:i<7:=(Fk.1 hi).1;rcases i with _|_|_|_|_|_|_|i
  ·cases hi
  ·cases hi
  ·cases hi
  ·cases hi
  ·cases hi
  ·cases hi
  ·cases hi;exact hz rfl
  ·omega

theorem uq (a:Option Addr) (len cap:Nat) (xs:List Nd) (w:World) (hr:aN w a len cap 7 (xs.map ndF)) (hl:len<=1048576) (hf:∀(j:Nat) x,xs[j]?=some x->x.zs.length<=1048576):
  Calls Tryz.prog 24 #[.slice a len cap] w fun e w'=>e=.returned (.slice (some ⟨w.heap.size,0,none⟩) len len)/\az w' (some ⟨w.heap.size,0,none⟩) len len 7 57 (xs.map ndF) (fun k=>w.heap.size<=k)/\Below w.heap.size w w':=by
 obtain⟨HR,hvl⟩:=fP;have HF:=aa hf;clear hr hf;obtain⟨i0,hi,hz0,hz1,hz2⟩:=info_parts mv;go_enter Tryz.func24,Tryz.ntmps24;go_wp2_with (at_make;refine wpList_make_full _ rfl _ _ 30 rfl w.heap.size 57 i0 (.agg #[.string ⟨#[]⟩,.string ⟨#[]⟩,.int .i64 0,.int .i64 0,.int .i64 0,.bool false,.slice none 0 0]) 7 Tryz.underlying30 hi hz0 hz1 _ _ _ _ len rfl rfl af af gH cC (Fq _) ?_);intro w1 hown hgrow;obtain⟨hnx1,HB⟩:=nI;have hc1:w1.heap[w.heap.size]?=some (.cells (madeCells #[.string ⟨#[]⟩,.string ⟨#[]⟩,.int .i64 0,.int .i64 0,.int .i64 0,.bool false,.slice none 0 0] (len*7)) 57 (0,0)):=by
  obtain⟨h1,h2⟩:=hown;rcases h2 with ⟨h3,_⟩|⟨g',cap',cur,hv,hB,hh,_,_,hsz,htk⟩
  ·cases h3
  ·simp only[Ig,Gw,Addr.mk.injEq] at hv;obtain⟨⟨rfl,_,_⟩,_,rfl⟩:=hv;rw[FD (by simp[hsz])] at htk;have:cur=madeCells #[.string ⟨#[]⟩,.string ⟨#[]⟩,.int .i64 0,.int .i64 0,.int .i64 0,.bool false,.slice none 0 0] (len*7):=by apply Array.ext';simpa using htk
   rw[this] at hh;simpa using hh
 have HP:Hid (az w1 (some ⟨w.heap.size,0,none⟩) len len 7 57 ((xs.take 0++(FN len ndZ).drop 0).map ndF) (fun k=>w.heap.size<=k)):=by
  have:=DJ hc1 hl (fun k=>w.heap.size<=k) (Fq _);simpa[Hid] using this
 have hZl:xs.length=(FN len ndZ).length:=by simpa using hvl
 clear hown hgrow hi hz0 hz1 hz2 hnx1 hc1;go_wp2;go_loopw [4] (fun i wr=> ∃k:Nat,k<=len/\i=.int .i64 k/\Hid (az wr (some ⟨w.heap.size,0,none⟩) len len 7 57 ((xs.take k++(FN len ndZ).drop k).map ndF) (fun k=>w.heap.size<=k))/\Hid (Below w.heap.size w wr)) (fun i _=>len - (intOf i).toNat);case atStart=>exact⟨0,by omega,rfl,HP,HB⟩
 case round=>
  obtain⟨k,hk,rfl,HP,HB⟩:=hrel;by_cases hlt:k<len
  ·obtain⟨b,o,v,rfl,hb,hv,hat⟩:=cA (HR.below HB.out) hlt;obtain⟨va,vl,vc,hvr,z0,z1,c0,c1,c2,c3,c4,c5,c6⟩:=aZ hat;have HV:=aa hv;have Hz0:=aa z0;have Hz1:=aa z1;obtain⟨HT,hvl2,hvz,HVZ⟩:=uY;clear hvr hvz;clear hat hv z0 z1;have hzk:((xs.take k++(FN len ndZ).drop k).map ndF)[k]?=some (ndF ndZ):=by
    exact jS
   obtain⟨g,hg,hs⟩:=HP.st (aC.refl _ _) hzk;cases hg;have HS:=aa hs;clear hs hzk HP;go_wp2_with fail;refine (pj v.n v.z v.c v.s v.u v.d va vl vc v.zs _ HT.out hvl2).mono ?_;rintro e w2 ⟨rfl,hG,hb2⟩;have HB2:=upB HB hb2;have h1:StJ w.heap.size 7 57 (fun k=>w.heap.size<=k) (fun k=>wr.heap.size<=k) wr w2 ((xs.take k++(FN len ndZ).drop k).map ndF) k [.s ndZ.n,.s ndZ.z,.i ndZ.c,.i ndZ.s,.i ndZ.u,.b ndZ.d,.l ndZ.zs]:=HS.fresh hb2;have hL:oW w2 (wr.heap.size+1+1+1) (fun k=>w.heap.size<=k) w.heap.size v.zs (.slice (some ⟨wr.heap.size+1+1+1,0,none⟩) vl vl):=by
    exact qh
   have HL:=aa hL;clear hG hL;obtain⟨q0,e0⟩:=h1.cell (i:=0) rfl;have f0:=h1.cH (k*7);obtain⟨q1,e1⟩:=h1.cell (i:=1) rfl;have f1:=h1.cH (k*7+1);obtain⟨q2,e2⟩:=h1.cell (i:=2) rfl;have f2:=h1.cH (k*7+2);obtain⟨q3,e3⟩:=h1.cell (i:=3) rfl;have f3:=h1.cH (k*7+3);obtain⟨q4,e4⟩:=h1.cell (i:=4) rfl;have f4:=h1.cH (k*7+4);obtain⟨q5,e5⟩:=h1.cell (i:=5) rfl;have f5:=h1.cH (k*7+5);obtain⟨q6,e6⟩:=h1.cell (i:=6) rfl;have f6:=h1.cH (k*7+6);rw[Hg] at e0;have HZ:=aa ((((((((h1).dt (i:=0) rfl v.n Hz0.out).dt (i:=1) rfl v.z Hz1.out).ir (i:=2) rfl v.c).ir (i:=3) rfl v.s).ir (i:=4) rfl v.u).jg (i:=5) rfl v.d).Dc (i:=6) rfl v.zs (fun _=>by show wr.heap.size<=_;omega) (Fv.Own.bC (u:=.l v.zs) (Fv.Own.bC (u:=.l v.zs) (Fv.Own.bC (u:=.l v.zs) (Fv.Own.bC (u:=.l v.zs) (Fv.Own.bC (u:=.l v.zs) (Fv.Own.bC (u:=.l v.zs) (HL.out))))))));clear h1 hb2 c0 c1 c2 c3 c4 c5 c6 hb;go_wp2_with fail;refine⟨⟨k+1,by omega,by go_num,?_,ah (Fq _) (ah (Fq _) (ah (Fq _) (ah (Fq _) (ah (Fq _) (ah (Fq _) (ah (Fq _) (HB2.out)))))))⟩,by simp[intOf];omega⟩;obtain⟨⟨cur,H,h2,-⟩,-,-⟩:=HZ.out;have h3:(((xs.take k++(FN len ndZ).drop k).map ndF).set k (ndF v))=(xs.take (k+1)++(FN len ndZ).drop (k+1)).map ndF:=by
    rw[<-Hz,cE hZl HV.out]
   have h4:dL _ w.heap.size 7 57 (((xs.take k++(FN len ndZ).drop k).map ndF).set k (ndF v)) (fun k=>w.heap.size<=k) cur H:=h2;exact nR
  ·exact nZ

theorem rv:(Tryz.prog.info? 102).map (fun i=>(i.zero,i.size,i.bytes))=some (some (.agg #[.string ⟨#[]⟩,.bool false,.bool false,.string ⟨#[]⟩]),4,40):=by kernel_rfl
def kdZ:Kd:=⟨⟨#[]⟩,false,false,⟨#[]⟩⟩

theorem DK {w:World} {g len:Nat} (h:w.heap[g]?=some (.cells (madeCells #[.string ⟨#[]⟩,.bool false,.bool false,.string ⟨#[]⟩] (len*4)) 102 (0,0))) (hl:len<=1048576) (S:Nat->Prop) (hS:S g):
  az w (some ⟨g,0,none⟩) len len 4 102 ((FN len kdZ).map kdF) S:=by
 refine⟨by simp,Fq _,by omega,.inr ⟨g,_,fun _ _=>0,rfl,h,hS,?_,?_,?_⟩⟩
 ·exact nQ
 ·intro j r hr i f hi;rw[FA] at hr;obtain⟨x,hx,rfl⟩:=FG.1 hr;have hj:j<len:=by have:=(Fk.1 hx).1;simpa using this
  obtain rfl:x=kdZ:=by
   exact fT
  have him:i<4:=(Fk.1 hi).1;have hlt:j*4+i<len*4:=af
  have hcell:(madeCells #[.string ⟨#[]⟩,.bool false,.bool false,.string ⟨#[]⟩] (len*4))[j*4+i]?=some (#[.string ⟨#[]⟩,.bool false,.bool false,.string ⟨#[]⟩][i]!):=by
   unfold madeCells;rw[Iy,Il];rw[if_pos hlt];have:(j*4+i) % 4=i:=af
   simp[this]
  refine⟨_,hcell,?_⟩;rcases i with _|_|_|_|i
  ·cases hi;exact⟨rfl,by decide⟩
  ·cases hi;exact rfl
  ·cases hi;exact rfl
  ·cases hi;exact⟨rfl,by decide⟩
  ·omega
 ·intro j r i zs j' r' i' zs' hr hi hz;exfalso;rw[FA] at hr;obtain⟨x,hx,rfl⟩:=FG.1 hr;obtain rfl:x=kdZ:=by
   exact fT
  have him:i<4:=(Fk.1 hi).1;rcases i with _|_|_|_|i
  ·cases hi
  ·cases hi
  ·cases hi
  ·cases hi
  ·omega

theorem ur (a:Option Addr) (len cap:Nat) (xs:List Kd) (w:World) (hr:aN w a len cap 4 (xs.map kdF)) (hl:len<=1048576):
  Calls Tryz.prog 25 #[.slice a len cap] w fun e w'=>e=.returned (.slice (some ⟨w.heap.size,0,none⟩) len len)/\az w' (some ⟨w.heap.size,0,none⟩) len len 4 102 (xs.map kdF) (fun k=>w.heap.size<=k)/\Below w.heap.size w w':=by
 obtain⟨HR,hvl⟩:=fP;skip;clear hr;obtain⟨i0,hi,hz0,hz1,hz2⟩:=info_parts rv;go_enter Tryz.func25,Tryz.ntmps25;go_wp2_with (at_make;refine wpList_make_full _ rfl _ _ 31 rfl w.heap.size 102 i0 (.agg #[.string ⟨#[]⟩,.bool false,.bool false,.string ⟨#[]⟩]) 4 Tryz.underlying31 hi hz0 hz1 _ _ _ _ len rfl rfl af af gH cC (Fq _) ?_);intro w1 hown hgrow;obtain⟨hnx1,HB⟩:=nI;have hc1:w1.heap[w.heap.size]?=some (.cells (madeCells #[.string ⟨#[]⟩,.bool false,.bool false,.string ⟨#[]⟩] (len*4)) 102 (0,0)):=by
  obtain⟨h1,h2⟩:=hown;rcases h2 with ⟨h3,_⟩|⟨g',cap',cur,hv,hB,hh,_,_,hsz,htk⟩
  ·cases h3
  ·simp only[Ig,Gw,Addr.mk.injEq] at hv;obtain⟨⟨rfl,_,_⟩,_,rfl⟩:=hv;rw[FD (by simp[hsz])] at htk;have:cur=madeCells #[.string ⟨#[]⟩,.bool false,.bool false,.string ⟨#[]⟩] (len*4):=by apply Array.ext';simpa using htk
   rw[this] at hh;simpa using hh
 have HP:Hid (az w1 (some ⟨w.heap.size,0,none⟩) len len 4 102 ((xs.take 0++(FN len kdZ).drop 0).map kdF) (fun k=>w.heap.size<=k)):=by
  have:=DK hc1 hl (fun k=>w.heap.size<=k) (Fq _);simpa[Hid] using this
 have hZl:xs.length=(FN len kdZ).length:=by simpa using hvl
 clear hown hgrow hi hz0 hz1 hz2 hnx1 hc1;go_wp2;go_loopw [4] (fun i wr=> ∃k:Nat,k<=len/\i=.int .i64 k/\Hid (az wr (some ⟨w.heap.size,0,none⟩) len len 4 102 ((xs.take k++(FN len kdZ).drop k).map kdF) (fun k=>w.heap.size<=k))/\Hid (Below w.heap.size w wr)) (fun i _=>len - (intOf i).toNat);case atStart=>exact⟨0,by omega,rfl,HP,HB⟩
 case round=>
  obtain⟨k,hk,rfl,HP,HB⟩:=hrel;by_cases hlt:k<len
  ·obtain⟨b,o,v,rfl,hb,hv,hat⟩:=eW (HR.below HB.out) hlt;obtain⟨z0,z3,c0,c1,c2,c3⟩:=cf hat;have HV:=aa hv;have Hz0:=aa z0;have Hz3:=aa z3;clear hat hv z0 z3;have hzk:((xs.take k++(FN len kdZ).drop k).map kdF)[k]?=some (kdF kdZ):=by
    exact jS
   obtain⟨g,hg,hs⟩:=HP.st (aC.refl _ _) hzk;cases hg;have HS:=aa hs;clear hs hzk HP;go_wp2_with fail;refine (mO v.n v.x v.y v.z _).mono ?_;rintro e w2 ⟨rfl,hb2⟩;have HB2:=upB HB hb2;have h1:StJ w.heap.size 4 102 (fun k=>w.heap.size<=k) (fun k=>wr.heap.size<=k) wr w2 ((xs.take k++(FN len kdZ).drop k).map kdF) k [.s kdZ.n,.b kdZ.x,.b kdZ.y,.s kdZ.z]:=HS.fresh hb2;obtain⟨q0,e0⟩:=h1.cell (i:=0) rfl;have f0:=h1.cH (k*4);obtain⟨q1,e1⟩:=h1.cell (i:=1) rfl;have f1:=h1.cH (k*4+1);obtain⟨q2,e2⟩:=h1.cell (i:=2) rfl;have f2:=h1.cH (k*4+2);obtain⟨q3,e3⟩:=h1.cell (i:=3) rfl;have f3:=h1.cH (k*4+3);rw[Hg] at e0;have HZ:=aa (((((h1).dt (i:=0) rfl v.n Hz0.out).jg (i:=1) rfl v.x).jg (i:=2) rfl v.y).dt (i:=3) rfl v.z Hz3.out);clear h1 hb2 c0 c1 c2 c3 hb;go_wp2_with fail;refine⟨⟨k+1,by omega,by go_num,?_,ah (Fq _) (ah (Fq _) (ah (Fq _) (ah (Fq _) (HB2.out))))⟩,by simp[intOf];omega⟩;obtain⟨⟨cur,H,h2,-⟩,-,-⟩:=HZ.out;have h3:(((xs.take k++(FN len kdZ).drop k).map kdF).set k (kdF v))=(xs.take (k+1)++(FN len kdZ).drop (k+1)).map kdF:=by
    rw[<-Hz,cE hZl HV.out]
   have h4:dL _ w.heap.size 4 102 (((xs.take k++(FN len kdZ).drop k).map kdF).set k (kdF v)) (fun k=>w.heap.size<=k) cur H:=h2;exact nR
  ·exact nZ

theorem gh:(Tryz.prog.info? 99).map (fun i=>(i.zero,i.size,i.bytes))=some (some (.agg #[.string ⟨#[]⟩,.int .i64 0,.string ⟨#[]⟩,.string ⟨#[]⟩,.bool false,.string ⟨#[]⟩,.bool false,.slice none 0 0]),8,112):=by kernel_rfl
def vdZ:Vd:=⟨⟨#[]⟩,0,⟨#[]⟩,⟨#[]⟩,false,⟨#[]⟩,false,[]⟩

theorem DH {w:World} {g len:Nat} (h:w.heap[g]?=some (.cells (madeCells #[.string ⟨#[]⟩,.int .i64 0,.string ⟨#[]⟩,.string ⟨#[]⟩,.bool false,.string ⟨#[]⟩,.bool false,.slice none 0 0] (len*8)) 99 (0,0))) (hl:len<=1048576) (S:Nat->Prop) (hS:S g):
  az w (some ⟨g,0,none⟩) len len 8 99 ((FN len vdZ).map vdF) S:=by
 refine⟨by simp,Fq _,by omega,.inr ⟨g,_,fun _ _=>0,rfl,h,hS,?_,?_,?_⟩⟩
 ·exact nQ
 ·intro j r hr i f hi;rw[FA] at hr;obtain⟨x,hx,rfl⟩:=FG.1 hr;have hj:j<len:=by have:=(Fk.1 hx).1;simpa using this
  obtain rfl:x=vdZ:=by
   exact fT
  have him:i<8:=(Fk.1 hi).1;have hlt:j*8+i<len*8:=af
  have hcell:(madeCells #[.string ⟨#[]⟩,.int .i64 0,.string ⟨#[]⟩,.string ⟨#[]⟩,.bool false,.string ⟨#[]⟩,.bool false,.slice none 0 0] (len*8))[j*8+i]?=some (#[.string ⟨#[]⟩,.int .i64 0,.string ⟨#[]⟩,.string ⟨#[]⟩,.bool false,.string ⟨#[]⟩,.bool false,.slice none 0 0][i]!):=by
   unfold madeCells;rw[Iy,Il];rw[if_pos hlt];have:(j*8+i) % 8=i:=af
   simp[this]
  refine⟨_,hcell,?_⟩;rcases i with _|_|_|_|_|_|_|_|i
  ·cases hi;exact⟨rfl,by decide⟩
  ·cases hi;exact rfl
  ·cases hi;exact⟨rfl,by decide⟩
  ·cases hi;exact⟨rfl,by decide⟩
  ·cases hi;exact rfl
  ·cases hi;exact⟨rfl,by decide⟩
  ·cases hi;exact rfl
  ·cases hi;exact⟨none,0,0,rfl,rfl,Fq _,by decide,fun j x hx=>by simp[vdZ] at hx,.inl rfl⟩
  ·omega
 ·intro j r i zs j' r' i' zs' hr hi hz;exfalso;rw[FA] at hr;obtain⟨x,hx,rfl⟩:=FG.1 hr;obtain rfl:x=vdZ:=by
   exact fT
  have him:i<8:=(Fk.1 hi).1;rcases i with _|_|_|_|_|_|_|_|i
  ·cases hi
  ·cases hi
  ·cases hi
  ·cases hi
  ·cases hi
  ·cases hi
  ·cases hi
  ·cases hi;exact hz rfl
  ·omega

theorem um (a:Option Addr) (len cap:Nat) (xs:List Vd) (w:World) (hr:aN w a len cap 8 (xs.map vdF)) (hl:len<=1048576) (hf:∀(j:Nat) x,xs[j]?=some x->x.zs.length<=1048576):
  Calls Tryz.prog 26 #[.slice a len cap] w fun e w'=>e=.returned (.slice (some ⟨w.heap.size,0,none⟩) len len)/\az w' (some ⟨w.heap.size,0,none⟩) len len 8 99 (xs.map vdF) (fun k=>w.heap.size<=k)/\Below w.heap.size w w':=by
 obtain⟨HR,hvl⟩:=fP;have HF:=aa hf;clear hr hf;obtain⟨i0,hi,hz0,hz1,hz2⟩:=info_parts gh;go_enter Tryz.func26,Tryz.ntmps26;go_wp2_with (at_make;refine wpList_make_full _ rfl _ _ 32 rfl w.heap.size 99 i0 (.agg #[.string ⟨#[]⟩,.int .i64 0,.string ⟨#[]⟩,.string ⟨#[]⟩,.bool false,.string ⟨#[]⟩,.bool false,.slice none 0 0]) 8 Tryz.underlying32 hi hz0 hz1 _ _ _ _ len rfl rfl af af gH cC (Fq _) ?_);intro w1 hown hgrow;obtain⟨hnx1,HB⟩:=nI;have hc1:w1.heap[w.heap.size]?=some (.cells (madeCells #[.string ⟨#[]⟩,.int .i64 0,.string ⟨#[]⟩,.string ⟨#[]⟩,.bool false,.string ⟨#[]⟩,.bool false,.slice none 0 0] (len*8)) 99 (0,0)):=by
  obtain⟨h1,h2⟩:=hown;rcases h2 with ⟨h3,_⟩|⟨g',cap',cur,hv,hB,hh,_,_,hsz,htk⟩
  ·cases h3
  ·simp only[Ig,Gw,Addr.mk.injEq] at hv;obtain⟨⟨rfl,_,_⟩,_,rfl⟩:=hv;rw[FD (by simp[hsz])] at htk;have:cur=madeCells #[.string ⟨#[]⟩,.int .i64 0,.string ⟨#[]⟩,.string ⟨#[]⟩,.bool false,.string ⟨#[]⟩,.bool false,.slice none 0 0] (len*8):=by apply Array.ext';simpa using htk
   rw[this] at hh;simpa using hh
 have HP:Hid (az w1 (some ⟨w.heap.size,0,none⟩) len len 8 99 ((xs.take 0++(FN len vdZ).drop 0).map vdF) (fun k=>w.heap.size<=k)):=by
  have:=DH hc1 hl (fun k=>w.heap.size<=k) (Fq _);simpa[Hid] using this
 have hZl:xs.length=(FN len vdZ).length:=by simpa using hvl
 clear hown hgrow hi hz0 hz1 hz2 hnx1 hc1;go_wp2;go_loopw [4] (fun i wr=> ∃k:Nat,k<=len/\i=.int .i64 k/\Hid (az wr (some ⟨w.heap.size,0,none⟩) len len 8 99 ((xs.take k++(FN len vdZ).drop k).map vdF) (fun k=>w.heap.size<=k))/\Hid (Below w.heap.size w wr)) (fun i _=>len - (intOf i).toNat);case atStart=>exact⟨0,by omega,rfl,HP,HB⟩
 case round=>
  obtain⟨k,hk,rfl,HP,HB⟩:=hrel;by_cases hlt:k<len
  ·obtain⟨b,o,v,rfl,hb,hv,hat⟩:=bN (HR.below HB.out) hlt;obtain⟨va,vl,vc,hvr,z0,z2,z3,z5,c0,c1,c2,c3,c4,c5,c6,c7⟩:=aK hat;have HV:=aa hv;have Hz0:=aa z0;have Hz2:=aa z2;have Hz3:=aa z3;have Hz5:=aa z5;obtain⟨HT,hvl2,hvz,HVZ⟩:=uY;clear hvr hvz;clear hat hv z0 z2 z3 z5;have hzk:((xs.take k++(FN len vdZ).drop k).map vdF)[k]?=some (vdF vdZ):=by
    exact jS
   obtain⟨g,hg,hs⟩:=HP.st (aC.refl _ _) hzk;cases hg;have HS:=aa hs;clear hs hzk HP;go_wp2_with fail;refine (lK v.n v.c v.z v.k v.x v.m v.y va vl vc v.zs _ HT.out hvl2).mono ?_;rintro e w2 ⟨rfl,hG,hb2⟩;have HB2:=upB HB hb2;have h1:StJ w.heap.size 8 99 (fun k=>w.heap.size<=k) (fun k=>wr.heap.size<=k) wr w2 ((xs.take k++(FN len vdZ).drop k).map vdF) k [.s vdZ.n,.i vdZ.c,.s vdZ.z,.s vdZ.k,.b vdZ.x,.s vdZ.m,.b vdZ.y,.l vdZ.zs]:=HS.fresh hb2;have hL:oW w2 (wr.heap.size+1+1+1) (fun k=>w.heap.size<=k) w.heap.size v.zs (.slice (some ⟨wr.heap.size+1+1+1,0,none⟩) vl vl):=by
    exact qh
   have HL:=aa hL;clear hG hL;obtain⟨q0,e0⟩:=h1.cell (i:=0) rfl;have f0:=h1.cH (k*8);obtain⟨q1,e1⟩:=h1.cell (i:=1) rfl;have f1:=h1.cH (k*8+1);obtain⟨q2,e2⟩:=h1.cell (i:=2) rfl;have f2:=h1.cH (k*8+2);obtain⟨q3,e3⟩:=h1.cell (i:=3) rfl;have f3:=h1.cH (k*8+3);obtain⟨q4,e4⟩:=h1.cell (i:=4) rfl;have f4:=h1.cH (k*8+4);obtain⟨q5,e5⟩:=h1.cell (i:=5) rfl;have f5:=h1.cH (k*8+5);obtain⟨q6,e6⟩:=h1.cell (i:=6) rfl;have f6:=h1.cH (k*8+6);obtain⟨q7,e7⟩:=h1.cell (i:=7) rfl;have f7:=h1.cH (k*8+7);rw[Hg] at e0;have HZ:=aa (((((((((h1).dt (i:=0) rfl v.n Hz0.out).ir (i:=1) rfl v.c).dt (i:=2) rfl v.z Hz2.out).dt (i:=3) rfl v.k Hz3.out).jg (i:=4) rfl v.x).dt (i:=5) rfl v.m Hz5.out).jg (i:=6) rfl v.y).Dc (i:=7) rfl v.zs (fun _=>by show wr.heap.size<=_;omega) (Fv.Own.bC (u:=.l v.zs) (Fv.Own.bC (u:=.l v.zs) (Fv.Own.bC (u:=.l v.zs) (Fv.Own.bC (u:=.l v.zs) (Fv.Own.bC (u:=.l v.zs) (Fv.Own.bC (u:=.l v.zs) (Fv.Own.bC (u:=.l v.zs) (HL.out)))))))));clear h1 hb2 c0 c1 c2 c3 c4 c5 c6 c7 hb;go_wp2_with fail;refine⟨⟨k+1,by omega,by go_num,?_,ah (Fq _) (ah (Fq _) (ah (Fq _) (ah (Fq _) (ah (Fq _) (ah (Fq _) (ah (Fq _) (ah (Fq _) (HB2.out))))))))⟩,by simp[intOf];omega⟩;obtain⟨⟨cur,H,h2,-⟩,-,-⟩:=HZ.out;have h3:(((xs.take k++(FN len vdZ).drop k).map vdF).set k (vdF v))=(xs.take (k+1)++(FN len vdZ).drop (k+1)).map vdF:=by
    rw[<-Hz,cE hZl HV.out]
   have h4:dL _ w.heap.size 8 99 (((xs.take k++(FN len vdZ).drop k).map vdF).set k (vdF v)) (fun k=>w.heap.size<=k) cur H:=h2;exact nR
  ·exact nZ

theorem iH:(Tryz.prog.info? 105).map (fun i=>(i.zero,i.size,i.bytes))=some (some (.agg #[.string ⟨#[]⟩,.int .i64 0,.string ⟨#[]⟩,.bool false,.string ⟨#[]⟩]),5,64):=by kernel_rfl
def xdZ:Xd:=⟨⟨#[]⟩,0,⟨#[]⟩,false,⟨#[]⟩⟩

theorem DG {w:World} {g len:Nat} (h:w.heap[g]?=some (.cells (madeCells #[.string ⟨#[]⟩,.int .i64 0,.string ⟨#[]⟩,.bool false,.string ⟨#[]⟩] (len*5)) 105 (0,0))) (hl:len<=1048576) (S:Nat->Prop) (hS:S g):
  az w (some ⟨g,0,none⟩) len len 5 105 ((FN len xdZ).map xdF) S:=by
 refine⟨by simp,Fq _,by omega,.inr ⟨g,_,fun _ _=>0,rfl,h,hS,?_,?_,?_⟩⟩
 ·exact nQ
 ·intro j r hr i f hi;rw[FA] at hr;obtain⟨x,hx,rfl⟩:=FG.1 hr;have hj:j<len:=by have:=(Fk.1 hx).1;simpa using this
  obtain rfl:x=xdZ:=by
   exact fT
  have him:i<5:=(Fk.1 hi).1;have hlt:j*5+i<len*5:=af
  have hcell:(madeCells #[.string ⟨#[]⟩,.int .i64 0,.string ⟨#[]⟩,.bool false,.string ⟨#[]⟩] (len*5))[j*5+i]?=some (#[.string ⟨#[]⟩,.int .i64 0,.string ⟨#[]⟩,.bool false,.string ⟨#[]⟩][i]!):=by
   unfold madeCells;rw[Iy,Il];rw[if_pos hlt];have:(j*5+i) % 5=i:=af
   simp[this]
  refine⟨_,hcell,?_⟩;rcases i with _|_|_|_|_|i
  ·cases hi;exact⟨rfl,by decide⟩
  ·cases hi;exact rfl
  ·cases hi;exact⟨rfl,by decide⟩
  ·cases hi;exact rfl
  ·cases hi;exact⟨rfl,by decide⟩
  ·omega
 ·intro j r i zs j' r' i' zs' hr hi hz;exfalso;rw[FA] at hr;obtain⟨x,hx,rfl⟩:=FG.1 hr;obtain rfl:x=xdZ:=by
   exact fT
  have him:i<5:=(Fk.1 hi).1;rcases i with _|_|_|_|_|i
  ·cases hi
  ·cases hi
  ·cases hi
  ·cases hi
  ·cases hi
  ·omega

theorem uk (a:Option Addr) (len cap:Nat) (xs:List Xd) (w:World) (hr:aN w a len cap 5 (xs.map xdF)) (hl:len<=1048576):
  Calls Tryz.prog 27 #[.slice a len cap] w fun e w'=>e=.returned (.slice (some ⟨w.heap.size,0,none⟩) len len)/\az w' (some ⟨w.heap.size,0,none⟩) len len 5 105 (xs.map xdF) (fun k=>w.heap.size<=k)/\Below w.heap.size w w':=by
 obtain⟨HR,hvl⟩:=fP;skip;clear hr;obtain⟨i0,hi,hz0,hz1,hz2⟩:=info_parts iH;go_enter Tryz.func27,Tryz.ntmps27;go_wp2_with (at_make;refine wpList_make_full _ rfl _ _ 33 rfl w.heap.size 105 i0 (.agg #[.string ⟨#[]⟩,.int .i64 0,.string ⟨#[]⟩,.bool false,.string ⟨#[]⟩]) 5 Tryz.underlying33 hi hz0 hz1 _ _ _ _ len rfl rfl af af gH cC (Fq _) ?_);intro w1 hown hgrow;obtain⟨hnx1,HB⟩:=nI;have hc1:w1.heap[w.heap.size]?=some (.cells (madeCells #[.string ⟨#[]⟩,.int .i64 0,.string ⟨#[]⟩,.bool false,.string ⟨#[]⟩] (len*5)) 105 (0,0)):=by
  obtain⟨h1,h2⟩:=hown;rcases h2 with ⟨h3,_⟩|⟨g',cap',cur,hv,hB,hh,_,_,hsz,htk⟩
  ·cases h3
  ·simp only[Ig,Gw,Addr.mk.injEq] at hv;obtain⟨⟨rfl,_,_⟩,_,rfl⟩:=hv;rw[FD (by simp[hsz])] at htk;have:cur=madeCells #[.string ⟨#[]⟩,.int .i64 0,.string ⟨#[]⟩,.bool false,.string ⟨#[]⟩] (len*5):=by apply Array.ext';simpa using htk
   rw[this] at hh;simpa using hh
 have HP:Hid (az w1 (some ⟨w.heap.size,0,none⟩) len len 5 105 ((xs.take 0++(FN len xdZ).drop 0).map xdF) (fun k=>w.heap.size<=k)):=by
  have:=DG hc1 hl (fun k=>w.heap.size<=k) (Fq _);simpa[Hid] using this
 have hZl:xs.length=(FN len xdZ).length:=by simpa using hvl
 clear hown hgrow hi hz0 hz1 hz2 hnx1 hc1;go_wp2;go_loopw [4] (fun i wr=> ∃k:Nat,k<=len/\i=.int .i64 k/\Hid (az wr (some ⟨w.heap.size,0,none⟩) len len 5 105 ((xs.take k++(FN len xdZ).drop k).map xdF) (fun k=>w.heap.size<=k))/\Hid (Below w.heap.size w wr)) (fun i _=>len - (intOf i).toNat);case atStart=>exact⟨0,by omega,rfl,HP,HB⟩
 case round=>
  obtain⟨k,hk,rfl,HP,HB⟩:=hrel;by_cases hlt:k<len
  ·obtain⟨b,o,v,rfl,hb,hv,hat⟩:=dG (HR.below HB.out) hlt;obtain⟨z0,z2,z4,c0,c1,c2,c3,c4⟩:=bw hat;have HV:=aa hv;have Hz0:=aa z0;have Hz2:=aa z2;have Hz4:=aa z4;clear hat hv z0 z2 z4;have hzk:((xs.take k++(FN len xdZ).drop k).map xdF)[k]?=some (xdF xdZ):=by
    exact jS
   obtain⟨g,hg,hs⟩:=HP.st (aC.refl _ _) hzk;cases hg;have HS:=aa hs;clear hs hzk HP;go_wp2_with fail;refine (mP v.n v.z v.k v.x v.v _).mono ?_;rintro e w2 ⟨rfl,hb2⟩;have HB2:=upB HB hb2;have h1:StJ w.heap.size 5 105 (fun k=>w.heap.size<=k) (fun k=>wr.heap.size<=k) wr w2 ((xs.take k++(FN len xdZ).drop k).map xdF) k [.s xdZ.n,.i xdZ.z,.s xdZ.k,.b xdZ.x,.s xdZ.v]:=HS.fresh hb2;obtain⟨q0,e0⟩:=h1.cell (i:=0) rfl;have f0:=h1.cH (k*5);obtain⟨q1,e1⟩:=h1.cell (i:=1) rfl;have f1:=h1.cH (k*5+1);obtain⟨q2,e2⟩:=h1.cell (i:=2) rfl;have f2:=h1.cH (k*5+2);obtain⟨q3,e3⟩:=h1.cell (i:=3) rfl;have f3:=h1.cH (k*5+3);obtain⟨q4,e4⟩:=h1.cell (i:=4) rfl;have f4:=h1.cH (k*5+4);rw[Hg] at e0;have HZ:=aa ((((((h1).dt (i:=0) rfl v.n Hz0.out).ir (i:=1) rfl v.z).dt (i:=2) rfl v.k Hz2.out).jg (i:=3) rfl v.x).dt (i:=4) rfl v.v Hz4.out);clear h1 hb2 c0 c1 c2 c3 c4 hb;go_wp2_with fail;refine⟨⟨k+1,by omega,by go_num,?_,ah (Fq _) (ah (Fq _) (ah (Fq _) (ah (Fq _) (ah (Fq _) (HB2.out)))))⟩,by simp[intOf];omega⟩;obtain⟨⟨cur,H,h2,-⟩,-,-⟩:=HZ.out;have h3:(((xs.take k++(FN len xdZ).drop k).map xdF).set k (xdF v))=(xs.take (k+1)++(FN len xdZ).drop (k+1)).map xdF:=by
    rw[<-Hz,cE hZl HV.out]
   have h4:dL _ w.heap.size 5 105 (((xs.take k++(FN len xdZ).drop k).map xdF).set k (xdF v)) (fun k=>w.heap.size<=k) cur H:=h2;exact nR
  ·exact nZ

theorem iI:(Tryz.prog.info? 64).map (fun i=>(i.zero,i.size,i.bytes))=some (some (.agg #[.string ⟨#[]⟩,.int .i64 0,.string ⟨#[]⟩,.slice none 0 0,.string ⟨#[]⟩,.int .i64 0]),6,88):=by kernel_rfl
def pdZ:Pd:=⟨⟨#[]⟩,0,⟨#[]⟩,[],⟨#[]⟩,0⟩

theorem DI {w:World} {g len:Nat} (h:w.heap[g]?=some (.cells (madeCells #[.string ⟨#[]⟩,.int .i64 0,.string ⟨#[]⟩,.slice none 0 0,.string ⟨#[]⟩,.int .i64 0] (len*6)) 64 (0,0))) (hl:len<=1048576) (S:Nat->Prop) (hS:S g):
  az w (some ⟨g,0,none⟩) len len 6 64 ((FN len pdZ).map pdF) S:=by
 refine⟨by simp,Fq _,by omega,.inr ⟨g,_,fun _ _=>0,rfl,h,hS,?_,?_,?_⟩⟩
 ·exact nQ
 ·intro j r hr i f hi;rw[FA] at hr;obtain⟨x,hx,rfl⟩:=FG.1 hr;have hj:j<len:=by have:=(Fk.1 hx).1;simpa using this
  obtain rfl:x=pdZ:=by
   exact fT
  have him:i<6:=(Fk.1 hi).1;have hlt:j*6+i<len*6:=af
  have hcell:(madeCells #[.string ⟨#[]⟩,.int .i64 0,.string ⟨#[]⟩,.slice none 0 0,.string ⟨#[]⟩,.int .i64 0] (len*6))[j*6+i]?=some (#[.string ⟨#[]⟩,.int .i64 0,.string ⟨#[]⟩,.slice none 0 0,.string ⟨#[]⟩,.int .i64 0][i]!):=by
   unfold madeCells;rw[Iy,Il];rw[if_pos hlt];have:(j*6+i) % 6=i:=af
   simp[this]
  refine⟨_,hcell,?_⟩;rcases i with _|_|_|_|_|_|i
  ·cases hi;exact⟨rfl,by decide⟩
  ·cases hi;exact rfl
  ·cases hi;exact⟨rfl,by decide⟩
  ·cases hi;exact⟨none,0,0,rfl,rfl,Fq _,by decide,fun j x hx=>by simp[pdZ] at hx,.inl rfl⟩
  ·cases hi;exact⟨rfl,by decide⟩
  ·cases hi;exact rfl
  ·omega
 ·intro j r i zs j' r' i' zs' hr hi hz;exfalso;rw[FA] at hr;obtain⟨x,hx,rfl⟩:=FG.1 hr;obtain rfl:x=pdZ:=by
   exact fT
  have him:i<6:=(Fk.1 hi).1;rcases i with _|_|_|_|_|_|i
  ·cases hi
  ·cases hi
  ·cases hi
  ·cases hi;exact hz rfl
  ·cases hi
  ·cases hi
  ·omega

theorem uo (a:Option Addr) (len cap:Nat) (xs:List Pd) (w:World) (hr:aN w a len cap 6 (xs.map pdF)) (hl:len<=1048576) (hf:∀(j:Nat) x,xs[j]?=some x->x.zs.length<=1048576):
  Calls Tryz.prog 28 #[.slice a len cap] w fun e w'=>e=.returned (.slice (some ⟨w.heap.size,0,none⟩) len len)/\az w' (some ⟨w.heap.size,0,none⟩) len len 6 64 (xs.map pdF) (fun k=>w.heap.size<=k)/\Below w.heap.size w w':=by
 obtain⟨HR,hvl⟩:=fP;have HF:=aa hf;clear hr hf;obtain⟨i0,hi,hz0,hz1,hz2⟩:=info_parts iI;go_enter Tryz.func28,Tryz.ntmps28;go_wp2_with (at_make;refine wpList_make_full _ rfl _ _ 34 rfl w.heap.size 64 i0 (.agg #[.string ⟨#[]⟩,.int .i64 0,.string ⟨#[]⟩,.slice none 0 0,.string ⟨#[]⟩,.int .i64 0]) 6 Tryz.underlying34 hi hz0 hz1 _ _ _ _ len rfl rfl af af gH cC (Fq _) ?_);intro w1 hown hgrow;obtain⟨hnx1,HB⟩:=nI;have hc1:w1.heap[w.heap.size]?=some (.cells (madeCells #[.string ⟨#[]⟩,.int .i64 0,.string ⟨#[]⟩,.slice none 0 0,.string ⟨#[]⟩,.int .i64 0] (len*6)) 64 (0,0)):=by
  obtain⟨h1,h2⟩:=hown;rcases h2 with ⟨h3,_⟩|⟨g',cap',cur,hv,hB,hh,_,_,hsz,htk⟩
  ·cases h3
  ·simp only[Ig,Gw,Addr.mk.injEq] at hv;obtain⟨⟨rfl,_,_⟩,_,rfl⟩:=hv;rw[FD (by simp[hsz])] at htk;have:cur=madeCells #[.string ⟨#[]⟩,.int .i64 0,.string ⟨#[]⟩,.slice none 0 0,.string ⟨#[]⟩,.int .i64 0] (len*6):=by apply Array.ext';simpa using htk
   rw[this] at hh;simpa using hh
 have HP:Hid (az w1 (some ⟨w.heap.size,0,none⟩) len len 6 64 ((xs.take 0++(FN len pdZ).drop 0).map pdF) (fun k=>w.heap.size<=k)):=by
  have:=DI hc1 hl (fun k=>w.heap.size<=k) (Fq _);simpa[Hid] using this
 have hZl:xs.length=(FN len pdZ).length:=by simpa using hvl
 clear hown hgrow hi hz0 hz1 hz2 hnx1 hc1;go_wp2;go_loopw [4] (fun i wr=> ∃k:Nat,k<=len/\i=.int .i64 k/\Hid (az wr (some ⟨w.heap.size,0,none⟩) len len 6 64 ((xs.take k++(FN len pdZ).drop k).map pdF) (fun k=>w.heap.size<=k))/\Hid (Below w.heap.size w wr)) (fun i _=>len - (intOf i).toNat);case atStart=>exact⟨0,by omega,rfl,HP,HB⟩
 case round=>
  obtain⟨k,hk,rfl,HP,HB⟩:=hrel;by_cases hlt:k<len
  ·obtain⟨b,o,v,rfl,hb,hv,hat⟩:=bY (HR.below HB.out) hlt;obtain⟨va,vl,vc,hvr,z0,z2,z4,c0,c1,c2,c3,c4,c5⟩:=aS hat;have HV:=aa hv;have Hz0:=aa z0;have Hz2:=aa z2;have Hz4:=aa z4;obtain⟨HT,hvl2,hvz,HVZ⟩:=uY;clear hvr hvz;clear hat hv z0 z2 z4;have hzk:((xs.take k++(FN len pdZ).drop k).map pdF)[k]?=some (pdF pdZ):=by
    exact jS
   obtain⟨g,hg,hs⟩:=HP.st (aC.refl _ _) hzk;cases hg;have HS:=aa hs;clear hs hzk HP;go_wp2_with fail;refine (sZ v.n v.c v.z va vl vc v.zs v.d v.p _ HT.out hvl2).mono ?_;rintro e w2 ⟨rfl,hG,hb2⟩;have HB2:=upB HB hb2;have h1:StJ w.heap.size 6 64 (fun k=>w.heap.size<=k) (fun k=>wr.heap.size<=k) wr w2 ((xs.take k++(FN len pdZ).drop k).map pdF) k [.s pdZ.n,.i pdZ.c,.s pdZ.z,.l pdZ.zs,.s pdZ.d,.i pdZ.p]:=HS.fresh hb2;have hL:oW w2 (wr.heap.size+1+1+1) (fun k=>w.heap.size<=k) w.heap.size v.zs (.slice (some ⟨wr.heap.size+1+1+1,0,none⟩) vl vl):=by
    exact qh
   have HL:=aa hL;clear hG hL;obtain⟨q0,e0⟩:=h1.cell (i:=0) rfl;have f0:=h1.cH (k*6);obtain⟨q1,e1⟩:=h1.cell (i:=1) rfl;have f1:=h1.cH (k*6+1);obtain⟨q2,e2⟩:=h1.cell (i:=2) rfl;have f2:=h1.cH (k*6+2);obtain⟨q3,e3⟩:=h1.cell (i:=3) rfl;have f3:=h1.cH (k*6+3);obtain⟨q4,e4⟩:=h1.cell (i:=4) rfl;have f4:=h1.cH (k*6+4);obtain⟨q5,e5⟩:=h1.cell (i:=5) rfl;have f5:=h1.cH (k*6+5);rw[Hg] at e0;have HZ:=aa (((((((h1).dt (i:=0) rfl v.n Hz0.out).ir (i:=1) rfl v.c).dt (i:=2) rfl v.z Hz2.out).Dc (i:=3) rfl v.zs (fun _=>by show wr.heap.size<=_;omega) (Fv.Own.bC (u:=.l v.zs) (Fv.Own.bC (u:=.l v.zs) (Fv.Own.bC (u:=.l v.zs) (HL.out))))).dt (i:=4) rfl v.d Hz4.out).ir (i:=5) rfl v.p);clear h1 hb2 c0 c1 c2 c3 c4 c5 hb;go_wp2_with fail;refine⟨⟨k+1,by omega,by go_num,?_,ah (Fq _) (ah (Fq _) (ah (Fq _) (ah (Fq _) (ah (Fq _) (ah (Fq _) (HB2.out))))))⟩,by simp[intOf];omega⟩;obtain⟨⟨cur,H,h2,-⟩,-,-⟩:=HZ.out;have h3:(((xs.take k++(FN len pdZ).drop k).map pdF).set k (pdF v))=(xs.take (k+1)++(FN len pdZ).drop (k+1)).map pdF:=by
    rw[<-Hz,cE hZl HV.out]
   have h4:dL _ w.heap.size 6 64 (((xs.take k++(FN len pdZ).drop k).map pdF).set k (pdF v)) (fun k=>w.heap.size<=k) cur H:=h2;exact nR
  ·exact nZ

structure je (c:Cl):Prop where
 l1:c.ns.length<=1048576
 f1:∀(j:Nat) x,c.ns[j]?=some x->x.zs.length<=1048576
 l2:c.ks.length<=1048576
 l3:c.vs.length<=1048576
 f3:∀(j:Nat) x,c.vs[j]?=some x->x.zs.length<=1048576
 l4:c.xs.length<=1048576
 l5:c.ps.length<=1048576
 f5:∀(j:Nat) x,c.ps[j]?=some x->x.zs.length<=1048576

theorem kD (d:Ad) (c:Cl) (w:World) (hr:aJ w d c.raw):
  Calls Tryz.prog 5 #[.agg #[.slice d.a1 d.l1 d.c1,.slice d.a2 d.l2 d.c2,.slice d.a3 d.l3 d.c3,.slice d.a4 d.l4 d.c4,.slice d.a5 d.l5 d.c5,.int .i64 c.now],.int .i64 1048576] w (SzB 1048576 (je c) w):=by
 obtain⟨HR,HB⟩:=gJ;clear hr;go_enter Tryz.func5,Tryz.ntmps5;go_wp2_with fail;refine (ux d.a1 d.l1 d.c1 c.ns 1048576 _ (HR.n.below (HB.trans ((al _ _).mono HB.size))) af af).mono ?_;rintro e w1 ⟨r1,rfl,hi,hb⟩;obtain⟨HA0,hbx⟩:=aL hb;have Bk:=aa HA0;replace HB:=upB HB hbx;clear hb hbx HA0;rcases hi with rfl|⟨hr10,hr11,hz1⟩
 ·exact nN
 have HZ1:=aa hz1;clear hz1;obtain⟨k0,k1,k2,k3,k4,k5⟩:=cs6 Bk;go_wp2_with fail;refine (uy d.a2 d.l2 d.c2 c.ks r1 _ (HR.k.below HB.out) af af).mono ?_;rintro e w2 ⟨r2,rfl,hi,hb⟩;clear k0 k1 k2 k3 k4 k5;replace Bk:=upK Bk hb;replace HB:=upB HB hb;clear hb;rcases hi with rfl|⟨hr20,hr21,hz2⟩
 ·exact nN
 have HZ2:=aa hz2;clear hz2;obtain⟨k0,k1,k2,k3,k4,k5⟩:=cs6 Bk;go_wp2_with fail;refine (uv d.a3 d.l3 d.c3 c.vs r2 _ (HR.v.below HB.out) af af).mono ?_;rintro e w3 ⟨r3,rfl,hi,hb⟩;clear k0 k1 k2 k3 k4 k5;replace Bk:=upK Bk hb;replace HB:=upB HB hb;clear hb;rcases hi with rfl|⟨hr30,hr31,hz3⟩
 ·exact nN
 have HZ3:=aa hz3;clear hz3;obtain⟨k0,k1,k2,k3,k4,k5⟩:=cs6 Bk;go_wp2_with fail;refine (uu d.a4 d.l4 d.c4 c.xs r3 _ (HR.x.below HB.out) af af).mono ?_;rintro e w4 ⟨r4,rfl,hi,hb⟩;clear k0 k1 k2 k3 k4 k5;replace Bk:=upK Bk hb;replace HB:=upB HB hb;clear hb;rcases hi with rfl|⟨hr40,hr41,hz4⟩
 ·exact nN
 have HZ4:=aa hz4;clear hz4;obtain⟨k0,k1,k2,k3,k4,k5⟩:=cs6 Bk;go_wp2_with fail;refine (uw d.a5 d.l5 d.c5 c.ps r4 _ (HR.p.below HB.out) af af).mono ?_;rintro e w5 ⟨r5,rfl,hi,hb⟩;clear k0 k1 k2 k3 k4 k5;replace Bk:=upK Bk hb;replace HB:=upB HB hb;clear hb;rcases hi with rfl|⟨hr50,hr51,hz5⟩
 ·exact nN
 have HZ5:=aa hz5;clear hz5;go_wp2;go_ret;refine⟨r5,rfl,.inr ⟨by omega,by omega,?_⟩,HB.out⟩;have e1:c.ns.length=d.l1:=by simpa using (show (c.ns.map ndF).length=d.l1 from HR.n.1)
 have e2:c.ks.length=d.l2:=by simpa using (show (c.ks.map kdF).length=d.l2 from HR.k.1)
 have e3:c.vs.length=d.l3:=by simpa using (show (c.vs.map vdF).length=d.l3 from HR.v.1)
 have e4:c.xs.length=d.l4:=by simpa using (show (c.xs.map xdF).length=d.l4 from HR.x.1)
 have e5:c.ps.length=d.l5:=by simpa using (show (c.ps.map pdF).length=d.l5 from HR.p.1)
 exact⟨by rw[e1];exact HZ1.1,HZ1.2,by rw[e2];exact HZ2.out,by rw[e3];exact HZ3.1,HZ3.2,by rw[e4];exact HZ4.out,by rw[e5];exact HZ5.1,HZ5.2⟩

theorem dA (d:Ad) (c:Cl) (w:World) (hr:aJ w d c.raw) (hf:je c):
  Calls Tryz.prog 7 #[.agg #[.slice d.a1 d.l1 d.c1,.slice d.a2 d.l2 d.c2,.slice d.a3 d.l3 d.c3,.slice d.a4 d.l4 d.c4,.slice d.a5 d.l5 d.c5,.int .i64 c.now]] w fun e w'=> ∃d':Ad,e=.returned (.agg #[.slice d'.a1 d'.l1 d'.c1,.slice d'.a2 d'.l2 d'.c2,.slice d'.a3 d'.l3 d'.c3,.slice d'.a4 d'.l4 d'.c4,.slice d'.a5 d'.l5 d'.c5,.int .i64 c.now])/\bU w' d' c.raw (fun k=>w.heap.size<=k)/\Below w.heap.size w w':=by
 have HR:=aa hr;have HF:=aa hf;have e1:c.ns.length=d.l1:=uR
 have hL1:d.l1<=1048576:=by rw[<-e1];exact hf.l1
 have e2:c.ks.length=d.l2:=by simpa using (show (c.ks.map kdF).length=d.l2 from hr.k.1)
 have hL2:d.l2<=1048576:=by rw[<-e2];exact hf.l2
 have e3:c.vs.length=d.l3:=by simpa using (show (c.vs.map vdF).length=d.l3 from hr.v.1)
 have hL3:d.l3<=1048576:=by rw[<-e3];exact hf.l3
 have e4:c.xs.length=d.l4:=by simpa using (show (c.xs.map xdF).length=d.l4 from hr.x.1)
 have hL4:d.l4<=1048576:=by rw[<-e4];exact hf.l4
 have e5:c.ps.length=d.l5:=by simpa using (show (c.ps.map pdF).length=d.l5 from hr.p.1)
 have hL5:d.l5<=1048576:=by rw[<-e5];exact hf.l5
 clear hr hf e1 e2 e3 e4 e5;obtain⟨X0,hX0⟩:∃X,X=((w.alloc (.cells (clv d c.now) 28)).alloc (.cells (c6 none 0 0 none 0 0 none 0 0 none 0 0 none 0 0 0) 36)).alloc (.cells (c6 none 0 0 none 0 0 none 0 0 none 0 0 none 0 0 0) 36):=⟨_,rfl⟩;have B0:Hid (Below w.heap.size w X0):=by rw[hX0];exact bH _ _ _ _
 have bx0:Hid (X0.heap[w.heap.size]?=some (.cells (clv d c.now) 28 (0,0))):=by rw[hX0];exact fE _ _ _ _
 have br0:Hid (X0.heap[w.heap.size+1]?=some (.cells (c6 none 0 0 none 0 0 none 0 0 none 0 0 none 0 0 0) 36 (0,0))):=by rw[hX0];exact dC _ _ _ _
 have bl0:Hid (X0.heap[w.heap.size+1+1]?=some (.cells (c6 none 0 0 none 0 0 none 0 0 none 0 0 none 0 0 0) 36 (0,0))):=by rw[hX0];exact cR _ _ _ _
 have hs0:=ae bl0.out;go_enter Tryz.func7,Tryz.ntmps7;go_wp2_with fail;rw[<-hX0];clear hX0;refine (uq d.a1 d.l1 d.c1 c.ns _ (HR.n.below B0.out) hL1 HF.f1).mono ?_;rintro e w1 ⟨rfl,ho,hb⟩;have hsz1:=hb.size;have gx:=(hb.block _ (ae bx0.out)).trans bx0.out;have gr:=(hb.block _ (ae br0.out)).trans br0.out;have gl:=(hb.block _ (ae bl0.out)).trans bl0.out;have gB:=B0.trans (hb.mono B0.size);have P1:=aa ho;clear ho hb bx0 br0 bl0 B0;have pl:=ck0 gl;have fl:=av gl 0;have px:=ck1 gx;obtain⟨X1,hX1⟩:∃X,X=w1.setCell ⟨w.heap.size+1+1,0,none⟩ (.slice (some ⟨X0.heap.size,0,none⟩) d.l1 d.l1):=⟨_,rfl⟩;have hxa1:X1.heap.size<=w1.heap.size:=by rw[hX1];simp[Gc]
 have hxb1:w1.heap.size<=X1.heap.size:=by rw[hX1];simp[Gc]
 have bx1:Hid (X1.heap[w.heap.size]?=some (.cells (clv d c.now) 28 (0,0))):=by rw[hX1];exact aV af gx
 have br1:Hid (X1.heap[w.heap.size+1]?=some (.cells (c6 none 0 0 none 0 0 none 0 0 none 0 0 none 0 0 0) 36 (0,0))):=by rw[hX1];exact aV af gr
 have bl1:Hid (X1.heap[w.heap.size+1+1]?=some (.cells (c6 (some ⟨X0.heap.size,0,none⟩) d.l1 d.l1 none 0 0 none 0 0 none 0 0 none 0 0 0) 36 (0,0))):=by rw[hX1];have:=aA (i:=0) gl (.slice (some ⟨X0.heap.size,0,none⟩) d.l1 d.l1);simpa[Hid] using this
 have B1:Hid (Below w.heap.size w X1):=by rw[hX1];exact ah af gB
 have O1:=aa (P1.aM (w':=X1) (fun k hk s=>by rw[hX1];exact Fm _ _ _ _ (show k≠w.heap.size+1+1 by have h9:X0.heap.size<=k:=s;omega)) (fun k hk s=>(⟨s,hk⟩:X0.heap.size<=k/\k<w1.heap.size)));clear gx gr gl gB P1;go_wp2_with fail;rw[<-hX1];clear hX1;clear pl fl px;refine (ur d.a2 d.l2 d.c2 c.ks _ (HR.k.below B1.out) hL2).mono ?_;rintro e w2 ⟨rfl,ho,hb⟩;have hsz2:=hb.size;have gx:=(hb.block _ (ae bx1.out)).trans bx1.out;have gr:=(hb.block _ (ae br1.out)).trans br1.out;have gl:=(hb.block _ (ae bl1.out)).trans bl1.out;have gB:=B1.trans (hb.mono B1.size);have P2:=aa ho;have Q1:=aa (O1.below hb);clear ho hb bx1 br1 bl1 B1 O1;have pl:=ck1 gl;have fl:=av gl 1;have px:=ck2 gx;obtain⟨X2,hX2⟩:∃X,X=w2.setCell ⟨w.heap.size+1+1,1,none⟩ (.slice (some ⟨X1.heap.size,0,none⟩) d.l2 d.l2):=⟨_,rfl⟩;have hxa2:X2.heap.size<=w2.heap.size:=by rw[hX2];simp[Gc]
 have hxb2:w2.heap.size<=X2.heap.size:=by rw[hX2];simp[Gc]
 have bx2:Hid (X2.heap[w.heap.size]?=some (.cells (clv d c.now) 28 (0,0))):=by rw[hX2];exact aV af gx
 have br2:Hid (X2.heap[w.heap.size+1]?=some (.cells (c6 none 0 0 none 0 0 none 0 0 none 0 0 none 0 0 0) 36 (0,0))):=by rw[hX2];exact aV af gr
 have bl2:Hid (X2.heap[w.heap.size+1+1]?=some (.cells (c6 (some ⟨X0.heap.size,0,none⟩) d.l1 d.l1 (some ⟨X1.heap.size,0,none⟩) d.l2 d.l2 none 0 0 none 0 0 none 0 0 0) 36 (0,0))):=by rw[hX2];have:=aA (i:=1) gl (.slice (some ⟨X1.heap.size,0,none⟩) d.l2 d.l2);simpa[Hid] using this
 have B2:Hid (Below w.heap.size w X2):=by rw[hX2];exact ah af gB
 have O1:=aa (Q1.aM (w':=X2) (fun k hk s=>by rw[hX2];exact Fm _ _ _ _ (show k≠w.heap.size+1+1 by have h9:X0.heap.size<=k:=s.1;omega)) (fun k hk s=>s));have O2:=aa (P2.aM (w':=X2) (fun k hk s=>by rw[hX2];exact Fm _ _ _ _ (show k≠w.heap.size+1+1 by have h9:X1.heap.size<=k:=s;omega)) (fun k hk s=>(⟨s,hk⟩:X1.heap.size<=k/\k<w2.heap.size)));clear gx gr gl gB P2 Q1;go_wp2_with fail;rw[<-hX2];clear hX2;clear pl fl px;refine (um d.a3 d.l3 d.c3 c.vs _ (HR.v.below B2.out) hL3 HF.f3).mono ?_;rintro e w3 ⟨rfl,ho,hb⟩;have hsz3:=hb.size;have gx:=(hb.block _ (ae bx2.out)).trans bx2.out;have gr:=(hb.block _ (ae br2.out)).trans br2.out;have gl:=(hb.block _ (ae bl2.out)).trans bl2.out;have gB:=B2.trans (hb.mono B2.size);have P3:=aa ho;have Q1:=aa (O1.below hb);have Q2:=aa (O2.below hb);clear ho hb bx2 br2 bl2 B2 O1 O2;have pl:=ck2 gl;have fl:=av gl 2;have px:=ck3 gx;obtain⟨X3,hX3⟩:∃X,X=w3.setCell ⟨w.heap.size+1+1,2,none⟩ (.slice (some ⟨X2.heap.size,0,none⟩) d.l3 d.l3):=⟨_,rfl⟩;have hxa3:X3.heap.size<=w3.heap.size:=by rw[hX3];simp[Gc]
 have hxb3:w3.heap.size<=X3.heap.size:=by rw[hX3];simp[Gc]
 have bx3:Hid (X3.heap[w.heap.size]?=some (.cells (clv d c.now) 28 (0,0))):=by rw[hX3];exact aV af gx
 have br3:Hid (X3.heap[w.heap.size+1]?=some (.cells (c6 none 0 0 none 0 0 none 0 0 none 0 0 none 0 0 0) 36 (0,0))):=by rw[hX3];exact aV af gr
 have bl3:Hid (X3.heap[w.heap.size+1+1]?=some (.cells (c6 (some ⟨X0.heap.size,0,none⟩) d.l1 d.l1 (some ⟨X1.heap.size,0,none⟩) d.l2 d.l2 (some ⟨X2.heap.size,0,none⟩) d.l3 d.l3 none 0 0 none 0 0 0) 36 (0,0))):=by rw[hX3];have:=aA (i:=2) gl (.slice (some ⟨X2.heap.size,0,none⟩) d.l3 d.l3);simpa[Hid] using this
 have B3:Hid (Below w.heap.size w X3):=by rw[hX3];exact ah af gB
 have O1:=aa (Q1.aM (w':=X3) (fun k hk s=>by rw[hX3];exact Fm _ _ _ _ (show k≠w.heap.size+1+1 by have h9:X0.heap.size<=k:=s.1;omega)) (fun k hk s=>s));have O2:=aa (Q2.aM (w':=X3) (fun k hk s=>by rw[hX3];exact Fm _ _ _ _ (show k≠w.heap.size+1+1 by have h9:X1.heap.size<=k:=s.1;omega)) (fun k hk s=>s));have O3:=aa (P3.aM (w':=X3) (fun k hk s=>by rw[hX3];exact Fm _ _ _ _ (show k≠w.heap.size+1+1 by have h9:X2.heap.size<=k:=s;omega)) (fun k hk s=>(⟨s,hk⟩:X2.heap.size<=k/\k<w3.heap.size)));clear gx gr gl gB P3 Q1 Q2;go_wp2_with fail;rw[<-hX3];clear hX3;clear pl fl px;refine (uk d.a4 d.l4 d.c4 c.xs _ (HR.x.below B3.out) hL4).mono ?_;rintro e w4 ⟨rfl,ho,hb⟩;have hsz4:=hb.size;have gx:=(hb.block _ (ae bx3.out)).trans bx3.out;have gr:=(hb.block _ (ae br3.out)).trans br3.out;have gl:=(hb.block _ (ae bl3.out)).trans bl3.out;have gB:=B3.trans (hb.mono B3.size);have P4:=aa ho;have Q1:=aa (O1.below hb);have Q2:=aa (O2.below hb);have Q3:=aa (O3.below hb);clear ho hb bx3 br3 bl3 B3 O1 O2 O3;have pl:=ck3 gl;have fl:=av gl 3;have px:=ck4 gx;obtain⟨X4,hX4⟩:∃X,X=w4.setCell ⟨w.heap.size+1+1,3,none⟩ (.slice (some ⟨X3.heap.size,0,none⟩) d.l4 d.l4):=⟨_,rfl⟩;have hxa4:X4.heap.size<=w4.heap.size:=by rw[hX4];simp[Gc]
 have hxb4:w4.heap.size<=X4.heap.size:=by rw[hX4];simp[Gc]
 have bx4:Hid (X4.heap[w.heap.size]?=some (.cells (clv d c.now) 28 (0,0))):=by rw[hX4];exact aV af gx
 have br4:Hid (X4.heap[w.heap.size+1]?=some (.cells (c6 none 0 0 none 0 0 none 0 0 none 0 0 none 0 0 0) 36 (0,0))):=by rw[hX4];exact aV af gr
 have bl4:Hid (X4.heap[w.heap.size+1+1]?=some (.cells (c6 (some ⟨X0.heap.size,0,none⟩) d.l1 d.l1 (some ⟨X1.heap.size,0,none⟩) d.l2 d.l2 (some ⟨X2.heap.size,0,none⟩) d.l3 d.l3 (some ⟨X3.heap.size,0,none⟩) d.l4 d.l4 none 0 0 0) 36 (0,0))):=by rw[hX4];have:=aA (i:=3) gl (.slice (some ⟨X3.heap.size,0,none⟩) d.l4 d.l4);simpa[Hid] using this
 have B4:Hid (Below w.heap.size w X4):=by rw[hX4];exact ah af gB
 have O1:=aa (Q1.aM (w':=X4) (fun k hk s=>by rw[hX4];exact Fm _ _ _ _ (show k≠w.heap.size+1+1 by have h9:X0.heap.size<=k:=s.1;omega)) (fun k hk s=>s));have O2:=aa (Q2.aM (w':=X4) (fun k hk s=>by rw[hX4];exact Fm _ _ _ _ (show k≠w.heap.size+1+1 by have h9:X1.heap.size<=k:=s.1;omega)) (fun k hk s=>s));have O3:=aa (Q3.aM (w':=X4) (fun k hk s=>by rw[hX4];exact Fm _ _ _ _ (show k≠w.heap.size+1+1 by have h9:X2.heap.size<=k:=s.1;omega)) (fun k hk s=>s));have O4:=aa (P4.aM (w':=X4) (fun k hk s=>by rw[hX4];exact Fm _ _ _ _ (show k≠w.heap.size+1+1 by have h9:X3.heap.size<=k:=s;omega)) (fun k hk s=>(⟨s,hk⟩:X3.heap.size<=k/\k<w4.heap.size)));clear gx gr gl gB P4 Q1 Q2 Q3;go_wp2_with fail;rw[<-hX4];clear hX4;clear pl fl px;refine (uo d.a5 d.l5 d.c5 c.ps _ (HR.p.below B4.out) hL5 HF.f5).mono ?_;rintro e w5 ⟨rfl,ho,hb⟩;have gx:=(hb.block _ (ae bx4.out)).trans bx4.out;have gr:=(hb.block _ (ae br4.out)).trans br4.out;have gl:=(hb.block _ (ae bl4.out)).trans bl4.out;have gB:=B4.trans (hb.mono B4.size);have P5:=aa ho;have Q1:=aa (O1.below hb);have Q2:=aa (O2.below hb);have Q3:=aa (O3.below hb);have Q4:=aa (O4.below hb);clear ho hb bx4 br4 bl4 B4 O1 O2 O3 O4;have l4:=ck4 gl;have l5:=ck5 gl;have l0:=ck0 gl;have l1:=ck1 gl;have l2:=ck2 gl;have l3:=ck3 gl;have r0:=ck0 gr;have fr0:=av gr 0;have r1:=ck1 gr;have fr1:=av gr 1;have r2:=ck2 gr;have fr2:=av gr 2;have r3:=ck3 gr;have fr3:=av gr 3;have fl4:=av gl 4;have r4:=ck4 gr;have fr4:=av gr 4;have fl5:=av gl 5;have r5:=ck5 gr;have fr5:=av gr 5;have px:=ck5 gx;have GB:=aa gB;clear gx gr gl gB;go_wp2;refine bodyPost_ret (v:=.agg #[.slice (some ⟨X0.heap.size,0,none⟩) d.l1 d.l1,.slice (some ⟨X1.heap.size,0,none⟩) d.l2 d.l2,.slice (some ⟨X2.heap.size,0,none⟩) d.l3 d.l3,.slice (some ⟨X3.heap.size,0,none⟩) d.l4 d.l4,.slice (some ⟨X4.heap.size,0,none⟩) d.l5 d.l5,.int .i64 c.now]) (by simp[results,Tryz.results7,go_sem, *]) rfl ⟨⟨some ⟨X0.heap.size,0,none⟩,d.l1,d.l1,some ⟨X1.heap.size,0,none⟩,d.l2,d.l2,some ⟨X2.heap.size,0,none⟩,d.l3,d.l3,some ⟨X3.heap.size,0,none⟩,d.l4,d.l4,some ⟨X4.heap.size,0,none⟩,d.l5,d.l5⟩,rfl,?_,sb1 (sb1 (sb1 (sb1 (sb1 (sb1 (sb2 (sb2 (GB.out))))))))⟩;have same:∀k,w.heap.size+1+1<k->((((((((w5.setCell ⟨w.heap.size+1+1,4,none⟩ (.slice (some ⟨X4.heap.size,0,none⟩) d.l5 d.l5)).setCell ⟨w.heap.size+1+1,5,none⟩ (.int .i64 c.now)).setCell ⟨w.heap.size+1,0,none⟩ (.slice (some ⟨X0.heap.size,0,none⟩) d.l1 d.l1)).setCell ⟨w.heap.size+1,1,none⟩ (.slice (some ⟨X1.heap.size,0,none⟩) d.l2 d.l2)).setCell ⟨w.heap.size+1,2,none⟩ (.slice (some ⟨X2.heap.size,0,none⟩) d.l3 d.l3)).setCell ⟨w.heap.size+1,3,none⟩ (.slice (some ⟨X3.heap.size,0,none⟩) d.l4 d.l4)).setCell ⟨w.heap.size+1,4,none⟩ (.slice (some ⟨X4.heap.size,0,none⟩) d.l5 d.l5)).setCell ⟨w.heap.size+1,5,none⟩ (.int .i64 c.now)).heap[k]?=w5.heap[k]?:=fun k hk=>by
  rw[Fm _ _ _ _ (show k≠w.heap.size+1 by omega),Fm _ _ _ _ (show k≠w.heap.size+1 by omega),Fm _ _ _ _ (show k≠w.heap.size+1 by omega),Fm _ _ _ _ (show k≠w.heap.size+1 by omega),Fm _ _ _ _ (show k≠w.heap.size+1 by omega),Fm _ _ _ _ (show k≠w.heap.size+1 by omega),Fm _ _ _ _ (show k≠w.heap.size+1+1 by omega),Fm _ _ _ _ (show k≠w.heap.size+1+1 by omega)]
 refine⟨fun k=>if k<w1.heap.size then 1 else if k<w2.heap.size then 2 else if k<w3.heap.size then 3 else if k<w4.heap.size then 4 else 5,?_,?_,?_,?_,?_⟩
 ·refine Q1.aM (fun k hk s=>same k (by have h9:X0.heap.size<=k:=s.1;omega)) (fun k hk s=>⟨?_,?_⟩)
  ·have h9:=s.1;show w.heap.size<=k;omega
  ·have h9:=s.1;have h8:=s.2;show (if k<w1.heap.size then 1 else if k<w2.heap.size then 2 else if k<w3.heap.size then 3 else if k<w4.heap.size then 4 else 5)=1;rw[if_pos h8]
 ·refine Q2.aM (fun k hk s=>same k (by have h9:X1.heap.size<=k:=s.1;omega)) (fun k hk s=>⟨?_,?_⟩)
  ·have h9:=s.1;show w.heap.size<=k;omega
  ·have h9:=s.1;have h8:=s.2;show (if k<w1.heap.size then 1 else if k<w2.heap.size then 2 else if k<w3.heap.size then 3 else if k<w4.heap.size then 4 else 5)=2;rw[if_neg af];rw[if_pos h8]
 ·refine Q3.aM (fun k hk s=>same k (by have h9:X2.heap.size<=k:=s.1;omega)) (fun k hk s=>⟨?_,?_⟩)
  ·have h9:=s.1;show w.heap.size<=k;omega
  ·have h9:=s.1;have h8:=s.2;show (if k<w1.heap.size then 1 else if k<w2.heap.size then 2 else if k<w3.heap.size then 3 else if k<w4.heap.size then 4 else 5)=3;rw[if_neg af];rw[if_neg af];rw[if_pos h8]
 ·refine Q4.aM (fun k hk s=>same k (by have h9:X3.heap.size<=k:=s.1;omega)) (fun k hk s=>⟨?_,?_⟩)
  ·have h9:=s.1;show w.heap.size<=k;omega
  ·have h9:=s.1;have h8:=s.2;show (if k<w1.heap.size then 1 else if k<w2.heap.size then 2 else if k<w3.heap.size then 3 else if k<w4.heap.size then 4 else 5)=4;rw[if_neg af];rw[if_neg af];rw[if_neg af];rw[if_pos h8]
 ·refine P5.aM (fun k hk s=>same k (by have h9:X4.heap.size<=k:=s;omega)) (fun k hk s=>⟨?_,?_⟩)
  ·have h9:=s;show w.heap.size<=k;omega
  ·have h9:=s;show (if k<w1.heap.size then 1 else if k<w2.heap.size then 2 else if k<w3.heap.size then 3 else if k<w4.heap.size then 4 else 5)=5;rw[if_neg af];rw[if_neg af];rw[if_neg af];rw[if_neg af];skip

end Rc
end Go.Proofs.YtpejepeekdjfoaaGreatDoor
