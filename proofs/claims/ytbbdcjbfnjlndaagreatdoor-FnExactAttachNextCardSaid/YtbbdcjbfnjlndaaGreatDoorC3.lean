import Derived.Test.YtbbdcjbfnjlndaaGreatDoorC2
/-
 Whether a pod may be where it is, and whether it may run there; whether a node's mounts may be; how many disks are on a node; as the program asks it.
-/
set_option maxRecDepth 100000
set_option maxHeartbeats 12800000
open And renaming intro→xf
open Array renaming getElem?_push_size→xt, getD_eq_getD_getElem?→xv, getElem?_eq_some_iff→xA, getElem?_setIfInBounds→xJ
open Bool renaming and_eq_true→yk, eq_false_or_eq_true→yB
open Go.Act renaming put→yx
open Go.Addr renaming add_lit→xB
open Go.Builtin renaming append_→xU
open Go.Calls renaming quiet_of_same→xI
open Go.Op renaming bytesLess→xn
open Go.Region renaming wanted→yA
open Go.RowKit.Below renaming heap_setCell→xi, refl→xj, heap_alloc→xM
open Go.Value renaming string→xo
open Go.World renaming setCell→xZ
open Int renaming le_trans→xQ, add_assoc→yv
open List renaming getElem?_eq_some_iff→xe, lookup→xg, getElem?_eq_getElem→xm, getElem?_map→xq, take_of_length_le→xw, mem_of_getElem?→xD, length_take→xE, getElem?_take→xF, length_append→xO, length_map→xR, getElem?_of_mem→xS, mem_cons→xV, length_drop→yf, getElem?_eq_none→yi, range→yt
open Nat renaming le_refl→xk, le_trans→xp, lt_of_lt_of_le→xr, le_succ→xC, zero_add→xL
open Option renaming map_eq_some_iff→xu
open Option.some renaming inj→xh, injEq→ym
namespace Go.Proofs.YtbbdcjbfnjlndaaGreatDoor
theorem ke {p:Prop} (h:p:=by rw[Nat.sub_add_cancel hk0];exact HXx.out):p:=h
theorem pR {p:Prop} (h:p:=by simpa using (show (c.ns.map ndF).length=l1 from hr.n.1)):p:=h
theorem tx {p:Prop} (h:p:=by have h1:=(xe.1 ht).1;have h2:=HVL.out;omega):p:=h
end Go.Proofs.YtbbdcjbfnjlndaaGreatDoor
namespace Go.Proofs.YtbbdcjbfnjlndaaGreatDoor
theorem wQ {p:Prop} (h:p:=by
 rcases hcase with ⟨v,hbd⟩|hbd
 ·obtain⟨j3,hj3⟩:=hbd.at;have hl3':j3<l3:=by have h1:=(xe.1 hj3).1;omega
  obtain⟨b3,o3,v',rfl,hb3,hv',hat⟩:=bq HR.v hl3';rw[hj3] at hv';obtain rfl:=xh hv';obtain⟨xa,xl,xc,hvr,z0,z2,z3,z5,d0,d1,d2,d3,d4,d5,d6,d7⟩:=aE hat;have HJ:=aa hj3;have HD:=aa hbd;have HC2:=aa d2;have HB3:=aa hb3;have hj31:decide ((j3:Int)<0)=false:=aT
  clear hv' hat hvr z0 z2 z3 z5 d0 d1 d2 d3 d4 d5 d6 d7 hj3 hbd hb3;obtain⟨Gk,Gr,HW⟩:=bn;obtain⟨k0,k1,k2,k3,k4,k5⟩:=sl6 Gk;have r3:=fun q:Wd wr=>q.slot (o:=3) Gr.out rfl;obtain⟨tw,hne0⟩:=fZ;have HC0:=aa (fun q:Wd wr=>eu ⟨(some ⟨b1,o1,none⟩),l1,y1,a2,l2,y2,(some ⟨b3,o3,none⟩),l3,y3,a4,l4,y4,(some ⟨b,o,none⟩),l5,y5⟩ c t q.w (HR.below (HW.trans (q.b.mono HW.size))) HX.out HV.out HNE.out HJ.out HD.out);go_wp2_with fail;refine ag an an ?_;repeat (go_big_quiet_step (first|(go_at_call 68;exact Calls.wide (HC0.out _))|fail))
  refine wpQuiet_nil ?_;rintro _ ⟨q1,rfl⟩;have HB1:=upB HW q1.b;obtain⟨Ck,Cr⟩:=cQ;clear hne0 HW HB HC0 k0 k1 k2 k3 k4 k5 r3 tw Gk Gr Bk Br pr3;have HB:=HB1;clear HB1;have Bk:=Ck;clear Ck;have Br:=Cr;clear Cr;obtain⟨hc1,hb1,HBW1⟩:=nD;clear hc hb HBW;by_cases hg:∃(i:Nat) (x:Xd),c.xs[i]?=some x/\x.n=t;rotate_left
  ·have HG:=aa hg;clear hg;obtain⟨Gk,Gr,HW⟩:=bn;obtain⟨k0,k1,k2,k3,k4,k5⟩:=sl6 Gk;obtain⟨r0,r1,r2,r3,r4,r5⟩:=sl6 Gr;obtain⟨tw,hne0⟩:=gM;have HC0:=aa (fun q:Wd q1.w=>ep ⟨(some ⟨b1,o1,none⟩),l1,y1,a2,l2,y2,(some ⟨b3,o3,none⟩),l3,y3,a4,l4,y4,(some ⟨b,o,none⟩),l5,y5⟩ c.now c.xs t q.w (HR.x.below (HW.trans (q.b.mono HW.size))) (fun i x h1 h2=>HG.out ⟨i,x,h1,h2⟩));exact lS
  obtain⟨i4,x4,g1,g2⟩:=hg;obtain⟨HG1,HG2,hi41⟩:=nB;clear g1 g2;have hbv:=xr HB3.out HB.size;have v2:=(ai HB.out HB3.out).trans HC2.out;have hbn:=xr HBn.out HB.size;have n1:=(ai HB.out HBn.out).trans HCn.out;by_cases hz:v.z=n.z
  ·have hzq:=a_ hz;have HZ:=aa hz;clear hz;obtain⟨Gk,Gr,HW⟩:=bn;obtain⟨k0,k1,k2,k3,k4,k5⟩:=sl6 Gk;obtain⟨r0,r1,r2,r3,r4,r5⟩:=sl6 Gr;obtain⟨tw,vw,nw,hne0,HC0⟩:=uf;go_wp2_with fail;refine ag an an ?_;repeat (go_big_quiet_step (first|(go_at_call 117;exact Calls.wide (HC0.out _))|fail))
   refine wpQuiet_nil ?_;rintro _ ⟨q2,rfl⟩;obtain⟨HB2,Ck⟩:=cX;have Cr:=upK Gr q2.b;clear hne0 HW HB HC0 k0 k1 k2 k3 k4 k5 r0 r1 r2 r3 r4 r5 tw vw nw Gk Gr Bk Br hc1 hb1 hbv v2 hbn n1;have HB:=HB2;clear HB2;have Bk:=Ck;clear Ck;have Br:=Cr;clear Cr;clear hzq;go_wp2_with fail;refine⟨⟨kq+1,by omega,by go_num,fun j s hj hs=>?_,HBW1.trans (q2.b.mono HBW1.size)⟩,by simp[intOf];omega⟩;by_cases e:j=kq
   ·subst e;rw[HXt.out] at hs;obtain rfl:=xh hs;exact⟨⟨i4,x4,HG1.out,HG2.out⟩,.inr ⟨v,j1,n,HD.out,HJn.out,HNn.out,HZ.out⟩⟩
   ·exact HQ2.out j s af hs
  ·have hzq:=bL hz;have HZ:=aa hz;clear hz;obtain⟨Gk,Gr,HW⟩:=bn;obtain⟨k0,k1,k2,k3,k4,k5⟩:=sl6 Gk;obtain⟨r0,r1,r2,r3,r4,r5⟩:=sl6 Gr;obtain⟨tw,vw,nw,hne0,HC0⟩:=uf;go_wp2_with fail;refine ag an an ?_;repeat (go_big_quiet_step (first|(go_at_call 117;exact Calls.wide (HC0.out _))|fail))
   refine wpQuiet_nil ?_;rintro _ ⟨q2,rfl⟩;obtain⟨HB2,Ck⟩:=cX;have Cr:=upK Gr q2.b;clear hne0 HW HB HC0 k0 k1 k2 k3 k4 k5 r0 r1 r2 r3 r4 r5 tw vw nw Gk Gr Bk Br hc1 hb1 hbv v2 hbn n1;have HB:=HB2;clear HB2;have Bk:=Ck;clear Ck;have Br:=Cr;clear Cr;go_wp2;go_ret;refine aq.f (fun h=>?_) HB.out;have h9:=(h.1 k p HXp.out).2.1 kq t HXt.out;rcases h9.2 with h2|⟨v',i,n',h2,h3,h4,h5⟩
   ·exact HEm.out h2
   ·obtain rfl:=bp.inj HX.out HV.out HD.out h2;obtain⟨_,rfl⟩:=HNR.inj h3 HJn.out (h4.trans HNn.symm);exact HZ.out h5
 ·have HD:=aa hbd;clear hbd;obtain⟨Gk,Gr,HW⟩:=bn;obtain⟨k0,k1,k2,k3,k4,k5⟩:=sl6 Gk;have r3:=fun q:Wd wr=>q.slot (o:=3) Gr.out rfl;obtain⟨tw,hne0⟩:=fZ;have HC0:=aa (fun q:Wd wr=>eP ⟨(some ⟨b1,o1,none⟩),l1,y1,a2,l2,y2,a3,l3,y3,a4,l4,y4,(some ⟨b,o,none⟩),l5,y5⟩ c t q.w (HR.below (HW.trans (q.b.mono HW.size))) HX.out HV.out HNE.out HD.out);go_wp2_with fail;refine ag an an ?_;repeat (go_big_quiet_step (first|(go_at_call 68;exact Calls.wide (HC0.out _))|fail))
  refine wpQuiet_nil ?_;rintro _ ⟨q1,rfl⟩;have HB1:=upB HW q1.b;obtain⟨Ck,Cr⟩:=cQ;clear hne0 HW HB HC0 k0 k1 k2 k3 k4 k5 r3 tw Gk Gr Bk Br pr3;have HB:=HB1;clear HB1;have Bk:=Ck;clear Ck;have Br:=Cr;clear Cr;obtain⟨hc1,hb1,HBW1⟩:=nD;clear hc hb HBW;by_cases hg:∃(i:Nat) (x:Xd),c.xs[i]?=some x/\x.n=t;rotate_left
  ·have HG:=aa hg;clear hg;obtain⟨Gk,Gr,HW⟩:=bn;obtain⟨k0,k1,k2,k3,k4,k5⟩:=sl6 Gk;obtain⟨r0,r1,r2,r3,r4,r5⟩:=sl6 Gr;obtain⟨tw,hne0⟩:=gM;have HC0:=aa (fun q:Wd q1.w=>ep ⟨(some ⟨b1,o1,none⟩),l1,y1,a2,l2,y2,a3,l3,y3,a4,l4,y4,(some ⟨b,o,none⟩),l5,y5⟩ c.now c.xs t q.w (HR.x.below (HW.trans (q.b.mono HW.size))) (fun i x h1 h2=>HG.out ⟨i,x,h1,h2⟩));exact lS
  obtain⟨i4,x4,g1,g2⟩:=hg;obtain⟨HG1,HG2,hi41⟩:=nB;clear g1 g2;obtain⟨Gk,Gr,HW⟩:=bn;obtain⟨k0,k1,k2,k3,k4,k5⟩:=sl6 Gk;obtain⟨r0,r1,r2,r3,r4,r5⟩:=sl6 Gr;obtain⟨tw,hne0⟩:=gM;have HC0:=aa (fun q:Wd q1.w=>eV ⟨(some ⟨b1,o1,none⟩),l1,y1,a2,l2,y2,a3,l3,y3,a4,l4,y4,(some ⟨b,o,none⟩),l5,y5⟩ c.now c.xs t q.w (HR.x.below (HW.trans (q.b.mono HW.size))) HX.out HG1.out HG2.out);go_wp2_with fail;refine ag an an ?_;repeat (go_big_quiet_step (first|(go_at_call 117;exact Calls.wide (HC0.out _))|fail))
  refine wpQuiet_nil ?_;rintro _ ⟨q2,rfl⟩;obtain⟨HB2,Ck⟩:=cX;have Cr:=upK Gr q2.b;clear hne0 HW HB HC0 k0 k1 k2 k3 k4 k5 r0 r1 r2 r3 r4 r5 tw Gk Gr Bk Br hc1 hb1;have HB:=HB2;clear HB2;have Bk:=Ck;clear Ck;have Br:=Cr;clear Cr;go_wp2;go_ret;refine aq.f (fun h=>?_) HB.out;have h9:=(h.1 k p HXp.out).2.1 kq t HXt.out;rcases h9.2 with h2|⟨v',i,n',h2,_⟩
  ·exact HEm.out h2
  ·exact HD.out v' h2):p:=h
theorem wP {p:Prop} (h:p:=by
 obtain rfl:vl=kq:=af
 have HQb:Hid (PSb c p):=fun j t ht=>HQ2.out j t tx ht;clear HQ2;have TV2:=aa (TV.below HBW.out);have KV2:=Bk;have GV2:=Br;have BV2:=HB;clear KV GV BV TV Bk Br HB HBW;obtain⟨W2,hW⟩:∃W2,W2=wr:=⟨_,rfl⟩;rw[<-hW] at KV2 GV2 BV2 TV2;go_wp2;clear pr3;rw[<-hW];clear hW;go_loopw [8] (fun i wr=> ∃kz:Nat,kz<=k/\i=.int .i64 kz/\Hid (∀(j:Nat) q,j<kz->c.ps[j]?=some q->iS c q p)/\Hid (Below W2.heap.size W2 wr)) (fun i _=>k - (intOf i).toNat);case atStart=>exact⟨0,by omega,rfl,fun _ _ h=>absurd h af,xj _ _⟩
 case round=>
  obtain⟨kz,hkz,rfl,HQ3,HBW⟩:=hrel;have HB:=aa (BV2.trans (HBW.mono BV2.size));have Bk:=upK KV2 HBW.out;have Br:=upK GV2 HBW.out;have HTp:=aa (TV2.below HBW.out);by_cases hlt3:kz<k
  ·obtain⟨b',o',pq,e',hb',hqq,hatq⟩:=cj (HR.p.below HB.out) (show kz<l5 by omega);cases e';obtain⟨qa,ql,qc,hqr,z0,z2,z4,d0,d1,d2,d3,d4,d5⟩:=aS hatq;have HXq:=aa hqq;have HTq:=aa hqr;clear hatq hqq hqr z0 z2 z4;by_cases hpr:iS c pq p
   ·have HPr:=aa hpr;clear hpr;obtain⟨Gk,Gr,HW⟩:=bn;obtain⟨k0,k1,k2,k3,k4,k5⟩:=sl6 Gk;obtain⟨r0,r1,r2,r3,r4,r5⟩:=sl6 Gr;obtain⟨q0,q1,q2,q3,q4,q5,hne0⟩:=sN;have HC0:=aa (fun qw:Wd wr=>(er ⟨(some ⟨b1,o1,none⟩),l1,y1,a2,l2,y2,a3,l3,y3,a4,l4,y4,(some ⟨b,o,none⟩),l5,y5⟩ c pq p qa ql qc va vl vc qw.w (HR.below (HW.trans (qw.b.mono HW.size))) HX.out HV.out HNE.out (HTq.below qw.b) (HTp.below qw.b)).mono (fun _ _ h=>aq.yes h HPr.out));exact rf
   ·have HPr:=aa hpr;clear hpr;obtain⟨Gk,Gr,HW⟩:=bn;obtain⟨k0,k1,k2,k3,k4,k5⟩:=sl6 Gk;obtain⟨r0,r1,r2,r3,r4,r5⟩:=sl6 Gr;obtain⟨q0,q1,q2,q3,q4,q5,hne0⟩:=sN;have HC0:=aa (fun qw:Wd wr=>(er ⟨(some ⟨b1,o1,none⟩),l1,y1,a2,l2,y2,a3,l3,y3,a4,l4,y4,(some ⟨b,o,none⟩),l5,y5⟩ c pq p qa ql qc va vl vc qw.w (HR.below (HW.trans (qw.b.mono HW.size))) HX.out HV.out HNE.out (HTq.below qw.b) (HTp.below qw.b)).mono (fun _ _ h=>aq.no h HPr.out));exact rb
  ·exact q_):p:=h
theorem vY {p:Prop} (h:p:=by
 obtain⟨k0,k1,k2,k3,k4,k5⟩:=cs6 Bk;obtain⟨p0,p1,p2,p3,p4,p5⟩:=cs6 Bp;have ltp_1:=ae Bp.out;go_wp2;go_loopw [35] (fun i wr=> ∃k:Nat,k<=pl/\i=.int .i64 k/\Hid (∀(j:Nat) t,j<k->p.zs[j]?=some t->∃v,bp c t v/\v.z=n.z)/\Hid (Below w.heap.size w wr)/\Hid (wr.heap[w.heap.size]?=some (.cells (clv d c.now) 36 (0,0)))/\Hid (wr.heap[w1.heap.size]?=some (.cells (nov n va vl vc) 103 (0,0)))) (fun i _=>pl - (intOf i).toNat);case atStart=>exact⟨0,by omega,rfl,fun _ _ h=>absurd h af,HB.alloc HB.size _,(xM _ _ _ (ae Bk.out)).trans Bk.out,xt⟩
 case round=>
  obtain⟨k,hk,rfl,HQ,HB,Bk,Bn⟩:=hrel;by_cases hlt:k<pl
  ·obtain⟨b,o,t,rfl,hb,hx,hc,hsz⟩:=(HP.below HB.out).at hlt;have HXt:=aa hx;clear hx hsz;obtain⟨k0,k1,k2,k3,k4,k5⟩:=cs6 Bk;obtain⟨n0,n1,n2,n3,n4,n5,n6⟩:=cs7 Bn;go_wp2_with fail;refine (jw d c t w _ HR.out HB.out HX.out HV.out HNE.out).mono ?_;rintro e w2 ⟨hb2,hf⟩;clear k0 k1 k2 k3 k4 k5 n0 n1 n2 n3 n4 n5 n6;replace Bk:=upK Bk hb2;replace Bn:=upK Bn hb2;replace HB:=upB HB hb2;clear hb2;clear hb hc;rcases hf with ⟨v,xa,xl,xc,hbd,rfl,z0,z2,hxr⟩|⟨hbd,rfl⟩;rotate_left
   ·exact qZ
   have HD:=aa hbd;clear hbd hxr z0 z2;by_cases hz2:v.z=n.z
   ·have q3:=a_ hz2;have HZ2:=aa hz2;clear hz2;obtain⟨k0,k1,k2,k3,k4,k5⟩:=cs6 Bk;obtain⟨n0,n1,n2,n3,n4,n5,n6⟩:=cs7 Bn;have ltn_1:=ae Bn.out;go_wp2_with fail;refine⟨⟨k+1,by omega,by go_num,fun j s hj hs=>?_,(HB.alloc HB.size _),(xM _ _ _ (ae Bk.out)).trans Bk.out,(xM _ _ _ (ae Bn.out)).trans Bn.out⟩,by simp[intOf];omega⟩;by_cases e:j=k
    ·subst e;rw[HXt.out] at hs;obtain rfl:=xh hs;exact⟨v,HD.out,HZ2.out⟩
    ·exact HQ.out j s af hs
   ·have q3:=bL hz2;have HZ2:=aa hz2;clear hz2;obtain⟨k0,k1,k2,k3,k4,k5⟩:=cs6 Bk;obtain⟨n0,n1,n2,n3,n4,n5,n6⟩:=cs7 Bn;have ltn_1:=ae Bn.out;go_wp2;go_ret;refine aq.f (fun ⟨i,m,e1,e2,e3,e4⟩=>?_) (HB.alloc HB.size _);obtain⟨_,rfl⟩:=HN.inj e1 HX1.out (e2.trans HN1.symm);obtain⟨v',e5,e6⟩:=e4 k t HXt.out;obtain rfl:=bp.inj HX.out HV.out HD.out e5;exact HZ2.out e6
  ·exact qR):p:=h
theorem vX {p:Prop} (h:p:=by
 exact lS):p:=h
theorem qp {p:Prop} (h:p:=by
 have HB:=HB1;clear HB1;have Bk:=Ck;clear Ck;clear ek;go_wp2_with fail;refine⟨⟨k+1,by omega,by go_num,fun j z hj hz=>?_,fun j z y hj hz hy=>?_,HB.out,Bk.out⟩,by simp[intOf];omega⟩
 ·exact qI
 ·by_cases e:j+1=k
  ·have hj:j=k - 1:=af
   subst hj;rw[Nat.sub_add_cancel hk0,HXx.out] at hz;obtain rfl:=xh hz;rw[HXy.out] at hy;obtain rfl:=xh hy;exact hless
  ·exact HO.out j z y af hz hy):p:=h
theorem qk {p:Prop} (h:p:=by
 have HB:=HB1;clear HB1;have Bk:=Ck;clear Ck;clear hd;go_wp2_with fail;refine⟨⟨k+1,by omega,by go_num,fun j z hj hz=>?_,fun j z y hj hz hy=>?_,HB.out,Bk.out⟩,by simp[intOf];omega⟩
 ·exact qI
 ·by_cases e:j+1=k
  ·exact absurd hk0 af
  ·exact HO.out j z y af hz hy):p:=h
theorem qD {p:Prop} (h:p:=by
 rw[hs] at c4;clear hs;obtain⟨k0,k1,k2,k3,k4,k5⟩:=cs6 Bk;have ltk_0:=ae Bk.out;go_wp2;refine⟨⟨k+1,by omega,by go_num,fun j z hj hz=>?_,(HB.alloc HB.size _),(xM _ _ _ (ae Bk.out)).trans Bk.out⟩,by simp[intOf];omega⟩;by_cases e:j=k
 ·subst e;rw[HXv.out] at hz;obtain rfl:=xh hz;exact fun h1 h2=>by rcases HCs.out with h|h;(rw[h] at h1;cases h1);exact absurd h h2
 ·exact HQ.out j z af hz):p:=h
theorem gO {p:Prop} (h:p:=by
 refine Obl.plain rfl ?_;intro ac wg K hsz hW hf hK;clear hsz;clear hf;go_simp;exact hK _ _ (al _ _) ⟨_,rfl,hW.size,xt⟩):p:=h
theorem nP {p:Prop} (h:p:=by
 rintro e w' ⟨hb,h⟩;rcases h with ⟨i,y,h1,h2,rfl⟩|⟨h1,rfl⟩
 ·obtain⟨rfl,_⟩:=hs.inj h1 hx (h2.trans hn.symm);exact⟨rfl,hb⟩
 ·exact absurd hn (h1 j x hx)):p:=h
theorem uT {p:Prop} (h:p:=by
 obtain rfl:vl=kq:=af
 go_wp2_with fail;refine⟨⟨k+1,by omega,by go_num,fun j z hj hz=>?_,HB.out,Bk.out⟩,by simp[intOf];omega⟩;by_cases e:j=k
 ·subst e;rw[HXv.out] at hz;exact qK
 ·exact HQ.out j z af hz):p:=h
theorem nL {p:Prop} (h:p:=by
 rintro e w' ⟨hb,h⟩;rcases h with ⟨i,y,h1,h2,rfl⟩|⟨h1,rfl⟩
 ·exact absurd h2 (hn i y h1)
 ·exact⟨rfl,hb⟩):p:=h
theorem uK {p:Prop} (h:p:=by
 have HH:=aa hh;clear hh;obtain⟨k0,k1,k2,k3,k4,k5⟩:=cs6 Bk;obtain⟨p0,p1,p2,p3,p4,p5⟩:=cs6 Bp;have ltp_1:=ae Bp.out;go_wp2;go_ret;refine aq.f (fun ⟨i,n,e1,e2,_⟩=>?_) (HB.alloc HB.size _);have:=(cV HN.out e1 e2).2;rw[HH.out] at this;cases this):p:=h
theorem uH {p:Prop} (h:p:=by
 have HCq:=aa hq;go_wp2_with fail;refine⟨⟨k+1,by omega,by go_num,fun j z hj hz=>?_,HB.out,Bk.out⟩,by simp[intOf];omega⟩;by_cases e:j=k
 ·subst e;rw[HXn.out] at hz;obtain rfl:=xh hz;exact HCq.out
 ·exact HQ.out j z af hz):p:=h
theorem qn {p:Prop} (h:p:=by
 obtain⟨k0,k1,k2,k3,k4,k5⟩:=cs6 Bk;go_wp2;go_ret;exact aq.f (fun h=>by have:=HI2.2 h.2.1;cases this) HB.out):p:=h
theorem ky {p:Prop} (h:p:=by
 obtain⟨q,h1,h2⟩:=haty 0 _ rfl;obtain⟨rfl,-⟩:=h2;exact h1):p:=h
theorem uD {p:Prop} (h:p:=by
 go_wp2_with fail;refine⟨⟨k+1,by omega,by go_num,fun j z hj hz=>?_,HB.out,Bk.out⟩,by simp[intOf];omega⟩;by_cases e:j=k
 ·subst e;rw[HXn.out] at hz;obtain rfl:=xh hz;exact hq
 ·exact HQ.out j z af hz):p:=h
theorem qj {p:Prop} (h:p:=by
 obtain⟨k0,k1,k2,k3,k4,k5⟩:=cs6 Bk;go_wp2;go_ret;exact aq.f (fun h=>by have:=HI1.2 h.1;cases this) HB.out):p:=h
theorem uB {p:Prop} (h:p:=by
 by_cases h:∃v,bp c t v
 ·exact .inl h
 ·exact .inr (fun v hv=>h ⟨v,hv⟩)):p:=h
theorem rK {p:Prop} (h:p:=by
 obtain rfl:l1=k:=af
 go_wp2;go_ret;exact aq.t ⟨HQ1.out,fun j n hz=>HQ.out j n ch hz⟩ HB.out):p:=h
theorem rG {p:Prop} (h:p:=by
 obtain rfl:pl=k:=af
 go_wp2;go_ret;exact aq.t (fun j t ht=>HQ.out j t nv ht) HB.out):p:=h
theorem rF {p:Prop} (h:p:=by
 by_cases e:j=k
 ·subst e;rw[HXp.out] at hz;obtain rfl:=xh hz;exact fun h=>absurd h HP2.out
 ·exact HQ.out j z af hz):p:=h
theorem rA {p:Prop} (h:p:=by
 obtain⟨k0,k1,k2,k3,k4,k5⟩:=cs6 Bk;go_wp2;go_ret;exact aq.f (fun h=>by have:=HI5.2 h.2.2.2.2.1;cases this) HB.out):p:=h
theorem ry {p:Prop} (h:p:=by
 obtain⟨k0,k1,k2,k3,k4,k5⟩:=cs6 Bk;go_wp2;go_ret;exact aq.f (fun h=>by have:=HI6.2 h.2.2.2.2.2;cases this) HB.out):p:=h
theorem rv {p:Prop} (h:p:=by
 obtain⟨k0,k1,k2,k3,k4,k5⟩:=cs6 Bk;go_wp2;go_ret;exact aq.f (fun h=>by have:=HI4.2 h.2.2.2.1;cases this) HB.out):p:=h
theorem rr {p:Prop} (h:p:=by
 obtain⟨k0,k1,k2,k3,k4,k5⟩:=cs6 Bk;go_wp2;go_ret;exact aq.f (fun h=>by have:=HI3.2 h.2.2.1;cases this) HB.out):p:=h
theorem vy {p:Prop} (h:p:=by
 subst e;rw[HXt.out] at hs;obtain rfl:=xh hs;exact⟨⟨i4,x4,HG1.out,HG2.out⟩,.inl HEm.out⟩):p:=h
theorem rm {p:Prop} (h:p:=by
 show _=_;rw[fM HX.out,if_neg (fun h=>by have:=HI.2 h;cases this),<-HS.out,Int.add_zero]):p:=h
theorem rh {p:Prop} (h:p:=by
 obtain⟨gb,hgb⟩:∃gb,gb=wr.heap.size:=⟨_,rfl⟩;rw[<-hgb] at Br;have pr3:=ck3 Br;rw[hgb] at pr3;go_wp2;rw[<-hgb];clear pr3 hgb;have KV:=Bk;have GV:=Br;have BV:=HB;have TV:=HTp;clear Bk Br HB HTp;obtain⟨W,hW⟩:∃W,W=q0.w:=⟨_,rfl⟩;rw[<-hW] at KV GV BV TV ⊢;clear hW;go_loopw [6] (fun i wr=> ∃kq:Nat,kq<=vl/\i=.int .i64 kq/\Hid (∀(j:Nat) t,j<kq->p.zs[j]?=some t->vR c p t)/\Hid (Below W.heap.size W wr)) (fun i _=>vl - (intOf i).toNat);case atStart=>exact⟨0,by omega,rfl,fun _ _ h=>absurd h af,xj _ _⟩
 case round=>
  obtain⟨kq,hkq,rfl,HQ2,HBW⟩:=hrel;obtain⟨HB,Bk⟩:=kl;have Br:=upK GV HBW.out;have pr3:=ck3 Br;by_cases hlt2:kq<vl
  ·obtain⟨b2,o2,t,rfl,hb,hxt,hc,hsz⟩:=(TV.below HBW.out).at hlt2;have HXt:=aa hxt;clear hxt hsz;have hcase:(∃v,bp c t v)\/(∀v,¬bp c t v):=by
    by_cases h:∃v,bp c t v
    ·exact .inl h
    ·exact .inr (fun v hv=>h ⟨v,hv⟩)
   exact wQ
  ·exact wP):p:=h
theorem lS {p:Prop} (h:p:=by
 go_wp2_with fail;refine ag an an ?_;repeat (go_big_quiet_step (first|(go_at_call 117;exact Calls.wide (HC0.out _))|fail))
 refine wpQuiet_nil ?_;rintro _ ⟨q2,rfl⟩;obtain⟨HB2,Ck⟩:=cX;have Cr:=upK Gr q2.b;clear hne0 HW HB HC0 k0 k1 k2 k3 k4 k5 r0 r1 r2 r3 r4 r5 tw Gk Gr Bk Br hc1 hb1;have HB:=HB2;clear HB2;have Bk:=Ck;clear Ck;have Br:=Cr;clear Cr;go_wp2;go_ret;refine aq.f (fun h=>?_) HB.out;have h9:=(h.1 k p HXp.out).2.1 kq t HXt.out;exact HG.out h9.1):p:=h
theorem rf {p:Prop} (h:p:=by
 go_wp2_with fail;refine ag an an ?_;repeat (go_big_quiet_step (first|(go_at_call 119;exact Calls.wide (HC0.out _))|fail))
 refine wpQuiet_nil ?_;rintro _ ⟨q9,rfl⟩;have HB1:=upB HW q9.b;have Ck:=upK Gk q9.b;have Cr:=upK Gr q9.b;clear hne0 HW HB HC0 k0 k1 k2 k3 k4 k5 r0 r1 r2 r3 r4 r5 q0 q1 q2 q3 q4 q5 Gk Gr Bk Br d0 d1 d2 d3 d4 d5;have HB:=HB1;clear HB1;have Bk:=Ck;clear Ck;have Br:=Cr;clear Cr;go_wp2_with fail;refine⟨⟨kz+1,by omega,by go_num,fun j s hj hs=>?_,HBW.trans (q9.b.mono HBW.size)⟩,by simp[intOf];omega⟩;by_cases e:j=kz
 ·subst e;rw[HXq.out] at hs;obtain rfl:=xh hs;exact HPr.out
 ·exact HQ3.out j s af hs):p:=h
theorem re {p:Prop} (h:p:=by
 go_wp2_with fail;refine ag an an ?_;repeat (go_big_quiet_step (first|(go_at_call 117;exact Calls.wide (HC0.out _))|fail))
 refine wpQuiet_nil ?_;rintro _ ⟨q2,rfl⟩;obtain⟨HB2,Ck⟩:=cX;have Cr:=upK Gr q2.b;clear hne0 HW HB HC0 k0 k1 k2 k3 k4 k5 r0 r1 r2 r3 r4 r5 tw Gk Gr Bk Br hc1 hb1;have HB:=HB2;clear HB2;have Bk:=Ck;clear Ck;have Br:=Cr;clear Cr;go_wp2_with fail;refine⟨⟨kq+1,by omega,by go_num,fun j s hj hs=>?_,HBW1.trans (q2.b.mono HBW1.size)⟩,by simp[intOf];omega⟩;by_cases e:j=kq
 ·exact vy
 ·exact HQ2.out j s af hs):p:=h
theorem rb {p:Prop} (h:p:=by
 go_wp2_with fail;refine ag an an ?_;repeat (go_big_quiet_step (first|(go_at_call 119;exact Calls.wide (HC0.out _))|fail))
 refine wpQuiet_nil ?_;rintro _ ⟨q9,rfl⟩;have HB1:=upB HW q9.b;have Ck:=upK Gk q9.b;have Cr:=upK Gr q9.b;clear hne0 HW HB HC0 k0 k1 k2 k3 k4 k5 r0 r1 r2 r3 r4 r5 q0 q1 q2 q3 q4 q5 Gk Gr Bk Br d0 d1 d2 d3 d4 d5;have HB:=HB1;clear HB1;have Bk:=Ck;clear Ck;have Br:=Cr;clear Cr;go_wp2;go_ret;exact aq.f (fun h=>HPr.out ((h.1 k p HXp.out).2.2 kz pq hlt3 HXq.out)) HB.out):p:=h
theorem q_ {p:Prop} (h:p:=by
 obtain rfl:k=kz:=af
 go_wp2_with fail;refine⟨⟨k+1,by omega,by go_num,fun j z hj hz=>?_,HB.out,Bk.out⟩,by simp[intOf];omega⟩;by_cases e:j=k
 ·subst e;rw[HXp.out] at hz;obtain rfl:=xh hz;exact⟨HPa.out,HQb.out,fun j2 q2 hj2 hq2=>HQ3.out j2 q2 hj2 hq2⟩
 ·exact HQ.out j z af hz):p:=h
theorem qZ {p:Prop} (h:p:=by
 have HD:=aa hbd;clear hbd;obtain⟨k0,k1,k2,k3,k4,k5⟩:=cs6 Bk;obtain⟨n0,n1,n2,n3,n4,n5,n6⟩:=cs7 Bn;have ltn_1:=ae Bn.out;go_wp2;go_ret;refine aq.f (fun ⟨i,m,e1,e2,e3,e4⟩=>?_) (HB.alloc HB.size _);obtain⟨v,e5,_⟩:=e4 k t HXt.out;exact HD.out v e5):p:=h
theorem qR {p:Prop} (h:p:=by
 obtain rfl:pl=k:=af
 go_wp2;go_ret;exact aq.t ⟨_,n,HX1.out,HN1.out,HC.out,fun j t ht=>HQ.out j t nv ht⟩ HB.out):p:=h
theorem qK {p:Prop} (h:p:=by
 obtain rfl:=xh hz;exact fun j s hs=>HQ2.out j s (by have h1:=(xe.1 hs).1;have h2:=HVL.out;omega) hs):p:=h
theorem qI {p:Prop} (h:p:=by
 by_cases e:j=k
 ·subst e;rw[HXx.out] at hz;obtain rfl:=xh hz;exact HOK.out
 ·exact HQ.out j z af hz):p:=h
theorem lP {p:Prop} (h:p:=by
 have HR:=aa hr;have hl1:c.ns.length=l1:=pR
 have hm1:l1<=9223372036854775807:=xp hr.n.2.1 hr.n.2.2.1;have hl2:c.ks.length=l2:=by simpa using (show (c.ks.map kdF).length=l2 from hr.k.1)
 have hm2:l2<=9223372036854775807:=xp hr.k.2.1 hr.k.2.2.1;have hl3:c.vs.length=l3:=nz
 have hm3:l3<=9223372036854775807:=xp hr.v.2.1 hr.v.2.2.1;have hl4:c.xs.length=l4:=pS
 have hm4:l4<=9223372036854775807:=xp hr.x.2.1 hr.x.2.2.1;have hl5:c.ps.length=l5:=by simpa using (show (c.ps.map pdF).length=l5 from hr.p.1)
 have hm5:l5<=9223372036854775807:=xp hr.p.2.1 hr.p.2.2.1;exact xf HR (xf hl1 (xf hm1 (xf hl2 (xf hm2 (xf hl3 (xf hm3 (xf hl4 (xf hm4 (xf hl5 hm5)))))))))):p:=h
theorem eB {p:Prop} (h:p:=by
 have x0:=fun q:Wd wr=>(q.cell hb).trans c0;have x1:=fun q:Wd wr=>(q.cell hb).trans c1;have x2:=fun q:Wd wr=>(q.cell hb).trans c2;have x3:=fun q:Wd wr=>(q.cell hb).trans c3;have x4:=fun q:Wd wr=>(q.cell hb).trans c4;exact xf x0 (xf x1 (xf x2 (xf x3 x4)))):p:=h
theorem sN {p:Prop} (h:p:=by
 have q0:∀q:Wd wr,q.w.cell? ⟨b,o+kz*6,none⟩=some (.string pq.n):=fun q=>(q.cell (hb')).trans (d0);have q1:∀q:Wd wr,q.w.cell? ⟨b,o+kz*6+1,none⟩=some (.int .i64 pq.c):=fun q=>(q.cell (hb')).trans (d1);have q2:∀q:Wd wr,q.w.cell? ⟨b,o+kz*6+2,none⟩=some (.string pq.z):=fun q=>(q.cell (hb')).trans (d2);have q3:∀q:Wd wr,q.w.cell? ⟨b,o+kz*6+3,none⟩=some (.slice qa ql qc):=fun q=>(q.cell (hb')).trans (d3);have q4:∀q:Wd wr,q.w.cell? ⟨b,o+kz*6+4,none⟩=some (.string pq.d):=fun q=>(q.cell (hb')).trans (d4);have q5:∀q:Wd wr,q.w.cell? ⟨b,o+kz*6+5,none⟩=some (.int .i64 pq.p):=fun q=>(q.cell (hb')).trans (d5);have hne0:=Wd.ne wr;exact xf q0 (xf q1 (xf q2 (xf q3 (xf q4 (xf q5 hne0)))))):p:=h
theorem vx {p:Prop} (h:p:=by
 have Gk:Hid ((wr.alloc (.cells #[.string p.n,.int .i64 p.c,.string p.z,.slice va vl vc,.string p.d,.int .i64 2] 105)).heap[w.heap.size]?=some (.cells (clo6 (some ⟨b1,o1,none⟩) l1 y1 a2 l2 y2 a3 l3 y3 a4 l4 y4 (some ⟨b,o,none⟩) l5 y5 c.now) 36 (0,0))):=(xM _ _ _ (ae Bk.out)).trans (Bk.out);have Gr:Hid ((wr.alloc (.cells #[.string p.n,.int .i64 p.c,.string p.z,.slice va vl vc,.string p.d,.int .i64 2] 105)).heap[wr.heap.size]?=some (.cells #[.string p.n,.int .i64 p.c,.string p.z,.slice va vl vc,.string p.d,.int .i64 2] 105 (0,0))):=xt;have HW:Hid (Below w.heap.size w (wr.alloc (.cells #[.string p.n,.int .i64 p.c,.string p.z,.slice va vl vc,.string p.d,.int .i64 2] 105))):=(HB.trans ((al _ _).mono HB.size));exact xf Gk (xf Gr HW)):p:=h
theorem vv {p:Prop} (h:p:=by
 have nw:=fun q:Wd (wr.alloc (.cells #[.string p.n,.int .i64 p.c,.string p.z,.slice va vl vc,.string p.d,.int .i64 2] 105))=>(q.cell hbnv).trans e5v;have hne0:=Wd.ne (wr.alloc (.cells #[.string p.n,.int .i64 p.c,.string p.z,.slice va vl vc,.string p.d,.int .i64 2] 105));have HC0:=aa (fun q:Wd (wr.alloc (.cells #[.string p.n,.int .i64 p.c,.string p.z,.slice va vl vc,.string p.d,.int .i64 2] 105))=>dZ ⟨(some ⟨b1,o1,none⟩),l1,y1,a2,l2,y2,a3,l3,y3,a4,l4,y4,(some ⟨b,o,none⟩),l5,y5⟩ c.now c.ns p.d q.w (HR.n.below (HW.trans (q.b.mono HW.size))) HNR.out HJn.out HNn.out);exact xf nw (xf hne0 HC0)):p:=h
theorem pY {p:Prop} (h:p:=by
 have HR:=aa hr;have hl1:c.ns.length=l1:=pR
 have hm1:l1<=9223372036854775807:=xp hr.n.2.1 hr.n.2.2.1;have hl3:c.vs.length=l3:=nz
 exact xf HR (xf hl1 (xf hm1 hl3))):p:=h
theorem nI {p:Prop} (h:p:=by
 have Gk:=Bk;have Gv:=Bv;have HW:=HB;have k2:=fun q:Wd q1.w=>q.slot (o:=2) Gk.out rfl;have v0:=fun q:Wd q1.w=>q.slot (o:=0) Gv.out rfl;have v2:=fun q:Wd q1.w=>q.slot (o:=2) Gv.out rfl;have v5:=fun q:Wd q1.w=>q.slot (o:=5) Gv.out rfl;have v6:=fun q:Wd q1.w=>q.slot (o:=6) Gv.out rfl;exact xf Gk (xf Gv (xf HW (xf k2 (xf v0 (xf v2 (xf v5 v6))))))):p:=h
theorem ku {p:Prop} (h:p:=by
 have v1w:=fun q:Wd w2=>(q.cell hbv).trans v1;have v3w:=fun q:Wd w2=>(q.cell hbv).trans v3;have v4w:=fun q:Wd w2=>(q.cell hbv).trans v4;have v5w:=fun q:Wd w2=>(q.cell hbv).trans v5;have hne0:=Wd.ne w2;exact xf v1w (xf v3w (xf v4w (xf v5w hne0)))):p:=h
theorem nH {p:Prop} (h:p:=by
 have HW:=HB;have k1:=fun q:Wd wr=>q.slot (o:=1) Gk.out rfl;have x0:=fun q:Wd wr=>(q.cell hb).trans c0;have x1:=fun q:Wd wr=>(q.cell hb).trans c1;have x2:=fun q:Wd wr=>(q.cell hb).trans c2;have x3:=fun q:Wd wr=>(q.cell hb).trans c3;exact xf HW (xf k1 (xf x0 (xf x1 (xf x2 x3))))):p:=h
theorem qf {p:Prop} (h:p:=by
 have Gk:=Bk;have Gx:=Bx;have Gy:=By;have HW:=HB;have k2:=fun q:Wd q1.w=>q.slot (o:=2) Gk.out rfl;have x3:=fun q:Wd q1.w=>q.slot (o:=3) Gx.out rfl;have y3:=fun q:Wd q1.w=>q.slot (o:=3) Gy.out rfl;have tw:=fun q:Wd q1.w=>(q.cell hbw1).trans hcw1;have vw:=fun q:Wd q1.w=>(q.cell hbv1).trans hcv1;have hne0:=Wd.ne q1.w;exact xf Gk (xf Gx (xf Gy (xf HW (xf k2 (xf x3 (xf y3 (xf tw (xf vw hne0))))))))):p:=h
theorem qe {p:Prop} (h:p:=by
 have hbnv:b1<(wr.alloc (.cells #[.string p.n,.int .i64 p.c,.string p.z,.slice va vl vc,.string p.d,.int .i64 2] 105)).heap.size:=by simp;omega
 have e5v:=(ai (al wr (.cells #[.string p.n,.int .i64 p.c,.string p.z,.slice va vl vc,.string p.d,.int .i64 2] 105)) hbn).trans e5;exact xf hbnv e5v):p:=h
theorem f_ {p:Prop} (h:p:=by
 have x5:=fun q:Wd wr=>(q.cell hb).trans c5;have x6:=fun q:Wd wr=>(q.cell hb).trans c6;exact xf x5 x6):p:=h
theorem ug {p:Prop} (h:p:=by
 have p3:=fun q:Wd wr=>q.slot (o:=3) Gp.out rfl;have n6:=fun q:Wd wr=>q.slot (o:=6) Gn.out rfl;have tw:=fun q:Wd wr=>(q.cell hb).trans hc;have vw:=fun q:Wd wr=>(q.cell hbv).trans v0;have hne0:=Wd.ne wr;have HC0:=aa (fun q:Wd wr=>eu ⟨(some ⟨b1,o1,none⟩),l1,y1,a2,l2,y2,(some ⟨b3,o3,none⟩),l3,y3,a4,l4,y4,a5,l5,y5⟩ c t q.w (HR.below (HW.trans (q.b.mono HW.size))) HX.out HV.out HNE.out HJ.out HDb.out);exact xf p3 (xf n6 (xf tw (xf vw (xf hne0 HC0))))):p:=h
theorem eH {p:Prop} (h:p:=by
 have yw:=fun q:Wd wr=>(q.cell hb).trans y0;have hne0:=Wd.ne wr;exact xf yw hne0):p:=h
theorem uf {p:Prop} (h:p:=by
 have tw:=fun q:Wd q1.w=>(q.cell hb1).trans hc1;have vw:=fun q:Wd q1.w=>(q.cell hbv).trans v2;have nw:=fun q:Wd q1.w=>(q.cell hbn).trans n1;have hne0:=Wd.ne q1.w;have HC0:=aa (fun q:Wd q1.w=>eV ⟨(some ⟨b1,o1,none⟩),l1,y1,a2,l2,y2,(some ⟨b3,o3,none⟩),l3,y3,a4,l4,y4,(some ⟨b,o,none⟩),l5,y5⟩ c.now c.xs t q.w (HR.x.below (HW.trans (q.b.mono HW.size))) HX.out HG1.out HG2.out);exact xf tw (xf vw (xf nw (xf hne0 HC0)))):p:=h
theorem bn {p:Prop} (h:p:=by
 have Gk:=Bk;have Gr:=Br;have HW:=HB;exact xf Gk (xf Gr HW)):p:=h
theorem cn {p:Prop} (h:p:=by
 have HB1:=upB HW q.b;have Ck:=upK Gk q.b;exact xf HB1 Ck):p:=h
theorem cQ {p:Prop} (h:p:=by
 have Ck:=upK Gk q1.b;have Cr:=upK Gr q1.b;exact xf Ck Cr):p:=h
theorem ue {p:Prop} (h:p:=by
 have GK:=aa ((xM wr (.cells (nov n va vl vc) 103) _ (ae Bk.out)).trans Bk.out);have GR:Hid ((wr.alloc (.cells (nov n va vl vc) 103)).heap[wr.heap.size]?=some (.cells (nov n va vl vc) 103 (0,0))):=xt;have HW:=aa (HB.trans ((al wr (.cells (nov n va vl vc) 103)).mono HB.size));exact xf GK (xf GR HW)):p:=h
theorem cX {p:Prop} (h:p:=by
 have HB2:=upB HW q2.b;have Ck:=upK Gk q2.b;exact xf HB2 Ck):p:=h
theorem p8 {p:Prop} (h:p:=by
 have Gk:=Bk;have Gv:=Bv;have HW:=HB;have k0:=fun q:Wd q1.w=>q.slot (o:=0) Gk.out rfl;have v2:=fun q:Wd q1.w=>q.slot (o:=2) Gv.out rfl;have v7:=fun q:Wd q1.w=>q.slot (o:=7) Gv.out rfl;exact xf Gk (xf Gv (xf HW (xf k0 (xf v2 v7))))):p:=h
theorem fZ {p:Prop} (h:p:=by
 have tw:=fun q:Wd wr=>(q.cell hb).trans hc;have hne0:=Wd.ne wr;exact xf tw hne0):p:=h
theorem gM {p:Prop} (h:p:=by
 have tw:=fun q:Wd q1.w=>(q.cell hb1).trans hc1;have hne0:=Wd.ne q1.w;exact xf tw hne0):p:=h
theorem km {p:Prop} (h:p:=by
 have HB2:=upB HW q0.b;have Ck:=upK Gk q0.b;have Cr:=upK Gr q0.b;have CHTp:=aa ((HTp.out).below q0.b);exact xf HB2 (xf Ck (xf Cr CHTp))):p:=h
theorem t_ {p:Prop} (h:p:=by
 have yw:=fun q:Wd w1=>(q.cell hbv).trans hcv;have hne0:=Wd.ne w1;have HC0:=aa (fun q:Wd w1=>d_ ⟨a1,l1,y1,a2,l2,y2,(some ⟨b,o,none⟩),l3,y3,(some ⟨b4,o4,none⟩),l4,y4,a5,l5,y5⟩ c.now c.ks v.k q.w (HR.k.below (HW.trans (q.b.mono HW.size))) HKS.out HG1.out HG2.out);exact xf yw (xf hne0 HC0)):p:=h
theorem tY {p:Prop} (h:p:=by
 have Gk:=Bk;have Gv:=Bv;have HW:=HB;have k0:=fun q:Wd wr=>q.slot (o:=0) Gk.out rfl;have k1:=fun q:Wd wr=>q.slot (o:=1) Gk.out rfl;have k2:=fun q:Wd wr=>q.slot (o:=2) Gk.out rfl;have k3:=fun q:Wd wr=>q.slot (o:=3) Gk.out rfl;have k4:=fun q:Wd wr=>q.slot (o:=4) Gk.out rfl;have k5:=fun q:Wd wr=>q.slot (o:=5) Gk.out rfl;exact xf Gk (xf Gv (xf HW (xf k0 (xf k1 (xf k2 (xf k3 (xf k4 k5)))))))):p:=h
theorem kl {p:Prop} (h:p:=by
 have HB:=aa (BV.trans (HBW.mono BV.size));have Bk:=upK KV HBW.out;exact xf HB Bk):p:=h
theorem dV {p:Prop} (h:p:=by
 have HB1:=upB HW q1.b;have Ck:=upK Gk q1.b;exact xf HB1 Ck):p:=h
theorem tP {p:Prop} (h:p:=by
 have GV:Hid ((wr.alloc (.cells (vov v va vl vc) 62)).heap[wr.heap.size]?=some (.cells (vov v va vl vc) 62 (0,0))):=xt;have BV:=aa (HB.trans ((al wr (.cells (vov v va vl vc) 62)).mono HB.size));exact xf GV BV):p:=h
theorem tO {p:Prop} (h:p:=by
 have hne0:=Wd.ne w1;have HC0:=aa (fun q:Wd w1=>d_ ⟨a1,l1,y1,a2,l2,y2,(some ⟨b,o,none⟩),l3,y3,a4,l4,y4,a5,l5,y5⟩ c.now c.ks v.k q.w (HR.k.below (HW.trans (q.b.mono HW.size))) HKS.out HG1.out HG2.out);exact xf hne0 HC0):p:=h
theorem nD {p:Prop} (h:p:=by
 have hc1:=(q1.cell hb).trans hc;have hb1:=xr hb q1.b.size;have HBW1:=upB HBW q1.b;exact xf hc1 (xf hb1 HBW1)):p:=h
theorem ki {p:Prop} (h:p:=by
 have hd:decide ((0:Int)<k)=false:=by simp;omega
 have Gk:=Bk;exact xf hd Gk):p:=h
theorem tI {p:Prop} (h:p:=by
 have Gk:Hid (wr.heap[w.heap.size]?=some (.cells (clo6 (some ⟨b,o,none⟩) l1 y1 a2 l2 y2 a3 l3 y3 a4 l4 y4 a5 l5 y5 c.now) 36 (0,0))):=Bk.out;have HW:=HB;have k0:=fun q:Wd wr=>q.slot (o:=0) Gk.out rfl;exact xf Gk (xf HW k0)):p:=h
theorem tH {p:Prop} (h:p:=by
 have Gk:Hid (wr.heap[w.heap.size]?=some (.cells (clo6 a1 l1 y1 a2 l2 y2 (some ⟨b,o,none⟩) l3 y3 a4 l4 y4 a5 l5 y5 c.now) 36 (0,0))):=Bk.out;have HW:=HB;have k2:=fun q:Wd wr=>q.slot (o:=2) Gk.out rfl;exact xf Gk (xf HW k2)):p:=h
theorem tG {p:Prop} (h:p:=by
 have Gk:Hid (wr.heap[w.heap.size]?=some (.cells (clo6 a1 l1 y1 a2 l2 y2 a3 l3 y3 (some ⟨b,o,none⟩) l4 y4 a5 l5 y5 c.now) 36 (0,0))):=Bk.out;have HW:=HB;have k3:=fun q:Wd wr=>q.slot (o:=3) Gk.out rfl;exact xf Gk (xf HW k3)):p:=h
theorem tF {p:Prop} (h:p:=by
 have Gk:Hid (wr.heap[w.heap.size]?=some (.cells (clo6 a1 l1 y1 a2 l2 y2 a3 l3 y3 a4 l4 y4 (some ⟨b,o,none⟩) l5 y5 c.now) 36 (0,0))):=Bk.out;have HW:=HB;have k4:=fun q:Wd wr=>q.slot (o:=4) Gk.out rfl;exact xf Gk (xf HW k4)):p:=h
theorem pT {p:Prop} (h:p:=by
 have HR:=aa hr;have hl1:c.ns.length=l1:=pR
 exact xf HR hl1):p:=h
theorem nB {p:Prop} (h:p:=by
 have HG1:=aa g1;have HG2:=aa g2;have hi41:decide ((i4:Int)<0)=false:=aT
 exact xf HG1 (xf HG2 hi41)):p:=h
end Go.Proofs.YtbbdcjbfnjlndaaGreatDoor
namespace Go.Proofs.YtbbdcjbfnjlndaaGreatDoor
open Go.RowKit
namespace Rc
open Mk

theorem bp.inj {c:Cl} {t:ByteArray} {v v':Vd} (hx:aJ Xd.n c.xs) (hv:aJ Vd.n c.vs) (h:bp c t v) (h':bp c t v'):v=v':=by
 obtain⟨i,j,x,e1,e2,e3,e4⟩:=h;obtain⟨i',j',x',f1,f2,f3,f4⟩:=h';obtain⟨_,rfl⟩:=hx.inj e1 f1 (e2.trans f2.symm);exact (hv.inj e3 f3 (e4.trans f4.symm)).2
def vt (c:Cl) (p:Pd):Prop:=∃(i:Nat) (n:Nd),c.ns[i]?=some n/\n.n=p.d/\(p.z=⟨#[]⟩\/p.z=n.z)/\∀(j:Nat) t,p.zs[j]?=some t->∃v,bp c t v/\v.z=n.z
def wv (c:Cl) (p:Pd):Prop:=∃(i:Nat) (n:Nd),c.ns[i]?=some n/\n.n=p.d/\n.d=false/\∀(j:Nat) t,p.zs[j]?=some t->∃v,bp c t v/\InL n.zs v.n
def pb (c:Cl) (n:Nd):Prop:=∀(j:Nat) t,n.zs[j]?=some t->∃(i:Nat) (v:Vd),c.vs[i]?=some v/\v.n=t/\(n.d=true\/InL v.zs n.n)

theorem oK (d:Ad) (c:Cl) (p:Pd) (pa:Option Addr) (pl pc:Nat) (w:World) (hr:aK w d c.raw) (hn:aJ Nd.n c.ns) (hx:aJ Xd.n c.xs) (hv:aJ Vd.n c.vs) (hne:∀(j:Nat) v,c.vs[j]?=some v->¬v.n=⟨#[]⟩) (hp:av w pa pl pc p.zs):
  Calls Tryz.prog 133 #[.agg #[.slice d.a1 d.l1 d.c1,.slice d.a2 d.l2 d.c2,.slice d.a3 d.l3 d.c3,.slice d.a4 d.l4 d.c4,.slice d.a5 d.l5 d.c5,.int .i64 c.now],.agg #[.string p.n,.int .i64 p.c,.string p.z,.slice pa pl pc,.string p.d,.int .i64 p.p]] w (aq (vt c p) w):=by
 have HR:=aa hr;have HN:=aa hn;obtain⟨HX,HV,HNE⟩:=fY;have HP:=aa hp;have hlc:=xp hp.2.1 hp.2.2.1;have hzl:=hp.1;have HB:=aa (xj w.heap.size w);clear hr hn hx hv hne hp;go_enter Tryz.func133,Tryz.ntmps133;go_wp2_with fail;refine (dz d c.now c.ns p.d w _ HR.n (aM _ _ _)).mono ?_;rintro e w1 ⟨hb,hf⟩;obtain⟨HA0,HA1,hbx⟩:=de hb;have Bk:=aa HA0;have Bp:=aa HA1;replace HB:=upB HB hbx;clear hb hbx HA0 HA1;rcases hf with ⟨hh,n,va,vl,vc,hx,hn,rfl,z0,z1,hvr⟩|⟨hh,rfl⟩;rotate_left
 ·exact uK
 have HX1:=aa hx;have HN1:=aa hn;have HT1:=aa hvr;clear hx hn hh z0 z1 hvr;have hz:(p.z=⟨#[]⟩\/p.z=n.z)\/¬(p.z=⟨#[]⟩\/p.z=n.z):=Classical.em _;rcases hz with hz|hz;rotate_left
 ·have q1:=bo (fun e=>hz (.inl e));have q2:=bL (fun e=>hz (.inr e));have HC:=aa hz;clear hz;obtain⟨k0,k1,k2,k3,k4,k5⟩:=cs6 Bk;obtain⟨p0,p1,p2,p3,p4,p5⟩:=cs6 Bp;have ltp_1:=ae Bp.out;go_wp2;go_ret;refine aq.f (fun ⟨i,m,e1,e2,e3,_⟩=>?_) (HB.alloc HB.size _);obtain⟨_,rfl⟩:=HN.inj e1 HX1.out (e2.trans HN1.symm);exact HC.out e3
 have HC:=aa hz;have hq:(p.z.toList.isEmpty=true)\/(p.z.toList.isEmpty=false/\(p.z.toList==n.z.toList)=true):=by
  by_cases e:p.z=⟨#[]⟩
  ·exact .inl (dh e)
  ·exact .inr ⟨bo e,a_ (HC.resolve_left e)⟩
 clear hz;rcases hq with hq|⟨hq,hq2⟩
 ·exact vY
 ·exact vY

theorem se (d:Ad) (c:Cl) (p:Pd) (pa:Option Addr) (pl pc:Nat) (w:World) (hr:aK w d c.raw) (hn:aJ Nd.n c.ns) (hx:aJ Xd.n c.xs) (hv:aJ Vd.n c.vs) (hne:∀(j:Nat) v,c.vs[j]?=some v->¬v.n=⟨#[]⟩) (hp:av w pa pl pc p.zs):
  Calls Tryz.prog 139 #[.agg #[.slice d.a1 d.l1 d.c1,.slice d.a2 d.l2 d.c2,.slice d.a3 d.l3 d.c3,.slice d.a4 d.l4 d.c4,.slice d.a5 d.l5 d.c5,.int .i64 c.now],.agg #[.string p.n,.int .i64 p.c,.string p.z,.slice pa pl pc,.string p.d,.int .i64 p.p]] w (aq (wv c p) w):=by
 have HR:=aa hr;have HN:=aa hn;obtain⟨HX,HV,HNE⟩:=fY;have HP:=aa hp;have hlc:=xp hp.2.1 hp.2.2.1;have hzl:=hp.1;have HB:=aa (xj w.heap.size w);clear hr hn hx hv hne hp;go_enter Tryz.func139,Tryz.ntmps139;go_wp2_with fail;refine (dz d c.now c.ns p.d w _ HR.n (aM _ _ _)).mono ?_;rintro e w1 ⟨hb,hf⟩;obtain⟨HA0,HA1,hbx⟩:=de hb;have Bk:=aa HA0;have Bp:=aa HA1;replace HB:=upB HB hbx;clear hb hbx HA0 HA1;rcases hf with ⟨hh,n,va,vl,vc,hx,hn,rfl,z0,z1,hvr⟩|⟨hh,rfl⟩;rotate_left
 ·exact uK
 have HX1:=aa hx;have HN1:=aa hn;have HT1:=aa hvr;clear hx hn hh z0 z1 hvr;cases hd:n.d;rotate_left
 ·obtain⟨k0,k1,k2,k3,k4,k5⟩:=cs6 Bk;obtain⟨p0,p1,p2,p3,p4,p5⟩:=cs6 Bp;have ltp_1:=ae Bp.out;go_wp2;go_ret;refine aq.f (fun ⟨i,m,e1,e2,e3,_⟩=>?_) (HB.alloc HB.size _);obtain⟨_,rfl⟩:=HN.inj e1 HX1.out (e2.trans HN1.symm);rw[hd] at e3;cases e3
 have HC:=aa hd;clear hd;obtain⟨k0,k1,k2,k3,k4,k5⟩:=cs6 Bk;obtain⟨p0,p1,p2,p3,p4,p5⟩:=cs6 Bp;have ltp_1:=ae Bp.out;go_wp2;go_loopw [27] (fun i wr=> ∃k:Nat,k<=pl/\i=.int .i64 k/\Hid (∀(j:Nat) t,j<k->p.zs[j]?=some t->∃v,bp c t v/\InL n.zs v.n)/\Hid (Below w.heap.size w wr)/\Hid (wr.heap[w.heap.size]?=some (.cells (clv d c.now) 36 (0,0)))/\Hid (wr.heap[w1.heap.size]?=some (.cells #[.string n.n,.string n.z,.int .i64 n.c,.int .i64 n.s,.int .i64 n.u,.bool false,.slice va vl vc] 103 (0,0)))) (fun i _=>pl - (intOf i).toNat);case atStart=>exact⟨0,by omega,rfl,fun _ _ h=>absurd h af,HB.alloc HB.size _,(xM _ _ _ (ae Bk.out)).trans Bk.out,xt⟩
 case round=>
  obtain⟨k,hk,rfl,HQ,HB,Bk,Bn⟩:=hrel;by_cases hlt:k<pl
  ·obtain⟨b,o,t,rfl,hb,hx,hc,hsz⟩:=(HP.below HB.out).at hlt;have HXt:=aa hx;clear hx hsz;obtain⟨k0,k1,k2,k3,k4,k5⟩:=cs6 Bk;obtain⟨n0,n1,n2,n3,n4,n5,n6⟩:=cs7 Bn;go_wp2_with fail;refine (jw d c t w _ HR.out HB.out HX.out HV.out HNE.out).mono ?_;rintro e w2 ⟨hb2,hf⟩;clear k0 k1 k2 k3 k4 k5 n0 n1 n2 n3 n4 n5 n6;replace Bk:=upK Bk hb2;replace Bn:=upK Bn hb2;replace HB:=upB HB hb2;clear hb2;clear hb hc;rcases hf with ⟨v,xa,xl,xc,hbd,rfl,z0,z2,hxr⟩|⟨hbd,rfl⟩;rotate_left
   ·exact qZ
   have HD:=aa hbd;clear hbd hxr z0 z2;obtain⟨k0,k1,k2,k3,k4,k5⟩:=cs6 Bk;obtain⟨n0,n1,n2,n3,n4,n5,n6⟩:=cs7 Bn;have ltn_1:=ae Bn.out;go_wp2_with fail;refine (bE va vl vc n.zs v.n _ (HT1.below (HB.trans ((al _ _).mono HB.size)))).mono ?_;rintro e w3 ⟨r,rfl,hi,hb3⟩;clear k0 k1 k2 k3 k4 k5 n0 n1 n2 n3 n4 n5 n6 ltn_1;obtain⟨HA0,hbx⟩:=aH hb3;replace Bk:=upK Bk hbx;replace Bn:=upK Bn hbx;replace HB:=upB HB hbx;clear hb3 hbx HA0;have HI:=aa hi;clear hi;cases r
   ·go_wp2;go_ret;refine aq.f (fun ⟨i,m,e1,e2,e3,e4⟩=>?_) HB.out;obtain⟨_,rfl⟩:=HN.inj e1 HX1.out (e2.trans HN1.symm);obtain⟨v',e5,e6⟩:=e4 k t HXt.out;obtain rfl:=bp.inj HX.out HV.out HD.out e5;have:=HI.2 e6;cases this
   ·go_wp2_with fail;refine⟨⟨k+1,by omega,by go_num,fun j s hj hs=>?_,HB.out,Bk.out,Bn.out⟩,by simp[intOf];omega⟩;by_cases e:j=k
    ·subst e;rw[HXt.out] at hs;obtain rfl:=xh hs;exact⟨v,HD.out,HI.1 bA⟩
    ·exact HQ.out j s af hs
  ·exact qR

theorem si (d:Ad) (c:Cl) (n:Nd) (pa:Option Addr) (pl pc:Nat) (w:World) (hr:aK w d c.raw) (hv:aJ Vd.n c.vs) (hp:av w pa pl pc n.zs):
  Calls Tryz.prog 138 #[.agg #[.slice d.a1 d.l1 d.c1,.slice d.a2 d.l2 d.c2,.slice d.a3 d.l3 d.c3,.slice d.a4 d.l4 d.c4,.slice d.a5 d.l5 d.c5,.int .i64 c.now],.agg #[.string n.n,.string n.z,.int .i64 n.c,.int .i64 n.s,.int .i64 n.u,.bool n.d,.slice pa pl pc]] w (aq (pb c n) w):=by
 have HR:=aa hr;have HV:=aa hv;have HP:=aa hp;have hlc:=xp hp.2.1 hp.2.2.1;have hzl:=hp.1;clear hr hv hp;go_enter Tryz.func138,Tryz.ntmps138;go_wp2;go_loopw [12] (fun i wr=> ∃k:Nat,k<=pl/\i=.int .i64 k/\Hid (∀(j:Nat) t,j<k->n.zs[j]?=some t->∃(i:Nat) (v:Vd),c.vs[i]?=some v/\v.n=t/\(n.d=true\/InL v.zs n.n))/\Hid (Below w.heap.size w wr)/\Hid (wr.heap[w.heap.size]?=some (.cells (clv d c.now) 36 (0,0)))/\Hid (wr.heap[w.heap.size+1]?=some (.cells (nov n pa pl pc) 103 (0,0)))) (fun i _=>pl - (intOf i).toNat);case atStart=>exact⟨0,by omega,rfl,fun _ _ h=>absurd h af,aM _ _ _,cL _ _ _,bV _ _ _⟩
 case round=>
  obtain⟨k,hk,rfl,HQ,HB,Bk,Bn⟩:=hrel;by_cases hlt:k<pl
  ·obtain⟨b,o,t,rfl,hb,hx,hc,hsz⟩:=(HP.below HB.out).at hlt;have HXt:=aa hx;clear hx hsz;obtain⟨k0,k1,k2,k3,k4,k5⟩:=cs6 Bk;obtain⟨n0,n1,n2,n3,n4,n5,n6⟩:=cs7 Bn;go_wp2_with fail;refine (cD d c.now c.vs t w _ HR.v HB.out).mono ?_;rintro e w2 ⟨hb2,hf⟩;clear k0 k1 k2 k3 k4 k5 n0 n1 n2 n3 n4 n5 n6;replace Bk:=upK Bk hb2;replace Bn:=upK Bn hb2;replace HB:=upB HB hb2;clear hb2;clear hb hc;rcases hf with ⟨hh,v,va,vl,vc,hx,hn,rfl,z0,z2,z3,z5,hvr⟩|⟨hh,rfl⟩;rotate_left
   ·have HH:=aa hh;clear hh;obtain⟨k0,k1,k2,k3,k4,k5⟩:=cs6 Bk;obtain⟨n0,n1,n2,n3,n4,n5,n6⟩:=cs7 Bn;have ltn_1:=ae Bn.out;go_wp2;go_ret;refine aq.f (fun h=>?_) (HB.alloc HB.size _);obtain⟨i,v,e1,e2,_⟩:=h k t HXt.out;have:=(cV HV.out e1 e2).2;rw[HH.out] at this;cases this
   have HXv:=aa hx;have HNv:=aa hn;have HTv:=aa hvr;clear hx hn hh z0 z2 z3 z5 hvr;rcases yB n.d with hd|hd
   ·have HD:=aa hd;clear hd;obtain⟨k0,k1,k2,k3,k4,k5⟩:=cs6 Bk;obtain⟨n0,n1,n2,n3,n4,-,n6⟩:=cs7 Bn;have ltn_1:=ae Bn.out;have n5:=(aD Bn.out 5).trans (congrArg (fun z=>some (Value.bool z)) HD.out);go_wp2_with fail;refine⟨⟨k+1,by omega,by go_num,fun j s hj hs=>?_,(HB.alloc HB.size _),(xM _ _ _ (ae Bk.out)).trans Bk.out,(xM _ _ _ (ae Bn.out)).trans Bn.out⟩,by simp[intOf];omega⟩;by_cases e:j=k
    ·subst e;rw[HXt.out] at hs;obtain rfl:=xh hs;exact⟨_,v,HXv.out,HNv.out,.inl HD.out⟩
    ·exact HQ.out j s af hs
   ·have HD:=aa hd;clear hd;obtain⟨k0,k1,k2,k3,k4,k5⟩:=cs6 Bk;obtain⟨n0,n1,n2,n3,n4,-,n6⟩:=cs7 Bn;have ltn_1:=ae Bn.out;have n5:=(aD Bn.out 5).trans (congrArg (fun z=>some (Value.bool z)) HD.out);go_wp2_with fail;refine (bE va vl vc v.zs n.n _ (HTv.below (HB.trans ((al _ _).mono HB.size)))).mono ?_;rintro e w3 ⟨r,rfl,hi,hb3⟩;clear k0 k1 k2 k3 k4 k5 n0 n1 n2 n3 n4 n6 ltn_1 n5;obtain⟨HA0,hbx⟩:=aH hb3;replace Bk:=upK Bk hbx;replace Bn:=upK Bn hbx;have Bv:=aa HA0;replace HB:=upB HB hbx;clear hb3 hbx HA0;have HI:=aa hi;clear hi;cases r
    ·go_wp2;go_ret;refine aq.f (fun h=>?_) HB.out;obtain⟨i,v',e1,e2,e3⟩:=h k t HXt.out;obtain⟨_,rfl⟩:=HV.inj e1 HXv.out (e2.trans HNv.symm);rcases e3 with e3|e3
     ·rw[HD.out] at e3;cases e3
     ·have:=HI.2 e3;cases this
    ·go_wp2_with fail;refine⟨⟨k+1,by omega,by go_num,fun j s hj hs=>?_,HB.out,Bk.out,Bn.out⟩,by simp[intOf];omega⟩;by_cases e:j=k
     ·subst e;rw[HXt.out] at hs;obtain rfl:=xh hs;exact⟨_,v,HXv.out,HNv.out,.inr (HI.1 bA)⟩
     ·exact HQ.out j s af hs
  ·exact rG

open Classical in
noncomputable def onOf (t:ByteArray):List Vd->Int
 | []=>0
 | v ::vs=>(if InL v.zs t then 1 else 0)+onOf t vs
theorem gh (t:ByteArray):∀vs us:List Vd,onOf t (vs++us)=onOf t vs+onOf t us
 | [],us=>by simp[onOf]
 | v ::vs,us=>by simp[onOf,gh t vs];omega
open Classical in
theorem fM {t:ByteArray} {vs:List Vd} {k:Nat} {v:Vd} (h:vs[k]?=some v):onOf t (vs.take (k+1))=onOf t (vs.take k)+(if InL v.zs t then 1 else 0):=by
 rw[List.take_add_one,h,gh];simp[onOf]

theorem df (d:Ad) (now:Int) (vs:List Vd) (t:ByteArray) (w:World) (hr:aF w d.a3 d.l3 d.c3 8 (vs.map vdF)) (hl:vs.length<=8):
  Calls Tryz.prog 137 #[.agg #[.slice d.a1 d.l1 d.c1,.slice d.a2 d.l2 d.c2,.slice d.a3 d.l3 d.c3,.slice d.a4 d.l4 d.c4,.slice d.a5 d.l5 d.c5,.int .i64 now],.string t] w fun e w'=>e=.returned (.int .i64 (onOf t vs))/\Below w.heap.size w w':=by
 obtain⟨a1,l1,y1,a2,l2,y2,a3,l3,y3,a4,l4,y4,a5,l5,y5⟩:=d;dsimp only at hr ⊢;have HR:=aa hr;have hxl:vs.length=l3:=dA
 clear hr;go_enter Tryz.func137,Tryz.ntmps137;go_wp2;go_loopw [5,11] (fun q i wr=> ∃(k:Nat) (s:Int),k<=l3/\q=.int .i64 s/\i=.int .i64 k/\Hid (s=onOf t (vs.take k))/\0<=s/\s<=k/\Hid (Below w.heap.size w wr)) (fun _ i _=>l3 - (intOf i).toNat);case atStart=>exact⟨0,0,by omega,rfl,rfl,rfl,by omega,by omega,al _ _⟩
 case round=>
  obtain⟨k,s,hk,rfl,rfl,HS,hs0,hs1,HB⟩:=hrel;by_cases hlt:k<l3
  ·obtain⟨b,o,v,rfl,hb,hx,hat⟩:=bq (HR.below HB.out) hlt;obtain⟨va,vl,vc,hvr,z0,z2,z3,z5,c0,c1,c2,c3,c4,c5,c6,c7⟩:=aE hat;have HX:=aa hx;have HT:=aa hvr;clear hat hx z0 z2 z3 z5 hvr;go_wp2_with fail;refine (bE va vl vc v.zs t _ (HT.below (al _ _))).mono ?_;rintro e w1 ⟨r,rfl,hi,hb2⟩;obtain⟨HA0,hbx⟩:=aH hb2;replace HB:=upB HB hbx;clear hb2 hbx HA0;have HI:=aa hi;clear hi hb c0 c1 c2 c3 c4 c5 c6 c7;cases r
   ·go_wp2;refine⟨⟨k+1,s,by omega,rfl,by go_num,?_,by omega,by omega,HB.out⟩,by simp[intOf];omega⟩;exact rm
   ·go_wp2;refine⟨⟨k+1,s+1,by omega,by go_num,by go_num,?_,by omega,by omega,HB.out⟩,by simp[intOf];omega⟩;show _=_;rw[fM HX.out,if_pos (HI.1 bA),<-HS.out]
  ·obtain rfl:l3=k:=af
   exact qo

def PQ1 (c:Cl) (p:Pd):Prop:=(∀(j:Nat) t,p.zs[j]?=some t->hit Xd.n c.xs t=true)/\(p.d=⟨#[]⟩\/vt c p)
def PQ2 (c:Cl) (n:Nd):Prop:=cpuOf n.n c.ps<=n.c
def PQ3 (c:Cl) (v:Vd):Prop:=v.x=true->¬v.m=⟨#[]⟩->og c v.m
def jC (c:Cl):Prop:=(∀(j:Nat) z,c.ps[j]?=some z->PQ1 c z)/\(∀(j:Nat) z,c.ns[j]?=some z->PQ2 c z)/\(∀(j:Nat) z,c.vs[j]?=some z->PQ3 c z)

theorem k9 (d:Ad) (c:Cl) (w:World) (hr:aK w d c.raw) (hn:aJ Nd.n c.ns) (hx:aJ Xd.n c.xs) (hv:aJ Vd.n c.vs) (hne:∀(j:Nat) v,c.vs[j]?=some v->¬v.n=⟨#[]⟩) (hps8:c.ps.length<=8) (hpc:∀(j:Nat) p,c.ps[j]?=some p->0<=p.c/\p.c<=1000000) (hG:ens w):
  Calls Tryz.prog 80 #[.agg #[.slice d.a1 d.l1 d.c1,.slice d.a2 d.l2 d.c2,.slice d.a3 d.l3 d.c3,.slice d.a4 d.l4 d.c4,.slice d.a5 d.l5 d.c5,.int .i64 c.now]] w (aq (jC c) w):=by
 obtain⟨a1,l1,y1,a2,l2,y2,a3,l3,y3,a4,l4,y4,a5,l5,y5⟩:=d;dsimp only;obtain⟨HR,hl1,hm1,hl3⟩:=pY;have hm3:l3<=9223372036854775807:=xp hr.v.2.1 hr.v.2.2.1;obtain⟨hl5,hm5⟩:=iD;clear hr;have HE:=aa hG;have HNR:=aa hn;have HXR:=aa hx;have HVR:=aa hv;have HNE:=aa hne;have HL5:=aa hps8;have HPC:=aa hpc;clear hn hx hv hne hps8 hpc hG;go_enter Tryz.func80,Tryz.ntmps80;go_wp2;go_loopw [12] (fun i wr=> ∃k:Nat,k<=l5/\i=.int .i64 k/\Hid (∀(j:Nat) z,j<k->c.ps[j]?=some z->PQ1 c z)/\Hid (Below w.heap.size w wr)/\Hid (wr.heap[w.heap.size]?=some (.cells (clo6 a1 l1 y1 a2 l2 y2 a3 l3 y3 a4 l4 y4 a5 l5 y5 c.now) 36 (0,0)))) (fun i _=>l5 - (intOf i).toNat);case atStart=>exact⟨0,by omega,rfl,fun _ _ h=>absurd h af,al _ _,xt⟩
 case round=>
  obtain⟨k,hk,rfl,HQ,HB,Bk⟩:=hrel;by_cases hlt:k<l5
  ·obtain⟨b,o,p,rfl,hb,hx,hat⟩:=cj (HR.p.below HB.out) hlt;obtain⟨va,vl,vc,hvr,z0,z2,z4,c0,c1,c2,c3,c4,c5⟩:=aS hat;have HXp:=aa hx;have HTp:=aa hvr;clear hat hx z0 z2 z4 hvr;obtain⟨k0,k1,k2,k3,k4,k5⟩:=cs6 Bk;have ltk_0:=ae Bk.out;go_wp2_with fail;refine (h_ ⟨a1,l1,y1,a2,l2,y2,a3,l3,y3,a4,l4,y4,(some ⟨b,o,none⟩),l5,y5⟩ c.now c.xs va vl vc p.zs _ (HR.x.below (HB.trans ((al _ _).mono HB.size))) (HTp.below (al _ _)) (HE.below (HB.trans ((al _ _).mono HB.size)))).mono ?_;rintro e w1 ⟨hb2,hf⟩;clear k0 k1 k2 k3 k4 k5 ltk_0;obtain⟨HA0,hbx⟩:=aH hb2;replace Bk:=upK Bk hbx;have Br:=aa HA0;replace HTp:=aa (HTp.below hbx);replace HB:=upB HB hbx;clear hb2 hbx HA0;clear hb c0 c1 c2 c3 c4 c5;rcases hf with ⟨hh,rfl⟩|⟨hh,T,q,rfl⟩;rotate_left
   ·have HH:=aa hh;clear hh;obtain⟨k0,k1,k2,k3,k4,k5⟩:=cs6 Bk;obtain⟨r0,r1,r2,r3,r4,r5⟩:=cs6 Br;go_wp2;go_ret;exact aq.f (fun h=>HH.out (h.1 k p HXp.out).1) HB.out
   have HH:=aa hh;clear hh;by_cases he:p.d=⟨#[]⟩
   ·have hq:=dh he;have HEm:=aa he;clear he;obtain⟨k0,k1,k2,k3,k4,k5⟩:=cs6 Bk;obtain⟨r0,r1,r2,r3,r4,r5⟩:=cs6 Br;go_wp2_with fail;refine⟨⟨k+1,by omega,by go_num,fun j z hj hz=>?_,HB.out,Bk.out⟩,by simp[intOf];omega⟩;by_cases e:j=k
    ·subst e;rw[HXp.out] at hz;exact lV
    ·exact HQ.out j z af hz
   ·have hq:=bo he;have HEm:=aa he;clear he;obtain⟨k0,k1,k2,k3,k4,k5⟩:=cs6 Bk;obtain⟨r0,r1,r2,r3,r4,r5⟩:=cs6 Br;go_wp2_with fail;refine (oK ⟨a1,l1,y1,a2,l2,y2,a3,l3,y3,a4,l4,y4,(some ⟨b,o,none⟩),l5,y5⟩ c p va vl vc _ (HR.below HB.out) HNR.out HXR.out HVR.out HNE.out HTp.out).mono ?_;rintro e w2 ⟨r,rfl,hi,hb3⟩;clear k0 k1 k2 k3 k4 k5 r0 r1 r2 r3 r4 r5;replace Bk:=upK Bk hb3;replace Br:=upK Br hb3;replace HTp:=aa (HTp.below hb3);replace HB:=upB HB hb3;clear hb3;have HI:=aa hi;clear hi;cases r
    ·go_wp2;go_ret;refine aq.f (fun h=>?_) HB.out;rcases (h.1 k p HXp.out).2 with h2|h2
     ·exact HEm.out h2
     ·have:=HI.2 h2;cases this
    ·go_wp2_with fail;refine⟨⟨k+1,by omega,by go_num,fun j z hj hz=>?_,HB.out,Bk.out⟩,by simp[intOf];omega⟩;by_cases e:j=k
     ·subst e;rw[HXp.out] at hz;exact lZ
     ·exact HQ.out j z af hz
  ·obtain rfl:l5=k:=af
   have HQ1:Hid (∀(j:Nat) z,c.ps[j]?=some z->PQ1 c z):=fun j z hz=>HQ.out j z ch hz;clear HQ;have kc:=ck0 Bk;go_wp2;go_loopw [36] (fun i wr=> ∃k:Nat,k<=l1/\i=.int .i64 k/\Hid (∀(j:Nat) z,j<k->c.ns[j]?=some z->PQ2 c z)/\Hid (Below w.heap.size w wr)/\Hid (wr.heap[w.heap.size]?=some (.cells (clo6 a1 l1 y1 a2 l2 y2 a3 l3 y3 a4 l4 y4 a5 l5 y5 c.now) 36 (0,0)))) (fun i _=>l1 - (intOf i).toNat);case atStart=>exact⟨0,by omega,rfl,fun _ _ h=>absurd h af,HB.out,Bk.out⟩
   case round=>
    obtain⟨k,hk,rfl,HQ,HB,Bk⟩:=hrel;by_cases hlt:k<l1
    ·obtain⟨b,o,n,rfl,hb,hx,hat⟩:=bU (HR.n.below HB.out) hlt;obtain⟨va,vl,vc,hvr,z0,z1,c0,c1,c2,c3,c4,c5,c6⟩:=aQ hat;have HXn:=aa hx;clear hat hx z0 z1 hvr;obtain⟨GK,GR,HW⟩:=ue;obtain⟨k0,k1,k2,k3,k4,k5⟩:=sl6 GK;obtain⟨r0,r1,r2,r3,r4,r5⟩:=sl6 GR;have hne0:=Wd.ne (wr.alloc (.cells (nov n va vl vc) 103));have HC:=aa (fun q:Wd (wr.alloc (.cells (nov n va vl vc) 103))=>jk ⟨(some ⟨b,o,none⟩),l1,y1,a2,l2,y2,a3,l3,y3,a4,l4,y4,a5,l5,y5⟩ c.now c.ps n.n q.w (HR.p.below (HW.trans (q.b.mono HW.size))) HL5.out HPC.out);go_wp2_with fail;refine ag an an ?_;repeat (go_big_quiet_step (first|(go_at_call 134;exact Calls.wide (HC.out _))|fail))
     refine wpQuiet_nil ?_;rintro _ ⟨q,rfl⟩;have HB2:=upB HW q.b;have Bk2:=upK GK q.b;clear HC hne0 k0 k1 k2 k3 k4 k5 r0 r1 r2 r3 r4 r5 c0 c1 c2 c3 c4 c5 c6 hb HB Bk HW GK GR;have HB:=HB2;have Bk:=Bk2;clear HB2 Bk2;by_cases hq:cpuOf n.n c.ps<=n.c
     ·exact uD
     ·have HQ2:=aa hq;go_wp2;go_ret;exact aq.f (fun h=>by have h1:cpuOf n.n c.ps<=n.c:=(h.2.1 k n HXn.out);have h2:=HQ2.out;omega) HB.out
    ·obtain rfl:l1=k:=af
     have HQ2:Hid (∀(j:Nat) z,c.ns[j]?=some z->PQ2 c z):=fun j z hz=>HQ.out j z ch hz;clear HQ;have kc:=ck2 Bk;go_wp2;go_loopw [51] (fun i wr=> ∃k:Nat,k<=l3/\i=.int .i64 k/\Hid (∀(j:Nat) z,j<k->c.vs[j]?=some z->PQ3 c z)/\Hid (Below w.heap.size w wr)/\Hid (wr.heap[w.heap.size]?=some (.cells (clo6 a1 l1 y1 a2 l2 y2 a3 l3 y3 a4 l4 y4 a5 l5 y5 c.now) 36 (0,0)))) (fun i _=>l3 - (intOf i).toNat);case atStart=>exact⟨0,by omega,rfl,fun _ _ h=>absurd h af,HB.out,Bk.out⟩
     case round=>
      obtain⟨k,hk,rfl,HQ,HB,Bk⟩:=hrel;by_cases hlt:k<l3
      ·obtain⟨b,o,v,rfl,hb,hx,hat⟩:=bq (HR.v.below HB.out) hlt;obtain⟨va,vl,vc,hvr,z0,z2,z3,z5,c0,c1,c2,c3,c4,c5,c6,c7⟩:=aE hat;have HXv:=aa hx;clear hat hx z0 z2 z3 z5 hvr;have hcase:(v.x=false\/v.m=⟨#[]⟩)\/(v.x=true/\¬v.m=⟨#[]⟩):=by
        rcases yB v.x with h|h
        ·by_cases e:v.m=⟨#[]⟩
         ·exact .inl (.inr e)
         ·exact .inr ⟨h,e⟩
        ·exact .inl (.inl h)
       rcases hcase with hcase|⟨hs,he⟩
       ·have HCs:=aa hcase;rcases hcase with hs|he
        ·exact qD
        ·have hq:=dh he;clear he;rcases yB v.x with hs|hs
         ·exact qD
         ·exact qD
       ·have hq:=bo he;have HEm:=aa he;have HSi:=aa hs;rw[hs] at c4;clear he hs;obtain⟨k0,k1,k2,k3,k4,k5⟩:=cs6 Bk;have ltk_0:=ae Bk.out;go_wp2_with fail;refine (sg ⟨a1,l1,y1,a2,l2,y2,(some ⟨b,o,none⟩),l3,y3,a4,l4,y4,a5,l5,y5⟩ c v.m _ (HR.below (HB.trans ((al _ _).mono HB.size)))).mono ?_;rintro e w2 ⟨r,rfl,hi,hb3⟩;clear k0 k1 k2 k3 k4 k5 ltk_0;obtain⟨HA0,hbx⟩:=aH hb3;replace Bk:=upK Bk hbx;have Br:=aa HA0;replace HB:=upB HB hbx;clear hb3 hbx HA0;have HI:=aa hi;clear hi hb c0 c1 c2 c3 c4 c5 c6 c7;cases r
        ·go_wp2;go_ret;exact aq.f (fun h=>by have:=HI.2 ((h.2.2 k v HXv.out) HSi.out HEm.out);cases this) HB.out
        ·go_wp2_with fail;refine⟨⟨k+1,by omega,by go_num,fun j z hj hz=>?_,HB.out,Bk.out⟩,by simp[intOf];omega⟩;by_cases e:j=k
         ·subst e;rw[HXv.out] at hz;obtain rfl:=xh hz;exact fun _ _=>HI.1 bA
         ·exact HQ.out j z af hz
      ·obtain rfl:l3=k:=af
       have HQ3:Hid (∀(j:Nat) z,c.vs[j]?=some z->PQ3 c z):=fun j z hz=>HQ.out j z ch hz;clear HQ;go_wp2;go_ret;exact aq.t ⟨HQ1.out,HQ2.out,HQ3.out⟩ HB.out

def AQ1 (c:Cl) (v:Vd):Prop:=∀(j:Nat) t,v.zs[j]?=some t->∃(i:Nat) (n:Nd),c.ns[i]?=some n/\n.n=t/\n.z=v.z
def AQ2 (c:Cl) (n:Nd):Prop:=onOf n.n c.vs<=n.s
def iU (c:Cl):Prop:=(∀(j:Nat) z,c.vs[j]?=some z->AQ1 c z)/\(∀(j:Nat) z,c.ns[j]?=some z->AQ2 c z)

theorem il (d:Ad) (c:Cl) (w:World) (hr:aK w d c.raw) (hn:aJ Nd.n c.ns) (hvs8:c.vs.length<=8):
  Calls Tryz.prog 81 #[.agg #[.slice d.a1 d.l1 d.c1,.slice d.a2 d.l2 d.c2,.slice d.a3 d.l3 d.c3,.slice d.a4 d.l4 d.c4,.slice d.a5 d.l5 d.c5,.int .i64 c.now]] w (aq (iU c) w):=by
 obtain⟨a1,l1,y1,a2,l2,y2,a3,l3,y3,a4,l4,y4,a5,l5,y5⟩:=d;dsimp only;obtain⟨HR,hl1,hm1,hl3⟩:=pY;have hm3:l3<=9223372036854775807:=xp hr.v.2.1 hr.v.2.2.1;clear hr;have HNR:=aa hn;have HL3:=aa hvs8;clear hn hvs8;go_enter Tryz.func81,Tryz.ntmps81;go_wp2;go_loopw [14] (fun i wr=> ∃k:Nat,k<=l3/\i=.int .i64 k/\Hid (∀(j:Nat) z,j<k->c.vs[j]?=some z->AQ1 c z)/\Hid (Below w.heap.size w wr)/\Hid (wr.heap[w.heap.size]?=some (.cells (clo6 a1 l1 y1 a2 l2 y2 a3 l3 y3 a4 l4 y4 a5 l5 y5 c.now) 36 (0,0)))) (fun i _=>l3 - (intOf i).toNat);case atStart=>exact⟨0,by omega,rfl,fun _ _ h=>absurd h af,al _ _,xt⟩
 case round=>
  obtain⟨k,hk,rfl,HQ,HB,Bk⟩:=hrel;by_cases hlt:k<l3
  ·obtain⟨b,o,v,rfl,hb,hx,hat⟩:=bq (HR.v.below HB.out) hlt;obtain⟨va,vl,vc,hvr,z0,z2,z3,z5,c0,c1,c2,c3,c4,c5,c6,c7⟩:=aE hat;have HXv:=aa hx;have HTv:=aa hvr;clear hat hx z0 z2 z3 z5 hvr;have hvl:=HTv.1;have hvc:=xp HTv.2.1 HTv.2.2.1;have HVL:=aa hvl;clear hvl;have KV:=aa ((xM wr (.cells (vov v va vl vc) 62) _ (ae Bk.out)).trans Bk.out);obtain⟨GV,BV⟩:=tP;have TV:=aa (HTv.below (al wr (.cells (vov v va vl vc) 62)));obtain⟨W,hW⟩:∃W,W=wr.alloc (.cells (vov v va vl vc) 62):=⟨_,rfl⟩;obtain⟨gb,hgb⟩:∃gb,gb=wr.heap.size:=⟨_,rfl⟩;rw[<-hW] at KV GV BV TV;rw[<-hgb] at GV;go_wp2;rw[<-hW,<-hgb];clear hW hgb HB Bk HTv c0 c1 c2 c3 c4 c5 c6 c7 hb;go_loopw [21] (fun i wr=> ∃kq:Nat,kq<=vl/\i=.int .i64 kq/\Hid (∀(j:Nat) t,j<kq->v.zs[j]?=some t->∃(i:Nat) (n:Nd),c.ns[i]?=some n/\n.n=t/\n.z=v.z)/\Hid (Below W.heap.size W wr)) (fun i _=>vl - (intOf i).toNat);case atStart=>exact⟨0,by omega,rfl,fun _ _ h=>absurd h af,xj _ _⟩
   case round=>
    obtain⟨kq,hkq,rfl,HQ2,HBW⟩:=hrel;obtain⟨HB,Bk⟩:=kl;have Bv:=upK GV HBW.out;by_cases hlt2:kq<vl
    ·obtain⟨b2,o2,t,rfl,hb,hx,hc,hsz⟩:=(TV.below HBW.out).at hlt2;have HXt:=aa hx;clear hx hsz;obtain⟨k0,k1,k2,k3,k4,k5⟩:=cs6 Bk;obtain⟨v0,v1,v2,v3,v4,v5,v6,v7⟩:=cs8 Bv;go_wp2_with fail;refine (dz ⟨a1,l1,y1,a2,l2,y2,(some ⟨b,o,none⟩),l3,y3,a4,l4,y4,a5,l5,y5⟩ c.now c.ns t w _ HR.n HB.out).mono ?_;rintro e w1 ⟨hb2,hf⟩;have HBW1:=upB HBW hb2;clear k0 k1 k2 k3 k4 k5 v0 v1 v2 v3 v4 v5 v6 v7;replace Bk:=upK Bk hb2;replace Bv:=upK Bv hb2;replace HB:=upB HB hb2;clear hb2;clear hb hc;rcases hf with ⟨hh,m,ma,ml,mc,hx,hn,rfl,z0,z1,hmr⟩|⟨hh,rfl⟩;rotate_left
     ·have HH:=aa hh;clear hh;obtain⟨k0,k1,k2,k3,k4,k5⟩:=cs6 Bk;obtain⟨v0,v1,v2,v3,v4,v5,v6,v7⟩:=cs8 Bv;have ltv_1:=ae Bv.out;go_wp2;go_ret;refine aq.f (fun h=>?_) (HB.alloc HB.size _);obtain⟨i,m,e1,e2,_⟩:=(h.1 k v HXv.out) kq t HXt.out;have:=(cV HNR.out e1 e2).2;rw[HH.out] at this;cases this
     have HXm:=aa hx;have HNm:=aa hn;clear hx hn hh z0 z1 hmr;by_cases hz:m.z=v.z
     ·have q1:=a_ hz;have HZ:=aa hz;clear hz;obtain⟨k0,k1,k2,k3,k4,k5⟩:=cs6 Bk;obtain⟨v0,v1,v2,v3,v4,v5,v6,v7⟩:=cs8 Bv;have ltv_1:=ae Bv.out;go_wp2_with fail;refine⟨⟨kq+1,by omega,by go_num,fun j s hj hs=>?_,HBW1.alloc HBW1.size _⟩,by simp[intOf];omega⟩;by_cases e:j=kq
      ·subst e;rw[HXt.out] at hs;obtain rfl:=xh hs;exact⟨_,m,HXm.out,HNm.out,HZ.out⟩
      ·exact HQ2.out j s af hs
     ·have q1:=bL hz;have HZ:=aa hz;clear hz;obtain⟨k0,k1,k2,k3,k4,k5⟩:=cs6 Bk;obtain⟨v0,v1,v2,v3,v4,v5,v6,v7⟩:=cs8 Bv;have ltv_1:=ae Bv.out;go_wp2;go_ret;refine aq.f (fun h=>?_) (HB.alloc HB.size _);obtain⟨i,m2,e1,e2,e3⟩:=(h.1 k v HXv.out) kq t HXt.out;obtain⟨_,rfl⟩:=HNR.inj e1 HXm.out (e2.trans HNm.symm);exact HZ.out e3
    ·exact uT
  ·obtain rfl:l3=k:=af
   have HQ1:Hid (∀(j:Nat) z,c.vs[j]?=some z->AQ1 c z):=fun j z hz=>HQ.out j z ch hz;clear HQ;have kc:=ck0 Bk;go_wp2;go_loopw [45] (fun i wr=> ∃k:Nat,k<=l1/\i=.int .i64 k/\Hid (∀(j:Nat) z,j<k->c.ns[j]?=some z->AQ2 c z)/\Hid (Below w.heap.size w wr)/\Hid (wr.heap[w.heap.size]?=some (.cells (clo6 a1 l1 y1 a2 l2 y2 a3 l3 y3 a4 l4 y4 a5 l5 y5 c.now) 36 (0,0)))) (fun i _=>l1 - (intOf i).toNat);case atStart=>exact⟨0,by omega,rfl,fun _ _ h=>absurd h af,HB.out,Bk.out⟩
   case round=>
    obtain⟨k,hk,rfl,HQ,HB,Bk⟩:=hrel;by_cases hlt:k<l1
    ·obtain⟨b,o,n,rfl,hb,hx,hat⟩:=bU (HR.n.below HB.out) hlt;obtain⟨va,vl,vc,hvr,z0,z1,c0,c1,c2,c3,c4,c5,c6⟩:=aQ hat;have HXn:=aa hx;clear hat hx z0 z1 hvr;obtain⟨GK,GR,HW⟩:=ue;obtain⟨k0,k1,k2,k3,k4,k5⟩:=sl6 GK;have r0:=fun q:Wd (wr.alloc (.cells (nov n va vl vc) 103))=>q.slot (o:=0) GR.out rfl;have r3:=fun q:Wd (wr.alloc (.cells (nov n va vl vc) 103))=>q.slot (o:=3) GR.out rfl;have hne0:=Wd.ne (wr.alloc (.cells (nov n va vl vc) 103));have HC:=aa (fun q:Wd (wr.alloc (.cells (nov n va vl vc) 103))=>df ⟨(some ⟨b,o,none⟩),l1,y1,a2,l2,y2,a3,l3,y3,a4,l4,y4,a5,l5,y5⟩ c.now c.vs n.n q.w (HR.v.below (HW.trans (q.b.mono HW.size))) HL3.out);go_wp2_with fail;refine ag an an ?_;repeat (go_big_quiet_step (first|(go_at_call 137;exact Calls.wide (HC.out _))|fail))
     refine wpQuiet_nil ?_;rintro _ ⟨q,rfl⟩;have HB2:=upB HW q.b;have Bk2:=upK GK q.b;clear HC hne0 k0 k1 k2 k3 k4 k5 r0 r3 c0 c1 c2 c3 c4 c5 c6 hb HB Bk HW GK GR;have HB:=HB2;have Bk:=Bk2;clear HB2 Bk2;by_cases hq:onOf n.n c.vs<=n.s
     ·exact uD
     ·have HQ2:=aa hq;go_wp2;go_ret;exact aq.f (fun h=>by have h1:onOf n.n c.vs<=n.s:=(h.2 k n HXn.out);have h2:=HQ2.out;omega) HB.out
    ·obtain rfl:l1=k:=af
     have HQ2:Hid (∀(j:Nat) z,c.ns[j]?=some z->AQ2 c z):=fun j z hz=>HQ.out j z ch hz;exact je

def MQ2 (c:Cl) (p:Pd):Prop:=p.p=2->wv c p
def ib (c:Cl):Prop:=(∀(j:Nat) z,c.ns[j]?=some z->pb c z)/\(∀(j:Nat) z,c.ps[j]?=some z->MQ2 c z)

theorem jt (d:Ad) (c:Cl) (w:World) (hr:aK w d c.raw) (hn:aJ Nd.n c.ns) (hx:aJ Xd.n c.xs) (hv:aJ Vd.n c.vs) (hne:∀(j:Nat) v,c.vs[j]?=some v->¬v.n=⟨#[]⟩):
  Calls Tryz.prog 82 #[.agg #[.slice d.a1 d.l1 d.c1,.slice d.a2 d.l2 d.c2,.slice d.a3 d.l3 d.c3,.slice d.a4 d.l4 d.c4,.slice d.a5 d.l5 d.c5,.int .i64 c.now]] w (aq (ib c) w):=by
 obtain⟨a1,l1,y1,a2,l2,y2,a3,l3,y3,a4,l4,y4,a5,l5,y5⟩:=d;dsimp only;obtain⟨HR,hl1⟩:=pT;have hm1:l1<=9223372036854775807:=xp hr.n.2.1 hr.n.2.2.1;obtain⟨hl5,hm5⟩:=iD;clear hr;have HNR:=aa hn;have HXR:=aa hx;have HVR:=aa hv;have HNE:=aa hne;clear hn hx hv hne;go_enter Tryz.func82,Tryz.ntmps82;go_wp2;go_loopw [10] (fun i wr=> ∃k:Nat,k<=l1/\i=.int .i64 k/\Hid (∀(j:Nat) z,j<k->c.ns[j]?=some z->pb c z)/\Hid (Below w.heap.size w wr)/\Hid (wr.heap[w.heap.size]?=some (.cells (clo6 a1 l1 y1 a2 l2 y2 a3 l3 y3 a4 l4 y4 a5 l5 y5 c.now) 36 (0,0)))) (fun i _=>l1 - (intOf i).toNat);case atStart=>exact⟨0,by omega,rfl,fun _ _ h=>absurd h af,al _ _,xt⟩
 case round=>
  obtain⟨k,hk,rfl,HQ,HB,Bk⟩:=hrel;by_cases hlt:k<l1
  ·obtain⟨b,o,n,rfl,hb,hx,hat⟩:=bU (HR.n.below HB.out) hlt;obtain⟨va,vl,vc,hvr,z0,z1,c0,c1,c2,c3,c4,c5,c6⟩:=aQ hat;have HXn:=aa hx;have HTn:=aa hvr;clear hat hx z0 z1 hvr;obtain⟨k0,k1,k2,k3,k4,k5⟩:=cs6 Bk;have ltk_0:=ae Bk.out;go_wp2_with fail;refine (si ⟨(some ⟨b,o,none⟩),l1,y1,a2,l2,y2,a3,l3,y3,a4,l4,y4,a5,l5,y5⟩ c n va vl vc _ (HR.below (HB.trans ((al _ _).mono HB.size))) HVR.out (HTn.below (al _ _))).mono ?_;rintro e w2 ⟨r,rfl,hi,hb3⟩;clear k0 k1 k2 k3 k4 k5 ltk_0;obtain⟨HA0,hbx⟩:=aH hb3;replace Bk:=upK Bk hbx;replace HB:=upB HB hbx;clear hb3 hbx HA0;have HI:=aa hi;clear hi hb c0 c1 c2 c3 c4 c5 c6;cases r
   ·go_wp2;go_ret;exact aq.f (fun h=>by have:=HI.2 (h.1 k n HXn.out);cases this) HB.out
   ·go_wp2_with fail;refine⟨⟨k+1,by omega,by go_num,fun j z hj hz=>?_,HB.out,Bk.out⟩,by simp[intOf];omega⟩;by_cases e:j=k
    ·subst e;rw[HXn.out] at hz;obtain rfl:=xh hz;exact HI.1 bA
    ·exact HQ.out j z af hz
  ·obtain rfl:l1=k:=af
   have HQ1:Hid (∀(j:Nat) z,c.ns[j]?=some z->pb c z):=fun j z hz=>HQ.out j z ch hz;clear HQ;have kc:=ck4 Bk;go_wp2;go_loopw [22] (fun i wr=> ∃k:Nat,k<=l5/\i=.int .i64 k/\Hid (∀(j:Nat) z,j<k->c.ps[j]?=some z->MQ2 c z)/\Hid (Below w.heap.size w wr)/\Hid (wr.heap[w.heap.size]?=some (.cells (clo6 a1 l1 y1 a2 l2 y2 a3 l3 y3 a4 l4 y4 a5 l5 y5 c.now) 36 (0,0)))) (fun i _=>l5 - (intOf i).toNat);case atStart=>exact⟨0,by omega,rfl,fun _ _ h=>absurd h af,HB.out,Bk.out⟩
   case round=>
    obtain⟨k,hk,rfl,HQ,HB,Bk⟩:=hrel;by_cases hlt:k<l5
    ·obtain⟨b,o,p,rfl,hb,hx,hat⟩:=cj (HR.p.below HB.out) hlt;obtain⟨va,vl,vc,hvr,z0,z2,z4,c0,c1,c2,c3,c4,c5⟩:=aS hat;have HXp:=aa hx;have HTp:=aa hvr;clear hat hx z0 z2 z4 hvr;by_cases hp2:p.p=2;rotate_left
     ·have HP2:=aa hp2;obtain⟨k0,k1,k2,k3,k4,k5⟩:=cs6 Bk;have ltk_0:=ae Bk.out;go_wp2;refine⟨⟨k+1,by omega,by go_num,fun j z hj hz=>?_,(HB.alloc HB.size _),(xM _ _ _ (ae Bk.out)).trans Bk.out⟩,by simp[intOf];omega⟩;exact rF
     have HP2:=aa hp2;rw[hp2] at c5;clear hp2;obtain⟨k0,k1,k2,k3,k4,k5⟩:=cs6 Bk;have ltk_0:=ae Bk.out;go_wp2_with fail;have HCall:=aa (se ⟨a1,l1,y1,a2,l2,y2,a3,l3,y3,a4,l4,y4,(some ⟨b,o,none⟩),l5,y5⟩ c p va vl vc (wr.alloc (.cells #[.string p.n,.int .i64 p.c,.string p.z,.slice va vl vc,.string p.d,.int .i64 2] 105)) (HR.below (HB.trans ((al _ _).mono HB.size))) HNR.out HXR.out HVR.out HNE.out (HTp.below (al _ _)));rw[HP2.out] at HCall;refine (HCall.out).mono ?_;rintro e w2 ⟨r,rfl,hi,hb3⟩;clear k0 k1 k2 k3 k4 k5 ltk_0;obtain⟨HA0,hbx⟩:=aH hb3;replace Bk:=upK Bk hbx;replace HB:=upB HB hbx;clear hb3 hbx HA0;have HI:=aa hi;clear hi hb HCall c0 c1 c2 c3 c4 c5;cases r
     ·go_wp2;go_ret;exact aq.f (fun h=>by have:=HI.2 ((h.2 k p HXp.out) HP2.out);cases this) HB.out
     ·go_wp2_with fail;refine⟨⟨k+1,by omega,by go_num,fun j z hj hz=>?_,HB.out,Bk.out⟩,by simp[intOf];omega⟩;by_cases e:j=k
      ·subst e;rw[HXp.out] at hz;obtain rfl:=xh hz;exact fun _=>HI.1 bA
      ·exact HQ.out j z af hz
    ·obtain rfl:l5=k:=af
     have HQ2:Hid (∀(j:Nat) z,c.ps[j]?=some z->MQ2 c z):=fun j z hz=>HQ.out j z ch hz;exact je

def dy (c:Cl):Prop:=dm mg Nd.n c.ns 6/\dm mu Kd.n c.ks 8/\dm lA Vd.n c.vs 8/\dm lu Xd.n c.xs 8/\dm l_ Pd.n c.ps 8
def a8 (c:Cl):Prop:=Inn c.now 0 1000000/\dy c/\mY c/\jC c/\iU c/\ib c

theorem oL (d:Ad) (c:Cl) (w:World) (hr:aK w d c.raw):
  Calls Tryz.prog 78 #[.agg #[.slice d.a1 d.l1 d.c1,.slice d.a2 d.l2 d.c2,.slice d.a3 d.l3 d.c3,.slice d.a4 d.l4 d.c4,.slice d.a5 d.l5 d.c5,.int .i64 c.now]] w (aq (dy c) w):=by
 obtain⟨HR,HB⟩:=gL;clear hr;go_enter Tryz.func78,Tryz.ntmps78;go_wp2_with fail;refine (lN _ _ _ c.ns 6 _ (HR.n.below (HB.trans ((al _ _).mono HB.size)))).mono ?_;rintro e w1 ⟨r,rfl,hi,hb⟩;obtain⟨HA0,hbx⟩:=aH hb;have Bk:=aa HA0;replace HB:=upB HB hbx;clear hb hbx HA0;have HI1:=aa hi;clear hi;cases r
 ·exact qj
 obtain⟨k0,k1,k2,k3,k4,k5⟩:=cs6 Bk;go_wp2_with fail;refine (lO _ _ _ c.ks 8 _ (HR.k.below HB.out)).mono ?_;rintro e w2 ⟨r,rfl,hi,hb⟩;clear k0 k1 k2 k3 k4 k5;replace Bk:=upK Bk hb;replace HB:=upB HB hb;clear hb;have HI2:=aa hi;clear hi;cases r
 ·exact qn
 obtain⟨k0,k1,k2,k3,k4,k5⟩:=cs6 Bk;go_wp2_with fail;refine (lL _ _ _ c.vs 8 _ (HR.v.below HB.out)).mono ?_;rintro e w3 ⟨r,rfl,hi,hb⟩;clear k0 k1 k2 k3 k4 k5;replace Bk:=upK Bk hb;replace HB:=upB HB hb;clear hb;have HI3:=aa hi;clear hi;cases r
 ·exact rr
 obtain⟨k0,k1,k2,k3,k4,k5⟩:=cs6 Bk;go_wp2_with fail;refine (lK _ _ _ c.xs 8 _ (HR.x.below HB.out)).mono ?_;rintro e w4 ⟨r,rfl,hi,hb⟩;clear k0 k1 k2 k3 k4 k5;replace Bk:=upK Bk hb;replace HB:=upB HB hb;clear hb;have HI4:=aa hi;clear hi;cases r
 ·exact rv
 obtain⟨k0,k1,k2,k3,k4,k5⟩:=cs6 Bk;go_wp2_with fail;refine (lM _ _ _ c.ps 8 _ (HR.p.below HB.out)).mono ?_;rintro e w5 ⟨r,rfl,hi,hb⟩;clear k0 k1 k2 k3 k4 k5;replace Bk:=upK Bk hb;replace HB:=upB HB hb;clear hb;have HI5:=aa hi;clear hi;cases r
 ·obtain⟨k0,k1,k2,k3,k4,k5⟩:=cs6 Bk;go_wp2;go_ret;exact aq.f (fun h=>by have:=HI5.2 h.2.2.2.2;cases this) HB.out
 go_wp2;go_ret;exact aq.t ⟨HI1.1 bA,HI2.1 bA,HI3.1 bA,HI4.1 bA,HI5.1 bA⟩ HB.out

theorem dy.ne {c:Cl} (h:dy c) (j:Nat) (v:Vd) (hv:c.vs[j]?=some v):¬v.n=⟨#[]⟩:=fun e=>by
 have h1:=(h.2.2.1.2.1 j v hv).1.1;rw[e] at h1;exact absurd h1 aj
theorem dy.xd {c:Cl} (h:dy c) (j:Nat) (p:Pd) (hp:c.ps[j]?=some p):0<=p.c/\p.c<=1000000:=(h.2.2.2.2.2.1 j p hp).2.1

theorem my (d:Ad) (c:Cl) (w:World) (hr:aK w d c.raw) (hG:ens w):
  Calls Tryz.prog 32 #[.agg #[.slice d.a1 d.l1 d.c1,.slice d.a2 d.l2 d.c2,.slice d.a3 d.l3 d.c3,.slice d.a4 d.l4 d.c4,.slice d.a5 d.l5 d.c5,.int .i64 c.now]] w (aq (a8 c) w):=by
 have HR:=aa hr;have HE:=aa hG;have HB:=aa (xj w.heap.size w);clear hr hG;go_enter Tryz.func32,Tryz.ntmps32;go_wp2_with fail;refine (bC c.now 0 1000000 _).mono ?_;rintro e w1 ⟨r,rfl,hi,hw⟩;have hb:Below (w.alloc (.cells (clv d c.now) 36)).heap.size (w.alloc (.cells (clv d c.now) 36)) w1:=by first|(rw[hw];exact xj _ _)|(rw[<-hw];exact xj _ _)
 clear hw;obtain⟨HA0,hbx⟩:=aH hb;have Bk:=aa HA0;replace HB:=upB HB hbx;clear hb hbx HA0;have HI1:=aa hi;clear hi;cases r
 ·exact qj
 obtain⟨k0,k1,k2,k3,k4,k5⟩:=cs6 Bk;go_wp2_with fail;refine (oL d c _ (HR.below HB.out)).mono ?_;rintro e w2 ⟨r,rfl,hi,hb⟩;clear k0 k1 k2 k3 k4 k5;replace Bk:=upK Bk hb;replace HB:=upB HB hb;clear hb;have HI2:=aa hi;clear hi;cases r
 ·exact qn
 have HOK:=aa (HI2.1 bA);obtain⟨k0,k1,k2,k3,k4,k5⟩:=cs6 Bk;go_wp2_with fail;refine (mJ d c _ (HR.below HB.out) HOK.2.2.2.1.2.2 HOK.2.2.1.2.2 (HE.below HB.out)).mono ?_;rintro e w3 ⟨r,rfl,hi,hb⟩;clear k0 k1 k2 k3 k4 k5;replace Bk:=upK Bk hb;replace HB:=upB HB hb;clear hb;have HI3:=aa hi;clear hi;cases r
 ·exact rr
 obtain⟨k0,k1,k2,k3,k4,k5⟩:=cs6 Bk;go_wp2_with fail;refine (k9 d c _ (HR.below HB.out) HOK.1.2.2 HOK.2.2.2.1.2.2 HOK.2.2.1.2.2 HOK.ne (by have:=HOK.2.2.2.2.1;omega) HOK.xd (HE.below HB.out)).mono ?_;rintro e w4 ⟨r,rfl,hi,hb⟩;clear k0 k1 k2 k3 k4 k5;replace Bk:=upK Bk hb;replace HB:=upB HB hb;clear hb;have HI4:=aa hi;clear hi;cases r
 ·exact rv
 obtain⟨k0,k1,k2,k3,k4,k5⟩:=cs6 Bk;go_wp2_with fail;refine (il d c _ (HR.below HB.out) HOK.1.2.2 (by have:=HOK.2.2.1.1;omega)).mono ?_;rintro e w5 ⟨r,rfl,hi,hb⟩;clear k0 k1 k2 k3 k4 k5;replace Bk:=upK Bk hb;replace HB:=upB HB hb;clear hb;have HI5:=aa hi;clear hi;cases r
 ·exact rA
 obtain⟨k0,k1,k2,k3,k4,k5⟩:=cs6 Bk;go_wp2_with fail;refine (jt d c _ (HR.below HB.out) HOK.1.2.2 HOK.2.2.2.1.2.2 HOK.2.2.1.2.2 HOK.ne).mono ?_;rintro e w6 ⟨r,rfl,hi,hb⟩;clear k0 k1 k2 k3 k4 k5;replace Bk:=upK Bk hb;replace HB:=upB HB hb;clear hb;have HI6:=aa hi;clear hi;cases r
 ·exact ry
 go_wp2;go_ret;exact aq.t ⟨HI1.1 bA,HI2.1 bA,HI3.1 bA,HI4.1 bA,HI5.1 bA,HI6.1 bA⟩ HB.out

theorem ct (a:Option Addr) (len cap:Nat) (zs:List ByteArray) (t:ByteArray) (w:World) (hr:av w a len cap zs):
  Calls Tryz.prog 69 #[.slice a len cap,.string t] w (aq (InL zs t) w):=by
 have HR:=aa hr;have hlc:=xp hr.2.1 hr.2.2.1;have hzl:=hr.1;clear hr;go_enter Tryz.func69,Tryz.ntmps69;go_wp2;go_loop [5] (fun i=> ∃k:Nat,k<=len/\i=.int .i64 k/\Hid (∀(j:Nat) x,j<k->zs[j]?=some x->¬x=t)) (fun i=>len - (intOf i).toNat);case atStart=>exact⟨0,by omega,rfl,fun _ _ h=>absurd h af⟩
 case round=>
  obtain⟨k,hk,rfl,HE⟩:=hrel;by_cases hlt:k<len
  ·obtain⟨b,o,x,rfl,hb,hx,hc,hsz⟩:=HR.at hlt;have HX:=aa hx;clear hx;by_cases hn:x=t
   ·have hq:=a_ hn;have HN:=aa hn;clear hn;go_wp2;go_ret;exact aq.t ⟨k,by rw[HX.out,HN.out]⟩ (xj _ _)
   ·have hq:=bL hn;have HN:=aa hn;clear hn;go_wp2;refine⟨⟨k+1,by omega,by go_num,fun j z hj hz=>?_⟩,by simp[intOf];omega⟩;exact qH
  ·obtain rfl:len=k:=af
   go_wp2;go_ret;exact aq.f (fun ⟨j,hj⟩=>HE.out j t iz hj rfl) (xj _ _)

theorem dZ (d:Ad) (now:Int) (xs:List Nd) (t:ByteArray) (w:World) (hr:aF w d.a1 d.l1 d.c1 7 (xs.map ndF)) (hs:aJ Nd.n xs) {j:Nat} {x:Nd} (hx:xs[j]?=some x) (hn:x.n=t):
  Calls Tryz.prog 71 #[.agg #[.slice d.a1 d.l1 d.c1,.slice d.a2 d.l2 d.c2,.slice d.a3 d.l3 d.c3,.slice d.a4 d.l4 d.c4,.slice d.a5 d.l5 d.c5,.int .i64 now],.string t] w fun e w'=>e=.returned (.int .i64 j)/\Below w.heap.size w w':=by
 refine (gI d now xs t w hr).mono ?_;exact nP
theorem ow (d:Ad) (now:Int) (xs:List Nd) (t:ByteArray) (w:World) (hr:aF w d.a1 d.l1 d.c1 7 (xs.map ndF)) (hn:∀(j:Nat) x,xs[j]?=some x->¬x.n=t):
  Calls Tryz.prog 71 #[.agg #[.slice d.a1 d.l1 d.c1,.slice d.a2 d.l2 d.c2,.slice d.a3 d.l3 d.c3,.slice d.a4 d.l4 d.c4,.slice d.a5 d.l5 d.c5,.int .i64 now],.string t] w fun e w'=>e=.returned (.int .i64 (-1))/\Below w.heap.size w w':=by
 refine (gI d now xs t w hr).mono ?_;exact nL

theorem d_ (d:Ad) (now:Int) (xs:List Kd) (t:ByteArray) (w:World) (hr:aF w d.a2 d.l2 d.c2 4 (xs.map kdF)) (hs:aJ Kd.n xs) {j:Nat} {x:Kd} (hx:xs[j]?=some x) (hn:x.n=t):
  Calls Tryz.prog 118 #[.agg #[.slice d.a1 d.l1 d.c1,.slice d.a2 d.l2 d.c2,.slice d.a3 d.l3 d.c3,.slice d.a4 d.l4 d.c4,.slice d.a5 d.l5 d.c5,.int .i64 now],.string t] w fun e w'=>e=.returned (.int .i64 j)/\Below w.heap.size w w':=by
 refine (jS d now xs t w hr).mono ?_;exact nP
theorem ir (d:Ad) (now:Int) (xs:List Kd) (t:ByteArray) (w:World) (hr:aF w d.a2 d.l2 d.c2 4 (xs.map kdF)) (hn:∀(j:Nat) x,xs[j]?=some x->¬x.n=t):
  Calls Tryz.prog 118 #[.agg #[.slice d.a1 d.l1 d.c1,.slice d.a2 d.l2 d.c2,.slice d.a3 d.l3 d.c3,.slice d.a4 d.l4 d.c4,.slice d.a5 d.l5 d.c5,.int .i64 now],.string t] w fun e w'=>e=.returned (.int .i64 (-1))/\Below w.heap.size w w':=by
 refine (jS d now xs t w hr).mono ?_;exact nL

theorem dY (d:Ad) (now:Int) (xs:List Vd) (t:ByteArray) (w:World) (hr:aF w d.a3 d.l3 d.c3 8 (xs.map vdF)) (hs:aJ Vd.n xs) {j:Nat} {x:Vd} (hx:xs[j]?=some x) (hn:x.n=t):
  Calls Tryz.prog 22 #[.agg #[.slice d.a1 d.l1 d.c1,.slice d.a2 d.l2 d.c2,.slice d.a3 d.l3 d.c3,.slice d.a4 d.l4 d.c4,.slice d.a5 d.l5 d.c5,.int .i64 now],.string t] w fun e w'=>e=.returned (.int .i64 j)/\Below w.heap.size w w':=by
 refine (gH d now xs t w hr).mono ?_;exact nP
theorem iq (d:Ad) (now:Int) (xs:List Vd) (t:ByteArray) (w:World) (hr:aF w d.a3 d.l3 d.c3 8 (xs.map vdF)) (hn:∀(j:Nat) x,xs[j]?=some x->¬x.n=t):
  Calls Tryz.prog 22 #[.agg #[.slice d.a1 d.l1 d.c1,.slice d.a2 d.l2 d.c2,.slice d.a3 d.l3 d.c3,.slice d.a4 d.l4 d.c4,.slice d.a5 d.l5 d.c5,.int .i64 now],.string t] w fun e w'=>e=.returned (.int .i64 (-1))/\Below w.heap.size w w':=by
 refine (gH d now xs t w hr).mono ?_;exact nL

theorem eV (d:Ad) (now:Int) (xs:List Xd) (t:ByteArray) (w:World) (hr:aF w d.a4 d.l4 d.c4 5 (xs.map xdF)) (hs:aJ Xd.n xs) {j:Nat} {x:Xd} (hx:xs[j]?=some x) (hn:x.n=t):
  Calls Tryz.prog 117 #[.agg #[.slice d.a1 d.l1 d.c1,.slice d.a2 d.l2 d.c2,.slice d.a3 d.l3 d.c3,.slice d.a4 d.l4 d.c4,.slice d.a5 d.l5 d.c5,.int .i64 now],.string t] w fun e w'=>e=.returned (.int .i64 j)/\Below w.heap.size w w':=by
 refine (eW d now xs t w hr).mono ?_;exact nP
theorem ep (d:Ad) (now:Int) (xs:List Xd) (t:ByteArray) (w:World) (hr:aF w d.a4 d.l4 d.c4 5 (xs.map xdF)) (hn:∀(j:Nat) x,xs[j]?=some x->¬x.n=t):
  Calls Tryz.prog 117 #[.agg #[.slice d.a1 d.l1 d.c1,.slice d.a2 d.l2 d.c2,.slice d.a3 d.l3 d.c3,.slice d.a4 d.l4 d.c4,.slice d.a5 d.l5 d.c5,.int .i64 now],.string t] w fun e w'=>e=.returned (.int .i64 (-1))/\Below w.heap.size w w':=by
 refine (eW d now xs t w hr).mono ?_;exact nL

def wu (c:Cl) (t:ByteArray) (w:World) (e:Ending) (w':World):Prop:=
 Below w.heap.size w w'/\((∃(j:Nat) (v:Vd),c.vs[j]?=some v/\bp c t v/\e=.returned (.int .i64 j))\/((∀v,¬bp c t v)/\e=.returned (.int .i64 (-1))))

theorem fG (d:Ad) (c:Cl) (t:ByteArray) (w:World) (hr:aK w d c.raw) (hx:aJ Xd.n c.xs) (hv:aJ Vd.n c.vs) (hne:∀(j:Nat) v,c.vs[j]?=some v->¬v.n=⟨#[]⟩):
  Calls Tryz.prog 68 #[.agg #[.slice d.a1 d.l1 d.c1,.slice d.a2 d.l2 d.c2,.slice d.a3 d.l3 d.c3,.slice d.a4 d.l4 d.c4,.slice d.a5 d.l5 d.c5,.int .i64 c.now],.string t] w (wu c t w):=by
 obtain⟨a1,l1,y1,a2,l2,y2,a3,l3,y3,a4,l4,y4,a5,l5,y5⟩:=d;dsimp only;have HR:=aa hr;have hl4:c.xs.length=l4:=pS
 clear hr;obtain⟨HX,HV,HNE⟩:=fY;have HB:=aa (xj w.heap.size w);clear hx hv hne;go_enter Tryz.func68,Tryz.ntmps68;go_wp2_with fail;refine (eW ⟨a1,l1,y1,a2,l2,y2,a3,l3,y3,a4,l4,y4,a5,l5,y5⟩ c.now c.xs t _ (HR.x.below (al _ _))).mono ?_;rintro e w1 ⟨hb,hf⟩;obtain⟨HA0,hbx⟩:=aH hb;have Bk:=aa HA0;replace HB:=upB HB hbx;clear hb hbx HA0;rcases hf with ⟨j,x,hx,hn,rfl⟩|⟨hh,rfl⟩;rotate_left
 ·have HH:=aa hh;clear hh;obtain⟨k0,k1,k2,k3,k4,k5⟩:=cs6 Bk;go_wp2;go_ret;exact⟨HB.out,.inr ⟨fun v ⟨i,j,x,e1,e2,_⟩=>HH.out i x e1 e2,rfl⟩⟩
 have hj:j<l4:=by have h1:=(xe.1 hx).1;omega
 obtain⟨b,o,y,rfl,hbb,hy,hat⟩:=dn HR.x hj;rw[hx] at hy;obtain rfl:=xh hy;obtain⟨z0,z2,z4,c0,c1,c2,c3,c4⟩:=bg hat;have HX1:=aa hx;have HN1:=aa hn;have e4:=(ai HB.out hbb).trans c4;have hb1:=xr hbb HB.size;have hj0:(0:Int)<=j:=af
 clear hx hn hy hat z0 z2 z4 c0 c1 c2 c3;by_cases he:x.v=⟨#[]⟩
 ·have hq:=dh he;have HEm:=aa he;clear he;obtain⟨k0,k1,k2,k3,k4,k5⟩:=cs6 Bk;go_wp2;go_ret;refine⟨HB.out,.inr ⟨fun v ⟨i,j2,x2,e1,e2,e3,e5⟩=>?_,rfl⟩⟩;obtain⟨_,rfl⟩:=HX.inj e1 HX1.out (e2.trans HN1.symm);exact HNE.out j2 v e3 (e5.trans HEm.out)
 ·have hq:=bo he;have HEm:=aa he;clear he;obtain⟨k0,k1,k2,k3,k4,k5⟩:=cs6 Bk;go_wp2_with fail;by_cases hf:∃(j2:Nat) (v:Vd),c.vs[j2]?=some v/\v.n=x.v
  ·obtain⟨j2,v,h1,h2⟩:=hf;have HF1:=aa h1;have HF2:=aa h2;clear h1 h2;clear k0 k1 k2 k3 k4 k5;have Gk:=Bk;have HW:=HB;have k0:=fun q:Wd w1=>q.slot (o:=0) Gk.out rfl;have k1:=fun q:Wd w1=>q.slot (o:=1) Gk.out rfl;have k2:=fun q:Wd w1=>q.slot (o:=2) Gk.out rfl;have k3:=fun q:Wd w1=>q.slot (o:=3) Gk.out rfl;have k4:=fun q:Wd w1=>q.slot (o:=4) Gk.out rfl;have k5:=fun q:Wd w1=>q.slot (o:=5) Gk.out rfl;have e4w:=fun q:Wd w1=>(q.cell hb1).trans e4;have hne0:=Wd.ne w1;have HC0:=aa (fun q:Wd w1=>dY ⟨a1,l1,y1,a2,l2,y2,a3,l3,y3,(some ⟨b,o,none⟩),l4,y4,a5,l5,y5⟩ c.now c.vs x.v q.w (HR.v.below (HW.trans (q.b.mono HW.size))) HV.out HF1.out HF2.out);go_wp2_with fail;refine ag an an ?_;repeat (go_big_quiet_step (first|(go_at_call 22;exact Calls.wide (HC0.out _))|fail))
   refine wpQuiet_nil ?_;rintro _ ⟨q,rfl⟩;have HB2:=upB HW q.b;have Ck:=upK Gk q.b;clear hne0 HW HB HC0 k0 k1 k2 k3 k4 k5 e4w Gk Bk;have HB:=HB2;clear HB2;have Bk:=Ck;clear Ck;go_wp2_with fail;go_ret;exact⟨HB.out,.inl ⟨j2,v,HF1.out,⟨_,_,x,HX1.out,HN1.out,HF1.out,HF2.out⟩,rfl⟩⟩
  ·have HF:=aa hf;clear hf;clear k0 k1 k2 k3 k4 k5;have Gk:=Bk;have HW:=HB;obtain⟨k0,k1,k2,k3,k4,k5⟩:=sl6 Gk;have e4w:=fun q:Wd w1=>(q.cell hb1).trans e4;have hne0:=Wd.ne w1;have HC0:=aa (fun q:Wd w1=>iq ⟨a1,l1,y1,a2,l2,y2,a3,l3,y3,(some ⟨b,o,none⟩),l4,y4,a5,l5,y5⟩ c.now c.vs x.v q.w (HR.v.below (HW.trans (q.b.mono HW.size))) (fun j2 v h1 h2=>HF.out ⟨j2,v,h1,h2⟩));go_wp2_with fail;refine ag an an ?_;repeat (go_big_quiet_step (first|(go_at_call 22;exact Calls.wide (HC0.out _))|fail))
   refine wpQuiet_nil ?_;rintro _ ⟨q,rfl⟩;have HB2:=upB HW q.b;have Ck:=upK Gk q.b;clear hne0 HW HB HC0 k0 k1 k2 k3 k4 k5 e4w Gk Bk;have HB:=HB2;clear HB2;have Bk:=Ck;clear Ck;go_wp2_with fail;go_ret;refine⟨HB.out,.inr ⟨fun v ⟨i,j2,x2,e1,e2,e3,e5⟩=>?_,rfl⟩⟩;obtain⟨_,rfl⟩:=HX.inj e1 HX1.out (e2.trans HN1.symm);exact HF.out ⟨j2,v,e3,e5⟩

theorem eu (d:Ad) (c:Cl) (t:ByteArray) (w:World) (hr:aK w d c.raw) (hx:aJ Xd.n c.xs) (hv:aJ Vd.n c.vs) (hne:∀(j:Nat) v,c.vs[j]?=some v->¬v.n=⟨#[]⟩) {j:Nat} {v:Vd} (hj:c.vs[j]?=some v) (hb:bp c t v):
  Calls Tryz.prog 68 #[.agg #[.slice d.a1 d.l1 d.c1,.slice d.a2 d.l2 d.c2,.slice d.a3 d.l3 d.c3,.slice d.a4 d.l4 d.c4,.slice d.a5 d.l5 d.c5,.int .i64 c.now],.string t] w fun e w'=>e=.returned (.int .i64 j)/\Below w.heap.size w w':=by
 refine (fG d c t w hr hx hv hne).mono ?_;rintro e w' ⟨hw,h⟩;rcases h with ⟨i,u,h1,h2,rfl⟩|⟨h1,rfl⟩
 ·obtain rfl:=bp.inj hx hv h2 hb;obtain⟨rfl,_⟩:=hv.inj h1 hj rfl;exact⟨rfl,hw⟩
 ·exact absurd hb (h1 v)
theorem eP (d:Ad) (c:Cl) (t:ByteArray) (w:World) (hr:aK w d c.raw) (hx:aJ Xd.n c.xs) (hv:aJ Vd.n c.vs) (hne:∀(j:Nat) v,c.vs[j]?=some v->¬v.n=⟨#[]⟩) (hb:∀v,¬bp c t v):
  Calls Tryz.prog 68 #[.agg #[.slice d.a1 d.l1 d.c1,.slice d.a2 d.l2 d.c2,.slice d.a3 d.l3 d.c3,.slice d.a4 d.l4 d.c4,.slice d.a5 d.l5 d.c5,.int .i64 c.now],.string t] w fun e w'=>e=.returned (.int .i64 (-1))/\Below w.heap.size w w':=by
 refine (fG d c t w hr hx hv hne).mono ?_;rintro e w' ⟨hw,h⟩;rcases h with ⟨i,u,h1,h2,rfl⟩|⟨h1,rfl⟩
 ·exact absurd h2 (hb u)
 ·exact⟨rfl,hw⟩
theorem bp.at {c:Cl} {t:ByteArray} {v:Vd} (h:bp c t v):∃j:Nat,c.vs[j]?=some v:=by
 obtain⟨_,j,_,_,_,h,_⟩:=h;exact⟨j,h⟩

theorem ox (d:Ad) (now:Int) (ps:List Pd) (t:ByteArray) (w:World) (hr:aF w d.a5 d.l5 d.c5 6 (ps.map pdF)) (hl:ps.length<=8) (hp:∀(j:Nat) p,ps[j]?=some p->0<=p.c/\p.c<=1000000):
  Calls Tryz.prog 120 #[.agg #[.slice d.a1 d.l1 d.c1,.slice d.a2 d.l2 d.c2,.slice d.a3 d.l3 d.c3,.slice d.a4 d.l4 d.c4,.slice d.a5 d.l5 d.c5,.int .i64 now],.string t] w fun e w'=>e=.returned (.int .i64 (cpuOf t ps))/\Below w.heap.size w w':=by
 obtain⟨a1,l1,y1,a2,l2,y2,a3,l3,y3,a4,l4,y4,a5,l5,y5⟩:=d;dsimp only at hr ⊢;have HR:=aa hr;have hxl:ps.length=l5:=dA
 have HP:=aa hp;clear hr hp;go_enter Tryz.func120,Tryz.ntmps120;go_wp2;go_loopw [5,6] (fun q i wr=> ∃(k:Nat) (s:Int),k<=l5/\q=.int .i64 s/\i=.int .i64 k/\Hid (s=cpuOf t (ps.take k))/\0<=s/\s<=k*1000000/\wr=w.alloc (.cells #[.slice a1 l1 y1,.slice a2 l2 y2,.slice a3 l3 y3,.slice a4 l4 y4,.slice a5 l5 y5,.int .i64 now] 36)) (fun _ i _=>l5 - (intOf i).toNat);case atStart=>exact⟨0,0,by omega,rfl,rfl,rfl,by omega,by omega,rfl⟩
 case round=>
  obtain⟨k,s,hk,rfl,rfl,HS,hs0,hs1,rfl⟩:=hrel;by_cases hlt:k<l5
  ·obtain⟨b,o,p,rfl,hb,hx,hat⟩:=cj HR.out hlt;obtain⟨va,vl,vc,hvr,z0,z2,z4,c0,c1,c2,c3,c4,c5⟩:=aS hat;have HX:=aa hx;have hpc:=HP.out k p hx;clear hat hx z0 z2 z4 hvr;by_cases hn:p.d=t
   ·have hq:=a_ hn;have HN:=aa hn;clear hn;go_wp2;refine⟨⟨k+1,s+p.c,by omega,by go_num,by go_num,?_,by omega,by omega,by first|rfl|trivial⟩,by simp[intOf];omega⟩;show _=_;rw[dR HX.out,if_pos HN.out,<-HS.out]
   ·have hq:=bL hn;have HN:=aa hn;clear hn;go_wp2;refine⟨⟨k+1,s,by omega,rfl,by go_num,?_,by omega,by omega,by first|rfl|trivial⟩,by simp[intOf];omega⟩;show _=_;rw[dR HX.out,if_neg HN.out,<-HS.out,Int.add_zero]
  ·obtain rfl:l5=k:=af
   go_wp2;go_ret;exact⟨congrArg (fun z=>Ending.returned (.int .i64 z)) (HS.trans (by rw[xw af])),al _ _⟩

theorem ng (d:Ad) (now:Int) (vs:List Vd) (t:ByteArray) (w:World) (hr:aF w d.a3 d.l3 d.c3 8 (vs.map vdF)) (hl:vs.length<=8):
  Calls Tryz.prog 70 #[.agg #[.slice d.a1 d.l1 d.c1,.slice d.a2 d.l2 d.c2,.slice d.a3 d.l3 d.c3,.slice d.a4 d.l4 d.c4,.slice d.a5 d.l5 d.c5,.int .i64 now],.string t] w fun e w'=>e=.returned (.int .i64 (onOf t vs))/\Below w.heap.size w w':=by
 obtain⟨a1,l1,y1,a2,l2,y2,a3,l3,y3,a4,l4,y4,a5,l5,y5⟩:=d;dsimp only at hr ⊢;have HR:=aa hr;have hxl:vs.length=l3:=dA
 clear hr;go_enter Tryz.func70,Tryz.ntmps70;go_wp2;go_loopw [5,6] (fun q i wr=> ∃(k:Nat) (s:Int),k<=l3/\q=.int .i64 s/\i=.int .i64 k/\Hid (s=onOf t (vs.take k))/\0<=s/\s<=k/\Hid (Below w.heap.size w wr)/\Hid (wr.heap[w.heap.size]?=some (.cells (clo6 a1 l1 y1 a2 l2 y2 a3 l3 y3 a4 l4 y4 a5 l5 y5 now) 36 (0,0)))) (fun _ i _=>l3 - (intOf i).toNat);case atStart=>exact⟨0,0,by omega,rfl,rfl,rfl,by omega,by omega,al _ _,xt⟩
 case round=>
  obtain⟨k,s,hk,rfl,rfl,HS,hs0,hs1,HB,Bk⟩:=hrel;have kk:=ck2 Bk;by_cases hlt:k<l3
  ·obtain⟨b,o,v,rfl,hb,hx,hat⟩:=bq (HR.below HB.out) hlt;obtain⟨va,vl,vc,hvr,z0,z2,z3,z5,c0,c1,c2,c3,c4,c5,c6,c7⟩:=aE hat;have HX:=aa hx;have HT:=aa hvr;clear hat hx z0 z2 z3 z5 hvr;go_wp2_with fail;refine (ct va vl vc v.zs t _ HT.out).mono ?_;rintro e w1 ⟨r,rfl,hi,hb2⟩;replace Bk:=upK Bk hb2;replace HB:=upB HB hb2;clear hb2;have HI:=aa hi;clear hi hb kk c0 c1 c2 c3 c4 c5 c6 c7;cases r
   ·go_wp2;refine⟨⟨k+1,s,by omega,rfl,by go_num,?_,by omega,by omega,HB.out,Bk.out⟩,by simp[intOf];omega⟩;exact rm
   ·go_wp2;refine⟨⟨k+1,s+1,by omega,by go_num,by go_num,?_,by omega,by omega,HB.out,Bk.out⟩,by simp[intOf];omega⟩;show _=_;rw[fM HX.out,if_pos (HI.1 bA),<-HS.out]
  ·obtain rfl:l3=k:=af
   exact qo

def iS (c:Cl) (p q:Pd):Prop:=p.d=⟨#[]⟩\/q.d=⟨#[]⟩\/p.d=q.d\/∀(j:Nat) t,p.zs[j]?=some t->∀v,bp c t v->v.x=true->¬InL q.zs t

theorem er (d:Ad) (c:Cl) (p q:Pd) (pa:Option Addr) (pl pc:Nat) (qa:Option Addr) (ql qc:Nat) (w:World) (hr:aK w d c.raw) (hx:aJ Xd.n c.xs) (hv:aJ Vd.n c.vs) (hne:∀(j:Nat) v,c.vs[j]?=some v->¬v.n=⟨#[]⟩) (hp:av w pa pl pc p.zs) (hq:av w qa ql qc q.zs):
  Calls Tryz.prog 119 #[.agg #[.slice d.a1 d.l1 d.c1,.slice d.a2 d.l2 d.c2,.slice d.a3 d.l3 d.c3,.slice d.a4 d.l4 d.c4,.slice d.a5 d.l5 d.c5,.int .i64 c.now],.agg #[.string p.n,.int .i64 p.c,.string p.z,.slice pa pl pc,.string p.d,.int .i64 p.p],.agg #[.string q.n,.int .i64 q.c,.string q.z,.slice qa ql qc,.string q.d,.int .i64 q.p]] w (aq (iS c p q) w):=by
 obtain⟨a1,l1,y1,a2,l2,y2,a3,l3,y3,a4,l4,y4,a5,l5,y5⟩:=d;dsimp only;obtain⟨HR,hl3⟩:=kr;clear hr;obtain⟨HX,HV,HNE⟩:=fY;have HP:=aa hp;have HQ0:=aa hq;have hlc:=xp hp.2.1 hp.2.2.1;have hzl:=hp.1;clear hx hv hne hp hq;by_cases hp0:p.d=⟨#[]⟩
 ·have e1:=dh hp0;have HH:=aa hp0;clear hp0;go_enter Tryz.func119,Tryz.ntmps119;go_wp2;go_ret;exact aq.t (.inl HH.out) (bS _ _ _ _)
 by_cases hq0:q.d=⟨#[]⟩
 ·have e1:=bo hp0;have e2:=dh hq0;have HH:=aa hq0;clear hp0 hq0;go_enter Tryz.func119,Tryz.ntmps119;go_wp2;go_ret;exact aq.t (.inr (.inl HH.out)) (bS _ _ _ _)
 by_cases hpq:p.d=q.d
 ·have e1:=bo hp0;have e2:=bo hq0;have e3:=a_ hpq;have HH:=aa hpq;clear hp0 hq0 hpq;go_enter Tryz.func119,Tryz.ntmps119;go_wp2;go_ret;exact aq.t (.inr (.inr (.inl HH.out))) (bS _ _ _ _)
 have e1:=bo hp0;have e2:=bo hq0;have e3:=bL hpq;have HP0:=aa hp0;have HQ1:=aa hq0;have HPQ:=aa hpq;clear hp0 hq0 hpq;go_enter Tryz.func119,Tryz.ntmps119;go_wp2;clear e1 e2 e3;go_loopw [7] (fun i wr=> ∃k:Nat,k<=pl/\i=.int .i64 k/\Hid (∀(j:Nat) t,j<k->p.zs[j]?=some t->∀v,bp c t v->v.x=true->¬InL q.zs t)/\Hid (Below w.heap.size w wr)/\Hid (wr.heap[w.heap.size]?=some (.cells (clo6 a1 l1 y1 a2 l2 y2 a3 l3 y3 a4 l4 y4 a5 l5 y5 c.now) 36 (0,0)))/\Hid (wr.heap[w.heap.size+1]?=some (.cells (pov p pa pl pc) 105 (0,0)))/\Hid (wr.heap[w.heap.size+1+1]?=some (.cells (pov q qa ql qc) 105 (0,0)))) (fun i _=>pl - (intOf i).toNat);case atStart=>exact⟨0,by omega,rfl,fun _ _ h=>absurd h af,bS _ _ _ _,gA _ _ _ _,dO _ _ _ _,dN _ _ _ _⟩
 case round=>
  obtain⟨k,hk,rfl,HQ,HB,Bk,Bx,By⟩:=hrel;have px3:=ck3 Bx;by_cases hlt:k<pl
  ·obtain⟨b,o,t,rfl,hb,hxt,hc,hsz⟩:=HP.at hlt;have HXt:=aa hxt;have hcw:=(ai HB.out hb).trans hc;have hbw:=xr hb HB.size;clear hxt hsz;have hcase:(∃v,bp c t v)\/(∀v,¬bp c t v):=by
    exact uB
   rcases hcase with ⟨v,hbd⟩|hbd
   ·obtain⟨j3,hj3⟩:=hbd.at;have hl3':j3<l3:=by have h1:=(xe.1 hj3).1;omega
    obtain⟨b3,o3,v',rfl,hb3,hv',hat⟩:=bq HR.v hl3';rw[hj3] at hv';obtain rfl:=xh hv';obtain⟨va,vl,vc,hvr,z0,z2,z3,z5,c0,c1,c2,c3,c4,c5,c6,c7⟩:=aE hat;have HJ:=aa hj3;have HD:=aa hbd;have hcv:=(ai HB.out hb3).trans c4;have hbv:=xr hb3 HB.size;have hj0:(0:Int)<=j3:=af
    clear hv' hat hvr z0 z2 z3 z5 c0 c1 c2 c3 c4 c5 c6 c7 hj3 hbd;have Gk:=Bk;have Gx:=Bx;have Gy:=By;have HW:=HB;obtain⟨k0,k1,k2,k3,k4,k5⟩:=sl6 Gk;have x3:=fun q:Wd wr=>q.slot (o:=3) Gx.out rfl;have tw:=fun q:Wd wr=>(q.cell hbw).trans hcw;have hne0:=Wd.ne wr;have HC0:=aa (fun q:Wd wr=>eu ⟨a1,l1,y1,a2,l2,y2,(some ⟨b3,o3,none⟩),l3,y3,a4,l4,y4,a5,l5,y5⟩ c t q.w (HR.below (HW.trans (q.b.mono HW.size))) HX.out HV.out HNE.out HJ.out HD.out);go_wp2_with fail;refine ag an an ?_;repeat (go_big_quiet_step (first|(go_at_call 68;exact Calls.wide (HC0.out _))|fail))
    refine wpQuiet_nil ?_;rintro _ ⟨q1,rfl⟩;obtain⟨HB1,Ck⟩:=dV;have Cx:=upK Gx q1.b;have Cy:=upK Gy q1.b;clear hne0 HW HB HC0 k0 k1 k2 k3 k4 k5 x3 tw Gk Gx Gy Bk Bx By px3;have HB:=HB1;clear HB1;have Bk:=Ck;clear Ck;have Bx:=Cx;clear Cx;have By:=Cy;clear Cy;have hcw1:=(q1.cell hbw).trans hcw;have hbw1:=xr hbw q1.b.size;have hcv1:=(q1.cell hbv).trans hcv;have hbv1:=xr hbv q1.b.size;clear hcw hbw hcv hbv;rcases yB v.x with hs|hs;rotate_left
    ·have HSi:=aa hs;rw[hs] at hcv1;clear hs;obtain⟨Gk,Gx,Gy,HW,k2,x3,y3,tw,vw,hne0⟩:=qf;go_wp2_with fail;refine ag an an ?_;repeat (go_big_quiet_step (first|fail))
     refine wpQuiet_nil ?_;rintro _ ⟨q2,rfl⟩;obtain⟨HB2,Ck⟩:=cX;have Cx:=upK Gx q2.b;have Cy:=upK Gy q2.b;clear hne0 HW HB k2 x3 y3 tw vw Gk Gx Gy Bk Bx By;have HB:=HB2;clear HB2;have Bk:=Ck;clear Ck;have Bx:=Cx;clear Cx;have By:=Cy;clear Cy;go_wp2_with fail;refine⟨⟨k+1,by omega,by go_num,fun j s hj hs=>?_,HB.out,Bk.out,Bx.out,By.out⟩,by simp[intOf];omega⟩;by_cases e:j=k
     ·subst e;rw[HXt.out] at hs;obtain rfl:=xh hs;intro v2 h1 h2;obtain rfl:=bp.inj HX.out HV.out HD.out h1;rw[HSi.out] at h2;cases h2
     ·exact HQ.out j s af hs
    have HSi:=aa hs;rw[hs] at hcv1;clear hs;by_cases hin:InL q.zs t
    ·have HIn:=aa hin;clear hin;obtain⟨Gk,Gx,Gy,HW,k2,x3,y3,tw,vw,hne0⟩:=qf;have HC0:=aa (fun qq:Wd q1.w=>(ct qa ql qc q.zs t qq.w (HQ0.below (HW.trans (qq.b.mono HW.size)))).mono (fun _ _ h=>aq.yes h HIn.out));go_wp2_with fail;refine ag an an ?_;repeat (go_big_quiet_step (first|(go_at_call 69;exact Calls.wide (HC0.out _))|fail))
     refine wpQuiet_nil ?_;rintro _ ⟨q2,rfl⟩;obtain⟨HB2,Ck⟩:=cX;have Cx:=upK Gx q2.b;have Cy:=upK Gy q2.b;clear hne0 HW HB HC0 k2 x3 y3 tw vw Gk Gx Gy Bk Bx By;have HB:=HB2;clear HB2;have Bk:=Ck;clear Ck;have Bx:=Cx;clear Cx;have By:=Cy;clear Cy;go_wp2;go_ret;refine aq.f (fun h=>?_) HB.out;rcases h with h|h|h|h
     ·exact HP0.out h
     ·exact HQ1.out h
     ·exact HPQ.out h
     ·exact h k t HXt.out v HD.out HSi.out HIn.out
    ·have HIn:=aa hin;clear hin;obtain⟨Gk,Gx,Gy,HW,k2,x3,y3,tw,vw,hne0⟩:=qf;have HC0:=aa (fun qq:Wd q1.w=>(ct qa ql qc q.zs t qq.w (HQ0.below (HW.trans (qq.b.mono HW.size)))).mono (fun _ _ h=>aq.no h HIn.out));go_wp2_with fail;refine ag an an ?_;repeat (go_big_quiet_step (first|(go_at_call 69;exact Calls.wide (HC0.out _))|fail))
     refine wpQuiet_nil ?_;rintro _ ⟨q2,rfl⟩;obtain⟨HB2,Ck⟩:=cX;have Cx:=upK Gx q2.b;have Cy:=upK Gy q2.b;clear hne0 HW HB HC0 k2 x3 y3 tw vw Gk Gx Gy Bk Bx By;have HB:=HB2;clear HB2;have Bk:=Ck;clear Ck;have Bx:=Cx;clear Cx;have By:=Cy;clear Cy;go_wp2_with fail;refine⟨⟨k+1,by omega,by go_num,fun j s hj hs=>?_,HB.out,Bk.out,Bx.out,By.out⟩,by simp[intOf];omega⟩;by_cases e:j=k
     ·subst e;rw[HXt.out] at hs;obtain rfl:=xh hs;intro v2 h1 h2;exact HIn.out
     ·exact HQ.out j s af hs
   ·have HD:=aa hbd;clear hbd;have Gk:=Bk;have Gx:=Bx;have Gy:=By;have HW:=HB;obtain⟨k0,k1,k2,k3,k4,k5⟩:=sl6 Gk;have x3:=fun q:Wd wr=>q.slot (o:=3) Gx.out rfl;have tw:=fun q:Wd wr=>(q.cell hbw).trans hcw;have hne0:=Wd.ne wr;have HC0:=aa (fun q:Wd wr=>eP ⟨a1,l1,y1,a2,l2,y2,a3,l3,y3,a4,l4,y4,a5,l5,y5⟩ c t q.w (HR.below (HW.trans (q.b.mono HW.size))) HX.out HV.out HNE.out HD.out);go_wp2_with fail;refine ag an an ?_;repeat (go_big_quiet_step (first|(go_at_call 68;exact Calls.wide (HC0.out _))|fail))
    refine wpQuiet_nil ?_;rintro _ ⟨q1,rfl⟩;obtain⟨HB1,Ck⟩:=dV;have Cx:=upK Gx q1.b;have Cy:=upK Gy q1.b;clear hne0 HW HB HC0 k0 k1 k2 k3 k4 k5 x3 tw Gk Gx Gy Bk Bx By px3;have HB:=HB1;clear HB1;have Bk:=Ck;clear Ck;have Bx:=Cx;clear Cx;have By:=Cy;clear Cy;have Gk:=Bk;have Gx:=Bx;have Gy:=By;have HW:=HB;have k2:=fun q:Wd q1.w=>q.slot (o:=2) Gk.out rfl;have x3:=fun q:Wd q1.w=>q.slot (o:=3) Gx.out rfl;have y3:=fun q:Wd q1.w=>q.slot (o:=3) Gy.out rfl;have hne0:=Wd.ne q1.w;go_wp2_with fail;refine ag an an ?_;repeat (go_big_quiet_step (first|fail))
    refine wpQuiet_nil ?_;rintro _ ⟨q2,rfl⟩;obtain⟨HB2,Ck⟩:=cX;have Cx:=upK Gx q2.b;have Cy:=upK Gy q2.b;clear hne0 HW HB k2 x3 y3 Gk Gx Gy Bk Bx By;have HB:=HB2;clear HB2;have Bk:=Ck;clear Ck;have Bx:=Cx;clear Cx;have By:=Cy;clear Cy;go_wp2_with fail;refine⟨⟨k+1,by omega,by go_num,fun j s hj hs=>?_,HB.out,Bk.out,Bx.out,By.out⟩,by simp[intOf];omega⟩;by_cases e:j=k
    ·subst e;rw[HXt.out] at hs;obtain rfl:=xh hs;intro v2 h1;exact absurd h1 (HD.out v2)
    ·exact HQ.out j s af hs
  ·obtain rfl:pl=k:=af
   go_wp2;go_ret;exact aq.t (.inr (.inr (.inr (fun j t ht=>HQ.out j t nv ht)))) HB.out

theorem oA (d:Ad) (c:Cl) (w:World) (hr:aK w d c.raw):
  Calls Tryz.prog 59 #[.agg #[.slice d.a1 d.l1 d.c1,.slice d.a2 d.l2 d.c2,.slice d.a3 d.l3 d.c3,.slice d.a4 d.l4 d.c4,.slice d.a5 d.l5 d.c5,.int .i64 c.now]] w (aq (dy c) w):=by
 obtain⟨a1,l1,y1,a2,l2,y2,a3,l3,y3,a4,l4,y4,a5,l5,y5⟩:=d;dsimp only;obtain⟨HR,hl1,hm1,hl2,hm2,hl3,hm3,hl4,hm4,hl5,hm5⟩:=lP;clear hr;by_cases hL1:(6:Int)<l1
 ·go_enter Tryz.func59,Tryz.ntmps59;go_wp2;go_ret;exact aq.f (fun h=>by have:=h.1.1;omega) (al _ _)
 by_cases hL2:(8:Int)<l2
 ·go_enter Tryz.func59,Tryz.ntmps59;go_wp2;go_ret;exact aq.f (fun h=>by have:=h.2.1.1;omega) (al _ _)
 by_cases hL3:(8:Int)<l3
 ·go_enter Tryz.func59,Tryz.ntmps59;go_wp2;go_ret;exact aq.f (fun h=>by have:=h.2.2.1.1;omega) (al _ _)
 by_cases hL4:(8:Int)<l4
 ·go_enter Tryz.func59,Tryz.ntmps59;go_wp2;go_ret;exact aq.f (fun h=>by have:=h.2.2.2.1.1;omega) (al _ _)
 by_cases hL5:(8:Int)<l5
 ·go_enter Tryz.func59,Tryz.ntmps59;go_wp2;go_ret;exact aq.f (fun h=>by have:=h.2.2.2.2.1;omega) (al _ _)
 go_enter Tryz.func59,Tryz.ntmps59;go_wp2;go_loopw [3] (fun i wr=> ∃k:Nat,k<=l1/\i=.int .i64 k/\Hid (∀(j:Nat) z,j<k->c.ns[j]?=some z->mg z)/\Hid (∀(j:Nat) z u,j+1<k->c.ns[j+1]?=some z->c.ns[j]?=some u->xn u.n.toList z.n.toList=true)/\Hid (Below w.heap.size w wr)/\Hid (wr.heap[w.heap.size]?=some (.cells (clo6 a1 l1 y1 a2 l2 y2 a3 l3 y3 a4 l4 y4 a5 l5 y5 c.now) 36 (0,0)))) (fun i _=>l1 - (intOf i).toNat);case atStart=>exact⟨0,by omega,rfl,fun _ _ h=>absurd h af,fun _ _ _ h=>absurd h af,al _ _,xt⟩
 case round=>
  obtain⟨k,hk,rfl,HQ,HO,HB,Bk⟩:=hrel;have pk:=ck0 Bk;by_cases hlt:k<l1
  ·obtain⟨b,o,x,rfl,hb,hx,hat⟩:=bU (HR.n.below HB.out) hlt;obtain⟨va,vl,vc,hvr,z0,z1,c0,c1,c2,c3,c4,c5,c6⟩:=aQ hat;have HXx:=aa hx;have HTx:=aa hvr;have HZx0:=aa z0;have HZx1:=aa z1;clear hat hx z0 z1 hvr;by_cases hok:mg x;rotate_left
   ·have HOK:=aa hok;clear hok;have Gk:=Bk;have HW:=HB;have k0:=fun q:Wd wr=>q.slot (o:=0) Gk.out rfl;obtain⟨x0,x1,x2,x3,x4⟩:=eB;obtain⟨x5,x6⟩:=f_;have hne0:=Wd.ne wr;have HC0:=aa (fun q:Wd wr=>(et x.n x.z x.c x.s x.u x.d va vl vc x.zs q.w HZx0.out HZx1.out (HTx.below q.b)).mono (fun _ _ h=>aq.no h HOK.out));go_wp2_with fail;refine ag an an ?_;repeat (go_big_quiet_step (first|(go_at_call 112;exact Calls.wide (HC0.out _))|fail))
    refine wpQuiet_nil ?_;rintro _ ⟨q,rfl⟩;obtain⟨HB1,Ck⟩:=cn;clear hne0 HW HB HC0 k0 x0 x1 x2 x3 x4 x5 x6 Gk Bk c0 c1 c2 c3 c4 c5 c6 pk;have HB:=HB1;clear HB1;have Bk:=Ck;clear Ck;go_wp2;go_ret;exact aq.f (fun h=>HOK.out (h.1.2.1 k x HXx.out)) HB.out
   have HOK:=aa hok;clear hok;by_cases hk0:0<k;rotate_left
   ·obtain⟨hd,Gk⟩:=ki;have HW:=HB;have k0:=fun q:Wd wr=>q.slot (o:=0) Gk.out rfl;obtain⟨x0,x1,x2,x3,x4⟩:=eB;obtain⟨x5,x6⟩:=f_;have hne0:=Wd.ne wr;have HC0:=aa (fun q:Wd wr=>(et x.n x.z x.c x.s x.u x.d va vl vc x.zs q.w HZx0.out HZx1.out (HTx.below q.b)).mono (fun _ _ h=>aq.yes h HOK.out));go_wp2_with fail;refine ag an an ?_;repeat (go_big_quiet_step (first|(go_at_call 112;exact Calls.wide (HC0.out _))|fail))
    refine wpQuiet_nil ?_;rintro _ ⟨q,rfl⟩;obtain⟨HB1,Ck⟩:=cn;clear hne0 HW HB HC0 k0 x0 x1 x2 x3 x4 x5 x6 Gk Bk c0 c1 c2 c3 c4 c5 c6 pk;exact qk
   have ek:((k:Int) - 1).toNat=k - 1:=af
   obtain⟨b',o',y,e',hb',hy,haty⟩:=bU (HR.n.below HB.out) (show k - 1<l1 by omega);cases e';have y0:wr.cell? ⟨b,o+(k - 1)*7,none⟩=some (.string y.n):=by
    exact ky
   have HXy:=aa hy;clear hy haty;cases hless:xn y.n.toList x.n.toList
   ·obtain⟨Gk,HW,k0⟩:=tI;obtain⟨x0,x1,x2,x3,x4⟩:=eB;obtain⟨x5,x6⟩:=f_;obtain⟨yw,hne0⟩:=eH;have HC0:=aa (fun q:Wd wr=>(et x.n x.z x.c x.s x.u x.d va vl vc x.zs q.w HZx0.out HZx1.out (HTx.below q.b)).mono (fun _ _ h=>aq.yes h HOK.out));go_wp2_with fail;refine ag an an ?_;repeat (go_big_quiet_step (first|(go_at_call 112;exact Calls.wide (HC0.out _))|fail))
    refine wpQuiet_nil ?_;rintro _ ⟨q,rfl⟩;obtain⟨HB1,Ck⟩:=cn;clear hne0 HW HB HC0 k0 x0 x1 x2 x3 x4 x5 x6 yw Gk Bk c0 c1 c2 c3 c4 c5 c6 pk y0;have HB:=HB1;clear HB1;have Bk:=Ck;clear Ck;go_wp2;go_ret;refine aq.f (fun h=>?_) HB.out;have h3:=h.1.2.2 (k - 1) x y ke HXy.out;rw[hless] at h3;cases h3
   ·obtain⟨Gk,HW,k0⟩:=tI;obtain⟨x0,x1,x2,x3,x4⟩:=eB;obtain⟨x5,x6⟩:=f_;obtain⟨yw,hne0⟩:=eH;have HC0:=aa (fun q:Wd wr=>(et x.n x.z x.c x.s x.u x.d va vl vc x.zs q.w HZx0.out HZx1.out (HTx.below q.b)).mono (fun _ _ h=>aq.yes h HOK.out));go_wp2_with fail;refine ag an an ?_;repeat (go_big_quiet_step (first|(go_at_call 112;exact Calls.wide (HC0.out _))|fail))
    refine wpQuiet_nil ?_;rintro _ ⟨q,rfl⟩;obtain⟨HB1,Ck⟩:=cn;clear hne0 HW HB HC0 k0 x0 x1 x2 x3 x4 x5 x6 yw Gk Bk c0 c1 c2 c3 c4 c5 c6 pk y0;exact qp
  ·obtain rfl:l1=k:=af
   have HR1:Hid (dm mg Nd.n c.ns 6):=⟨by omega,fun j z hz=>HQ.out j z ch hz,fun j z u hz hu=>HO.out j z u ch hz hu⟩;clear HQ HO;skip;have kc:=ck1 Bk;go_wp2;go_loopw [4] (fun i wr=> ∃k:Nat,k<=l2/\i=.int .i64 k/\Hid (∀(j:Nat) z,j<k->c.ks[j]?=some z->mu z)/\Hid (∀(j:Nat) z u,j+1<k->c.ks[j+1]?=some z->c.ks[j]?=some u->xn u.n.toList z.n.toList=true)/\Hid (Below w.heap.size w wr)/\Hid (wr.heap[w.heap.size]?=some (.cells (clo6 a1 l1 y1 a2 l2 y2 a3 l3 y3 a4 l4 y4 a5 l5 y5 c.now) 36 (0,0)))) (fun i _=>l2 - (intOf i).toNat);case atStart=>exact⟨0,by omega,rfl,fun _ _ h=>absurd h af,fun _ _ _ h=>absurd h af,HB.out,Bk.out⟩
   case round=>
    obtain⟨k,hk,rfl,HQ,HO,HB,Bk⟩:=hrel;have pk:=ck1 Bk;by_cases hlt:k<l2
    ·obtain⟨b,o,x,rfl,hb,hx,hat⟩:=eL (HR.k.below HB.out) hlt;obtain⟨z0,z3,c0,c1,c2,c3⟩:=bO hat;have HXx:=aa hx;have HZx0:=aa z0;have HZx3:=aa z3;clear hat hx z0 z3;by_cases hok:mu x;rotate_left
     ·have HOK:=aa hok;clear hok;have Gk:=Bk;obtain⟨HW,k1,x0,x1,x2,x3⟩:=nH;have hne0:=Wd.ne wr;have HC0:=aa (fun q:Wd wr=>(dI x.n x.z x.x x.y q.w HZx0.out HZx3.out).mono (fun _ _ h=>aq.no h HOK.out));go_wp2_with fail;refine ag an an ?_;repeat (go_big_quiet_step (first|(go_at_call 113;exact Calls.wide (HC0.out _))|fail))
      refine wpQuiet_nil ?_;rintro _ ⟨q,rfl⟩;obtain⟨HB1,Ck⟩:=cn;clear hne0 HW HB HC0 k1 x0 x1 x2 x3 Gk Bk c0 c1 c2 c3 pk;have HB:=HB1;clear HB1;have Bk:=Ck;clear Ck;go_wp2;go_ret;exact aq.f (fun h=>HOK.out (h.2.1.2.1 k x HXx.out)) HB.out
     have HOK:=aa hok;clear hok;by_cases hk0:0<k;rotate_left
     ·obtain⟨hd,Gk⟩:=ki;obtain⟨HW,k1,x0,x1,x2,x3⟩:=nH;have hne0:=Wd.ne wr;have HC0:=aa (fun q:Wd wr=>(dI x.n x.z x.x x.y q.w HZx0.out HZx3.out).mono (fun _ _ h=>aq.yes h HOK.out));go_wp2_with fail;refine ag an an ?_;repeat (go_big_quiet_step (first|(go_at_call 113;exact Calls.wide (HC0.out _))|fail))
      refine wpQuiet_nil ?_;rintro _ ⟨q,rfl⟩;obtain⟨HB1,Ck⟩:=cn;clear hne0 HW HB HC0 k1 x0 x1 x2 x3 Gk Bk c0 c1 c2 c3 pk;exact qk
     have ek:((k:Int) - 1).toNat=k - 1:=af
     obtain⟨b',o',y,e',hb',hy,haty⟩:=eL (HR.k.below HB.out) (show k - 1<l2 by omega);cases e';have y0:wr.cell? ⟨b,o+(k - 1)*4,none⟩=some (.string y.n):=by
      exact ky
     have HXy:=aa hy;clear hy haty;cases hless:xn y.n.toList x.n.toList
     ·have Gk:Hid (wr.heap[w.heap.size]?=some (.cells (clo6 a1 l1 y1 (some ⟨b,o,none⟩) l2 y2 a3 l3 y3 a4 l4 y4 a5 l5 y5 c.now) 36 (0,0))):=Bk.out;obtain⟨HW,k1,x0,x1,x2,x3⟩:=nH;obtain⟨yw,hne0⟩:=eH;have HC0:=aa (fun q:Wd wr=>(dI x.n x.z x.x x.y q.w HZx0.out HZx3.out).mono (fun _ _ h=>aq.yes h HOK.out));go_wp2_with fail;refine ag an an ?_;repeat (go_big_quiet_step (first|(go_at_call 113;exact Calls.wide (HC0.out _))|fail))
      refine wpQuiet_nil ?_;rintro _ ⟨q,rfl⟩;obtain⟨HB1,Ck⟩:=cn;clear hne0 HW HB HC0 k1 x0 x1 x2 x3 yw Gk Bk c0 c1 c2 c3 pk y0;have HB:=HB1;clear HB1;have Bk:=Ck;clear Ck;go_wp2;go_ret;refine aq.f (fun h=>?_) HB.out;have h3:=h.2.1.2.2 (k - 1) x y ke HXy.out;rw[hless] at h3;cases h3
     ·have Gk:Hid (wr.heap[w.heap.size]?=some (.cells (clo6 a1 l1 y1 (some ⟨b,o,none⟩) l2 y2 a3 l3 y3 a4 l4 y4 a5 l5 y5 c.now) 36 (0,0))):=Bk.out;obtain⟨HW,k1,x0,x1,x2,x3⟩:=nH;obtain⟨yw,hne0⟩:=eH;have HC0:=aa (fun q:Wd wr=>(dI x.n x.z x.x x.y q.w HZx0.out HZx3.out).mono (fun _ _ h=>aq.yes h HOK.out));go_wp2_with fail;refine ag an an ?_;repeat (go_big_quiet_step (first|(go_at_call 113;exact Calls.wide (HC0.out _))|fail))
      refine wpQuiet_nil ?_;rintro _ ⟨q,rfl⟩;obtain⟨HB1,Ck⟩:=cn;clear hne0 HW HB HC0 k1 x0 x1 x2 x3 yw Gk Bk c0 c1 c2 c3 pk y0;exact qp
    ·obtain rfl:l2=k:=af
     have HR2:Hid (dm mu Kd.n c.ks 8):=⟨by omega,fun j z hz=>HQ.out j z ch hz,fun j z u hz hu=>HO.out j z u ch hz hu⟩;clear HQ HO;skip;have kc:=ck2 Bk;go_wp2;go_loopw [5] (fun i wr=> ∃k:Nat,k<=l3/\i=.int .i64 k/\Hid (∀(j:Nat) z,j<k->c.vs[j]?=some z->lA z)/\Hid (∀(j:Nat) z u,j+1<k->c.vs[j+1]?=some z->c.vs[j]?=some u->xn u.n.toList z.n.toList=true)/\Hid (Below w.heap.size w wr)/\Hid (wr.heap[w.heap.size]?=some (.cells (clo6 a1 l1 y1 a2 l2 y2 a3 l3 y3 a4 l4 y4 a5 l5 y5 c.now) 36 (0,0)))) (fun i _=>l3 - (intOf i).toNat);case atStart=>exact⟨0,by omega,rfl,fun _ _ h=>absurd h af,fun _ _ _ h=>absurd h af,HB.out,Bk.out⟩
     case round=>
      obtain⟨k,hk,rfl,HQ,HO,HB,Bk⟩:=hrel;have pk:=ck2 Bk;by_cases hlt:k<l3
      ·obtain⟨b,o,x,rfl,hb,hx,hat⟩:=bq (HR.v.below HB.out) hlt;obtain⟨va,vl,vc,hvr,z0,z2,z3,z5,c0,c1,c2,c3,c4,c5,c6,c7⟩:=aE hat;have HXx:=aa hx;have HTx:=aa hvr;have HZx0:=aa z0;have HZx2:=aa z2;have HZx3:=aa z3;have HZx5:=aa z5;clear hat hx z0 z2 z3 z5 hvr;by_cases hok:lA x;rotate_left
       ·have HOK:=aa hok;clear hok;have Gk:=Bk;have HW:=HB;have k2:=fun q:Wd wr=>q.slot (o:=2) Gk.out rfl;obtain⟨x0,x1,x2,x3,x4⟩:=eB;obtain⟨x5,x6⟩:=f_;have x7:=fun q:Wd wr=>(q.cell hb).trans c7;have hne0:=Wd.ne wr;have HC0:=aa (fun q:Wd wr=>(eX x.n x.c x.z x.k x.x x.m x.y va vl vc x.zs q.w HZx0.out HZx2.out HZx3.out HZx5.out (HTx.below q.b)).mono (fun _ _ h=>aq.no h HOK.out));go_wp2_with fail;refine ag an an ?_;repeat (go_big_quiet_step (first|(go_at_call 114;exact Calls.wide (HC0.out _))|fail))
        refine wpQuiet_nil ?_;rintro _ ⟨q,rfl⟩;obtain⟨HB1,Ck⟩:=cn;clear hne0 HW HB HC0 k2 x0 x1 x2 x3 x4 x5 x6 x7 Gk Bk c0 c1 c2 c3 c4 c5 c6 c7 pk;have HB:=HB1;clear HB1;have Bk:=Ck;clear Ck;go_wp2;go_ret;exact aq.f (fun h=>HOK.out (h.2.2.1.2.1 k x HXx.out)) HB.out
       have HOK:=aa hok;clear hok;by_cases hk0:0<k;rotate_left
       ·obtain⟨hd,Gk⟩:=ki;have HW:=HB;have k2:=fun q:Wd wr=>q.slot (o:=2) Gk.out rfl;obtain⟨x0,x1,x2,x3,x4⟩:=eB;obtain⟨x5,x6⟩:=f_;have x7:=fun q:Wd wr=>(q.cell hb).trans c7;have hne0:=Wd.ne wr;have HC0:=aa (fun q:Wd wr=>(eX x.n x.c x.z x.k x.x x.m x.y va vl vc x.zs q.w HZx0.out HZx2.out HZx3.out HZx5.out (HTx.below q.b)).mono (fun _ _ h=>aq.yes h HOK.out));go_wp2_with fail;refine ag an an ?_;repeat (go_big_quiet_step (first|(go_at_call 114;exact Calls.wide (HC0.out _))|fail))
        refine wpQuiet_nil ?_;rintro _ ⟨q,rfl⟩;obtain⟨HB1,Ck⟩:=cn;clear hne0 HW HB HC0 k2 x0 x1 x2 x3 x4 x5 x6 x7 Gk Bk c0 c1 c2 c3 c4 c5 c6 c7 pk;exact qk
       have ek:((k:Int) - 1).toNat=k - 1:=af
       obtain⟨b',o',y,e',hb',hy,haty⟩:=bq (HR.v.below HB.out) (show k - 1<l3 by omega);cases e';have y0:wr.cell? ⟨b,o+(k - 1)*8,none⟩=some (.string y.n):=by
        exact ky
       have HXy:=aa hy;clear hy haty;cases hless:xn y.n.toList x.n.toList
       ·obtain⟨Gk,HW,k2⟩:=tH;obtain⟨x0,x1,x2,x3,x4⟩:=eB;obtain⟨x5,x6⟩:=f_;have x7:=fun q:Wd wr=>(q.cell hb).trans c7;obtain⟨yw,hne0⟩:=eH;have HC0:=aa (fun q:Wd wr=>(eX x.n x.c x.z x.k x.x x.m x.y va vl vc x.zs q.w HZx0.out HZx2.out HZx3.out HZx5.out (HTx.below q.b)).mono (fun _ _ h=>aq.yes h HOK.out));go_wp2_with fail;refine ag an an ?_;repeat (go_big_quiet_step (first|(go_at_call 114;exact Calls.wide (HC0.out _))|fail))
        refine wpQuiet_nil ?_;rintro _ ⟨q,rfl⟩;obtain⟨HB1,Ck⟩:=cn;clear hne0 HW HB HC0 k2 x0 x1 x2 x3 x4 x5 x6 x7 yw Gk Bk c0 c1 c2 c3 c4 c5 c6 c7 pk y0;have HB:=HB1;clear HB1;have Bk:=Ck;clear Ck;go_wp2;go_ret;refine aq.f (fun h=>?_) HB.out;have h3:=h.2.2.1.2.2 (k - 1) x y ke HXy.out;rw[hless] at h3;cases h3
       ·obtain⟨Gk,HW,k2⟩:=tH;obtain⟨x0,x1,x2,x3,x4⟩:=eB;obtain⟨x5,x6⟩:=f_;have x7:=fun q:Wd wr=>(q.cell hb).trans c7;obtain⟨yw,hne0⟩:=eH;have HC0:=aa (fun q:Wd wr=>(eX x.n x.c x.z x.k x.x x.m x.y va vl vc x.zs q.w HZx0.out HZx2.out HZx3.out HZx5.out (HTx.below q.b)).mono (fun _ _ h=>aq.yes h HOK.out));go_wp2_with fail;refine ag an an ?_;repeat (go_big_quiet_step (first|(go_at_call 114;exact Calls.wide (HC0.out _))|fail))
        refine wpQuiet_nil ?_;rintro _ ⟨q,rfl⟩;obtain⟨HB1,Ck⟩:=cn;clear hne0 HW HB HC0 k2 x0 x1 x2 x3 x4 x5 x6 x7 yw Gk Bk c0 c1 c2 c3 c4 c5 c6 c7 pk y0;exact qp
      ·obtain rfl:l3=k:=af
       have HR3:Hid (dm lA Vd.n c.vs 8):=⟨by omega,fun j z hz=>HQ.out j z ch hz,fun j z u hz hu=>HO.out j z u ch hz hu⟩;clear HQ HO;skip;have kc:=ck3 Bk;go_wp2;go_loopw [6] (fun i wr=> ∃k:Nat,k<=l4/\i=.int .i64 k/\Hid (∀(j:Nat) z,j<k->c.xs[j]?=some z->lu z)/\Hid (∀(j:Nat) z u,j+1<k->c.xs[j+1]?=some z->c.xs[j]?=some u->xn u.n.toList z.n.toList=true)/\Hid (Below w.heap.size w wr)/\Hid (wr.heap[w.heap.size]?=some (.cells (clo6 a1 l1 y1 a2 l2 y2 a3 l3 y3 a4 l4 y4 a5 l5 y5 c.now) 36 (0,0)))) (fun i _=>l4 - (intOf i).toNat);case atStart=>exact⟨0,by omega,rfl,fun _ _ h=>absurd h af,fun _ _ _ h=>absurd h af,HB.out,Bk.out⟩
       case round=>
        obtain⟨k,hk,rfl,HQ,HO,HB,Bk⟩:=hrel;have pk:=ck3 Bk;by_cases hlt:k<l4
        ·obtain⟨b,o,x,rfl,hb,hx,hat⟩:=dn (HR.x.below HB.out) hlt;obtain⟨z0,z2,z4,c0,c1,c2,c3,c4⟩:=bg hat;have HXx:=aa hx;have HZx0:=aa z0;have HZx2:=aa z2;have HZx4:=aa z4;clear hat hx z0 z2 z4;by_cases hok:lu x;rotate_left
         ·have HOK:=aa hok;clear hok;have Gk:=Bk;have HW:=HB;have k3:=fun q:Wd wr=>q.slot (o:=3) Gk.out rfl;obtain⟨x0,x1,x2,x3,x4⟩:=eB;have hne0:=Wd.ne wr;have HC0:=aa (fun q:Wd wr=>(dJ x.n x.z x.k x.x x.v q.w HZx0.out HZx2.out HZx4.out).mono (fun _ _ h=>aq.no h HOK.out));go_wp2_with fail;refine ag an an ?_;repeat (go_big_quiet_step (first|(go_at_call 115;exact Calls.wide (HC0.out _))|fail))
          refine wpQuiet_nil ?_;rintro _ ⟨q,rfl⟩;obtain⟨HB1,Ck⟩:=cn;clear hne0 HW HB HC0 k3 x0 x1 x2 x3 x4 Gk Bk c0 c1 c2 c3 c4 pk;have HB:=HB1;clear HB1;have Bk:=Ck;clear Ck;go_wp2;go_ret;exact aq.f (fun h=>HOK.out (h.2.2.2.1.2.1 k x HXx.out)) HB.out
         have HOK:=aa hok;clear hok;by_cases hk0:0<k;rotate_left
         ·obtain⟨hd,Gk⟩:=ki;have HW:=HB;have k3:=fun q:Wd wr=>q.slot (o:=3) Gk.out rfl;obtain⟨x0,x1,x2,x3,x4⟩:=eB;have hne0:=Wd.ne wr;have HC0:=aa (fun q:Wd wr=>(dJ x.n x.z x.k x.x x.v q.w HZx0.out HZx2.out HZx4.out).mono (fun _ _ h=>aq.yes h HOK.out));go_wp2_with fail;refine ag an an ?_;repeat (go_big_quiet_step (first|(go_at_call 115;exact Calls.wide (HC0.out _))|fail))
          refine wpQuiet_nil ?_;rintro _ ⟨q,rfl⟩;obtain⟨HB1,Ck⟩:=cn;clear hne0 HW HB HC0 k3 x0 x1 x2 x3 x4 Gk Bk c0 c1 c2 c3 c4 pk;exact qk
         have ek:((k:Int) - 1).toNat=k - 1:=af
         obtain⟨b',o',y,e',hb',hy,haty⟩:=dn (HR.x.below HB.out) (show k - 1<l4 by omega);cases e';have y0:wr.cell? ⟨b,o+(k - 1)*5,none⟩=some (.string y.n):=by
          exact ky
         have HXy:=aa hy;clear hy haty;cases hless:xn y.n.toList x.n.toList
         ·obtain⟨Gk,HW,k3⟩:=tG;obtain⟨x0,x1,x2,x3,x4⟩:=eB;obtain⟨yw,hne0⟩:=eH;have HC0:=aa (fun q:Wd wr=>(dJ x.n x.z x.k x.x x.v q.w HZx0.out HZx2.out HZx4.out).mono (fun _ _ h=>aq.yes h HOK.out));go_wp2_with fail;refine ag an an ?_;repeat (go_big_quiet_step (first|(go_at_call 115;exact Calls.wide (HC0.out _))|fail))
          refine wpQuiet_nil ?_;rintro _ ⟨q,rfl⟩;obtain⟨HB1,Ck⟩:=cn;clear hne0 HW HB HC0 k3 x0 x1 x2 x3 x4 yw Gk Bk c0 c1 c2 c3 c4 pk y0;have HB:=HB1;clear HB1;have Bk:=Ck;clear Ck;go_wp2;go_ret;refine aq.f (fun h=>?_) HB.out;have h3:=h.2.2.2.1.2.2 (k - 1) x y ke HXy.out;rw[hless] at h3;cases h3
         ·obtain⟨Gk,HW,k3⟩:=tG;obtain⟨x0,x1,x2,x3,x4⟩:=eB;obtain⟨yw,hne0⟩:=eH;have HC0:=aa (fun q:Wd wr=>(dJ x.n x.z x.k x.x x.v q.w HZx0.out HZx2.out HZx4.out).mono (fun _ _ h=>aq.yes h HOK.out));go_wp2_with fail;refine ag an an ?_;repeat (go_big_quiet_step (first|(go_at_call 115;exact Calls.wide (HC0.out _))|fail))
          refine wpQuiet_nil ?_;rintro _ ⟨q,rfl⟩;obtain⟨HB1,Ck⟩:=cn;clear hne0 HW HB HC0 k3 x0 x1 x2 x3 x4 yw Gk Bk c0 c1 c2 c3 c4 pk y0;exact qp
        ·obtain rfl:l4=k:=af
         have HR4:Hid (dm lu Xd.n c.xs 8):=⟨by omega,fun j z hz=>HQ.out j z ch hz,fun j z u hz hu=>HO.out j z u ch hz hu⟩;clear HQ HO;skip;have kc:=ck4 Bk;go_wp2;go_loopw [7] (fun i wr=> ∃k:Nat,k<=l5/\i=.int .i64 k/\Hid (∀(j:Nat) z,j<k->c.ps[j]?=some z->l_ z)/\Hid (∀(j:Nat) z u,j+1<k->c.ps[j+1]?=some z->c.ps[j]?=some u->xn u.n.toList z.n.toList=true)/\Hid (Below w.heap.size w wr)/\Hid (wr.heap[w.heap.size]?=some (.cells (clo6 a1 l1 y1 a2 l2 y2 a3 l3 y3 a4 l4 y4 a5 l5 y5 c.now) 36 (0,0)))) (fun i _=>l5 - (intOf i).toNat);case atStart=>exact⟨0,by omega,rfl,fun _ _ h=>absurd h af,fun _ _ _ h=>absurd h af,HB.out,Bk.out⟩
         case round=>
          obtain⟨k,hk,rfl,HQ,HO,HB,Bk⟩:=hrel;have pk:=ck4 Bk;by_cases hlt:k<l5
          ·obtain⟨b,o,x,rfl,hb,hx,hat⟩:=cj (HR.p.below HB.out) hlt;obtain⟨va,vl,vc,hvr,z0,z2,z4,c0,c1,c2,c3,c4,c5⟩:=aS hat;have HXx:=aa hx;have HTx:=aa hvr;have HZx0:=aa z0;have HZx2:=aa z2;have HZx4:=aa z4;clear hat hx z0 z2 z4 hvr;by_cases hok:l_ x;rotate_left
           ·have HOK:=aa hok;clear hok;have Gk:=Bk;have HW:=HB;have k4:=fun q:Wd wr=>q.slot (o:=4) Gk.out rfl;obtain⟨x0,x1,x2,x3,x4⟩:=eB;have x5:=fun q:Wd wr=>(q.cell hb).trans c5;have hne0:=Wd.ne wr;have HC0:=aa (fun q:Wd wr=>(eZ x.n x.c x.z va vl vc x.zs x.d x.p q.w HZx0.out HZx2.out HZx4.out (HTx.below q.b)).mono (fun _ _ h=>aq.no h HOK.out));go_wp2_with fail;refine ag an an ?_;repeat (go_big_quiet_step (first|(go_at_call 116;exact Calls.wide (HC0.out _))|fail))
            refine wpQuiet_nil ?_;rintro _ ⟨q,rfl⟩;obtain⟨HB1,Ck⟩:=cn;clear hne0 HW HB HC0 k4 x0 x1 x2 x3 x4 x5 Gk Bk c0 c1 c2 c3 c4 c5 pk;have HB:=HB1;clear HB1;have Bk:=Ck;clear Ck;go_wp2;go_ret;exact aq.f (fun h=>HOK.out (h.2.2.2.2.2.1 k x HXx.out)) HB.out
           have HOK:=aa hok;clear hok;by_cases hk0:0<k;rotate_left
           ·obtain⟨hd,Gk⟩:=ki;have HW:=HB;have k4:=fun q:Wd wr=>q.slot (o:=4) Gk.out rfl;obtain⟨x0,x1,x2,x3,x4⟩:=eB;have x5:=fun q:Wd wr=>(q.cell hb).trans c5;have hne0:=Wd.ne wr;have HC0:=aa (fun q:Wd wr=>(eZ x.n x.c x.z va vl vc x.zs x.d x.p q.w HZx0.out HZx2.out HZx4.out (HTx.below q.b)).mono (fun _ _ h=>aq.yes h HOK.out));go_wp2_with fail;refine ag an an ?_;repeat (go_big_quiet_step (first|(go_at_call 116;exact Calls.wide (HC0.out _))|fail))
            refine wpQuiet_nil ?_;rintro _ ⟨q,rfl⟩;obtain⟨HB1,Ck⟩:=cn;clear hne0 HW HB HC0 k4 x0 x1 x2 x3 x4 x5 Gk Bk c0 c1 c2 c3 c4 c5 pk;exact qk
           have ek:((k:Int) - 1).toNat=k - 1:=af
           obtain⟨b',o',y,e',hb',hy,haty⟩:=cj (HR.p.below HB.out) (show k - 1<l5 by omega);cases e';have y0:wr.cell? ⟨b,o+(k - 1)*6,none⟩=some (.string y.n):=by
            exact ky
           have HXy:=aa hy;clear hy haty;cases hless:xn y.n.toList x.n.toList
           ·obtain⟨Gk,HW,k4⟩:=tF;obtain⟨x0,x1,x2,x3,x4⟩:=eB;have x5:=fun q:Wd wr=>(q.cell hb).trans c5;obtain⟨yw,hne0⟩:=eH;have HC0:=aa (fun q:Wd wr=>(eZ x.n x.c x.z va vl vc x.zs x.d x.p q.w HZx0.out HZx2.out HZx4.out (HTx.below q.b)).mono (fun _ _ h=>aq.yes h HOK.out));go_wp2_with fail;refine ag an an ?_;repeat (go_big_quiet_step (first|(go_at_call 116;exact Calls.wide (HC0.out _))|fail))
            refine wpQuiet_nil ?_;rintro _ ⟨q,rfl⟩;obtain⟨HB1,Ck⟩:=cn;clear hne0 HW HB HC0 k4 x0 x1 x2 x3 x4 x5 yw Gk Bk c0 c1 c2 c3 c4 c5 pk y0;have HB:=HB1;clear HB1;have Bk:=Ck;clear Ck;go_wp2;go_ret;refine aq.f (fun h=>?_) HB.out;have h3:=h.2.2.2.2.2.2 (k - 1) x y ke HXy.out;rw[hless] at h3;cases h3
           ·obtain⟨Gk,HW,k4⟩:=tF;obtain⟨x0,x1,x2,x3,x4⟩:=eB;have x5:=fun q:Wd wr=>(q.cell hb).trans c5;obtain⟨yw,hne0⟩:=eH;have HC0:=aa (fun q:Wd wr=>(eZ x.n x.c x.z va vl vc x.zs x.d x.p q.w HZx0.out HZx2.out HZx4.out (HTx.below q.b)).mono (fun _ _ h=>aq.yes h HOK.out));go_wp2_with fail;refine ag an an ?_;repeat (go_big_quiet_step (first|(go_at_call 116;exact Calls.wide (HC0.out _))|fail))
            refine wpQuiet_nil ?_;rintro _ ⟨q,rfl⟩;obtain⟨HB1,Ck⟩:=cn;clear hne0 HW HB HC0 k4 x0 x1 x2 x3 x4 x5 yw Gk Bk c0 c1 c2 c3 c4 c5 pk y0;exact qp
          ·obtain rfl:l5=k:=af
           have HR5:Hid (dm l_ Pd.n c.ps 8):=⟨by omega,fun j z hz=>HQ.out j z ch hz,fun j z u hz hu=>HO.out j z u ch hz hu⟩;clear HQ HO;go_wp2;go_ret;exact aq.t ⟨HR1.out,HR2.out,HR3.out,HR4.out,HR5.out⟩ HB.out

def tj (c:Cl) (t:ByteArray):Prop:=∃(i:Nat) (k:Kd),c.ks[i]?=some k/\k.n=t
def SV (c:Cl) (v:Vd):Prop:=tj c v.k/\(v.m=⟨#[]⟩\/∃(i:Nat) (x:Xd),c.xs[i]?=some x/\x.n=v.m/\x.v=v.n)
def SX (c:Cl) (x:Xd):Prop:=tj c x.k/\(x.v=⟨#[]⟩\/∃(j:Nat) (v:Vd),c.vs[j]?=some v/\v.n=x.v/\v.m=x.n/\x.z<=v.c/\v.k=x.k/\v.x=x.x)
def mX (c:Cl):Prop:=(∀(j:Nat) z,c.vs[j]?=some z->SV c z)/\(∀(j:Nat) z,c.xs[j]?=some z->SX c z)

theorem lI (d:Ad) (c:Cl) (w:World) (hr:aK w d c.raw) (hks:aJ Kd.n c.ks) (hxs:aJ Xd.n c.xs) (hvs:aJ Vd.n c.vs):
  Calls Tryz.prog 60 #[.agg #[.slice d.a1 d.l1 d.c1,.slice d.a2 d.l2 d.c2,.slice d.a3 d.l3 d.c3,.slice d.a4 d.l4 d.c4,.slice d.a5 d.l5 d.c5,.int .i64 c.now]] w (aq (mX c) w):=by
 obtain⟨a1,l1,y1,a2,l2,y2,a3,l3,y3,a4,l4,y4,a5,l5,y5⟩:=d;dsimp only;obtain⟨HR,hl1,hm1,hl2,hm2,hl3,hm3,hl4,hm4,hl5,hm5⟩:=lP;clear hr;have HKS:=aa hks;have HXS:=aa hxs;have HVS:=aa hvs;clear hks hxs hvs;go_enter Tryz.func60,Tryz.ntmps60;go_wp2;go_loopw [3] (fun i wr=> ∃k:Nat,k<=l3/\i=.int .i64 k/\Hid (∀(j:Nat) z,j<k->c.vs[j]?=some z->SV c z)/\Hid (Below w.heap.size w wr)/\Hid (wr.heap[w.heap.size]?=some (.cells (clo6 a1 l1 y1 a2 l2 y2 a3 l3 y3 a4 l4 y4 a5 l5 y5 c.now) 36 (0,0)))) (fun i _=>l3 - (intOf i).toNat);case atStart=>exact⟨0,by omega,rfl,fun _ _ h=>absurd h af,al _ _,xt⟩
 case round=>
  obtain⟨k,hk,rfl,HQ,HB,Bk⟩:=hrel;have pk:=ck2 Bk;by_cases hlt:k<l3
  ·obtain⟨b,o,v,rfl,hb,hx,hat⟩:=bq (HR.v.below HB.out) hlt;obtain⟨va,vl,vc,hvr,z0,z2,z3,z5,c0,c1,c2,c3,c4,c5,c6,c7⟩:=aE hat;have HXv:=aa hx;have HTv:=aa hvr;have HZv0:=aa z0;have HZv2:=aa z2;have HZv3:=aa z3;have HZv5:=aa z5;clear hat hx z0 z2 z3 z5 hvr;obtain⟨k0,k1,k2,k3,k4,k5⟩:=cs6 Bk;have ltk_0:=ae Bk.out;go_wp2_with fail;refine (eW ⟨a1,l1,y1,a2,l2,y2,(some ⟨b,o,none⟩),l3,y3,a4,l4,y4,a5,l5,y5⟩ c.now c.xs v.m _ (HR.x.below (HB.trans ((al _ _).mono HB.size)))).mono ?_;rintro e w1 ⟨hb2,hf⟩;clear k0 k1 k2 k3 k4 k5 ltk_0;obtain⟨HA0,hbx⟩:=aH hb2;replace Bk:=upK Bk hbx;have Br:=aa HA0;replace HB:=upB HB hbx;clear hb2 hbx HA0;clear pk hb c0 c1 c2 c3 c4 c5 c6 c7;by_cases hkh:tj c v.k;rotate_left
   ·have HKH:=aa hkh;clear hkh;obtain⟨r,hre⟩:∃r:Int,e=.returned (.int .i64 r):=by rcases hf with ⟨j,y,_,_,h⟩|⟨_,h⟩ <;> exact⟨_,h⟩
    subst hre;clear hf;obtain⟨Gk,Gr,HW⟩:=bn;obtain⟨k0,k1,k2,k3,k4,k5⟩:=sl6 Gk;obtain⟨r0,r1,r2,r3,r4,r5,r6,r7⟩:=sl8 Gr;have hne0:=Wd.ne w1;have HC0:=aa (fun q:Wd w1=>ir ⟨a1,l1,y1,a2,l2,y2,(some ⟨b,o,none⟩),l3,y3,a4,l4,y4,a5,l5,y5⟩ c.now c.ks v.k q.w (HR.k.below (HW.trans (q.b.mono HW.size))) (fun j y h1 h2=>HKH.out ⟨j,y,h1,h2⟩));go_wp2_with fail;refine ag an an ?_;repeat (go_big_quiet_step (first|(go_at_call 118;exact Calls.wide (HC0.out _))|fail))
    refine wpQuiet_nil ?_;rintro _ ⟨q1,rfl⟩;have HB2:=upB HW q1.b;obtain⟨Ck,Cr⟩:=cQ;clear hne0 HW HB HC0 k0 k1 k2 k3 k4 k5 r0 r1 r2 r3 r4 r5 r6 r7 Gk Gr Bk Br;have HB:=HB2;clear HB2;have Bk:=Ck;clear Ck;have Br:=Cr;clear Cr;go_wp2;go_ret;exact aq.f (fun h=>HKH.out (h.1 k v HXv.out).1) HB.out
   obtain⟨i2,kd2,g1,g2⟩:=hkh;have HG1:=aa g1;have HG2:=aa g2;have hi20:¬((i2:Int)<0):=af
   have hi21:decide ((i2:Int)<0)=false:=aT
   clear g1 g2;by_cases he:v.m=⟨#[]⟩
   ·have hq:=dh he;have HEm:=aa he;clear he;obtain⟨r,hre⟩:∃r:Int,e=.returned (.int .i64 r):=by rcases hf with ⟨j,y,_,_,h⟩|⟨_,h⟩ <;> exact⟨_,h⟩
    subst hre;clear hf;obtain⟨Gk,Gr,HW⟩:=bn;obtain⟨k0,k1,k2,k3,k4,k5⟩:=sl6 Gk;obtain⟨r0,r1,r2,r3,r4,r5,r6,r7⟩:=sl8 Gr;obtain⟨hne0,HC0⟩:=tO;go_wp2_with fail;refine ag an an ?_;repeat (go_big_quiet_step (first|(go_at_call 118;exact Calls.wide (HC0.out _))|fail))
    refine wpQuiet_nil ?_;rintro _ ⟨q1,rfl⟩;have HB2:=upB HW q1.b;obtain⟨Ck,Cr⟩:=cQ;clear hne0 HW HB HC0 k0 k1 k2 k3 k4 k5 r0 r1 r2 r3 r4 r5 r6 r7 Gk Gr Bk Br;have HB:=HB2;clear HB2;have Bk:=Ck;clear Ck;have Br:=Cr;clear Cr;go_wp2_with fail;refine⟨⟨k+1,by omega,by go_num,fun j z hj hz=>?_,HB.out,Bk.out⟩,by simp[intOf];omega⟩;by_cases e:j=k
    ·subst e;rw[HXv.out] at hz;obtain rfl:=xh hz;exact⟨⟨i2,kd2,HG1.out,HG2.out⟩,.inl HEm.out⟩
    ·exact HQ.out j z af hz
   have hq:=bo he;have HEm:=aa he;clear he;rcases hf with ⟨j4,y,h1,h2,rfl⟩|⟨hh,rfl⟩;rotate_left
   ·have HH:=aa hh;clear hh;obtain⟨Gk,Gr,HW⟩:=bn;obtain⟨k0,k1,k2,k3,k4,k5⟩:=sl6 Gk;obtain⟨r0,r1,r2,r3,r4,r5,r6,r7⟩:=sl8 Gr;obtain⟨hne0,HC0⟩:=tO;go_wp2_with fail;refine ag an an ?_;repeat (go_big_quiet_step (first|(go_at_call 118;exact Calls.wide (HC0.out _))|fail))
    refine wpQuiet_nil ?_;rintro _ ⟨q1,rfl⟩;have HB2:=upB HW q1.b;obtain⟨Ck,Cr⟩:=cQ;clear hne0 HW HB HC0 k0 k1 k2 k3 k4 k5 r0 r1 r2 r3 r4 r5 r6 r7 Gk Gr Bk Br;have HB:=HB2;clear HB2;have Bk:=Ck;clear Ck;have Br:=Cr;clear Cr;go_wp2;go_ret;refine aq.f (fun h=>?_) HB.out;rcases (h.1 k v HXv.out).2 with h2|⟨i,y,h2,h3,_⟩
    ·exact HEm.out h2
    ·exact HH.out i y h2 h3
   have hl4':j4<l4:=by have h3:=(xe.1 h1).1;omega
   obtain⟨b4,o4,y',rfl,hb4,hy',hat⟩:=dn HR.x hl4';rw[h1] at hy';obtain rfl:=xh hy';obtain⟨z0,z2,z4,c0,c1,c2,c3,c4⟩:=bg hat;have HJ:=aa h1;have HN:=aa h2;have hcv:=(ai HB.out hb4).trans c4;have hbv:=xr hb4 HB.size;have hj0:¬((j4:Int)<0):=af
   have hj1:decide ((j4:Int)<0)=false:=aT
   clear hy' hat z0 z2 z4 c0 c1 c2 c3 c4 h1 h2;by_cases hvn:y.v=v.n
   ·have hq2:=a_ hvn;have HVN:=aa hvn;clear hvn;obtain⟨Gk,Gr,HW⟩:=bn;obtain⟨k0,k1,k2,k3,k4,k5⟩:=sl6 Gk;obtain⟨r0,r1,r2,r3,r4,r5,r6,r7⟩:=sl8 Gr;obtain⟨yw,hne0,HC0⟩:=t_;go_wp2_with fail;refine ag an an ?_;repeat (go_big_quiet_step (first|(go_at_call 118;exact Calls.wide (HC0.out _))|fail))
    refine wpQuiet_nil ?_;rintro _ ⟨q1,rfl⟩;have HB2:=upB HW q1.b;obtain⟨Ck,Cr⟩:=cQ;clear hne0 HW HB HC0 k0 k1 k2 k3 k4 k5 r0 r1 r2 r3 r4 r5 r6 r7 yw Gk Gr Bk Br hcv hbv;have HB:=HB2;clear HB2;have Bk:=Ck;clear Ck;have Br:=Cr;clear Cr;go_wp2_with fail;refine⟨⟨k+1,by omega,by go_num,fun j z hj hz=>?_,HB.out,Bk.out⟩,by simp[intOf];omega⟩;by_cases e:j=k
    ·subst e;rw[HXv.out] at hz;obtain rfl:=xh hz;exact⟨⟨i2,kd2,HG1.out,HG2.out⟩,.inr ⟨j4,y,HJ.out,HN.out,HVN.out⟩⟩
    ·exact HQ.out j z af hz
   ·have hq2:=bL hvn;have HVN:=aa hvn;clear hvn;obtain⟨Gk,Gr,HW⟩:=bn;obtain⟨k0,k1,k2,k3,k4,k5⟩:=sl6 Gk;obtain⟨r0,r1,r2,r3,r4,r5,r6,r7⟩:=sl8 Gr;obtain⟨yw,hne0,HC0⟩:=t_;go_wp2_with fail;refine ag an an ?_;repeat (go_big_quiet_step (first|(go_at_call 118;exact Calls.wide (HC0.out _))|fail))
    refine wpQuiet_nil ?_;rintro _ ⟨q1,rfl⟩;have HB2:=upB HW q1.b;obtain⟨Ck,Cr⟩:=cQ;clear hne0 HW HB HC0 k0 k1 k2 k3 k4 k5 r0 r1 r2 r3 r4 r5 r6 r7 yw Gk Gr Bk Br hcv hbv;have HB:=HB2;clear HB2;have Bk:=Ck;clear Ck;have Br:=Cr;clear Cr;go_wp2;go_ret;refine aq.f (fun h=>?_) HB.out;rcases (h.1 k v HXv.out).2 with h2|⟨i,y2,h2,h3,h4⟩
    ·exact HEm.out h2
    ·obtain⟨_,rfl⟩:=HXS.inj h2 HJ.out (h3.trans HN.symm);exact HVN.out h4
  ·obtain rfl:l3=k:=af
   have HQ1:Hid (∀(j:Nat) z,c.vs[j]?=some z->SV c z):=fun j z hz=>HQ.out j z ch hz;clear HQ;have kc:=ck3 Bk;go_wp2;go_loopw [6] (fun i wr=> ∃k:Nat,k<=l4/\i=.int .i64 k/\Hid (∀(j:Nat) z,j<k->c.xs[j]?=some z->SX c z)/\Hid (Below w.heap.size w wr)/\Hid (wr.heap[w.heap.size]?=some (.cells (clo6 a1 l1 y1 a2 l2 y2 a3 l3 y3 a4 l4 y4 a5 l5 y5 c.now) 36 (0,0)))) (fun i _=>l4 - (intOf i).toNat);case atStart=>exact⟨0,by omega,rfl,fun _ _ h=>absurd h af,HB.out,Bk.out⟩
   case round=>
    obtain⟨k,hk,rfl,HQ,HB,Bk⟩:=hrel;have pk:=ck3 Bk;by_cases hlt:k<l4
    ·obtain⟨b,o,x,rfl,hb,hx,hat⟩:=dn (HR.x.below HB.out) hlt;obtain⟨z0,z2,z4,c0,c1,c2,c3,c4⟩:=bg hat;have HXx:=aa hx;have HZx0:=aa z0;have HZx2:=aa z2;have HZx4:=aa z4;clear hat hx z0 z2 z4;obtain⟨k0,k1,k2,k3,k4,k5⟩:=cs6 Bk;have ltk_0:=ae Bk.out;go_wp2_with fail;refine (gH ⟨a1,l1,y1,a2,l2,y2,a3,l3,y3,(some ⟨b,o,none⟩),l4,y4,a5,l5,y5⟩ c.now c.vs x.v _ (HR.v.below (HB.trans ((al _ _).mono HB.size)))).mono ?_;rintro e w1 ⟨hb2,hf⟩;clear k0 k1 k2 k3 k4 k5 ltk_0;obtain⟨HA0,hbx⟩:=aH hb2;replace Bk:=upK Bk hbx;have Br:=aa HA0;replace HB:=upB HB hbx;clear hb2 hbx HA0;clear pk hb c0 c1 c2 c3 c4;by_cases hkh:tj c x.k;rotate_left
     ·have HKH:=aa hkh;clear hkh;obtain⟨r,hre⟩:∃r:Int,e=.returned (.int .i64 r):=by rcases hf with ⟨j,y,_,_,h⟩|⟨_,h⟩ <;> exact⟨_,h⟩
      subst hre;clear hf;obtain⟨k0,k1,k2,k3,k4,k5⟩:=cs6 Bk;have ltk_1:=ae Bk.out;obtain⟨r0,r1,r2,r3,r4⟩:=cs5 Br;have ltr_1:=ae Br.out;go_wp2_with fail;refine (ir ⟨a1,l1,y1,a2,l2,y2,a3,l3,y3,(some ⟨b,o,none⟩),l4,y4,a5,l5,y5⟩ c.now c.ks x.k _ (HR.k.below HB.out) (fun j y h1 h2=>HKH.out ⟨j,y,h1,h2⟩)).mono ?_;rintro e w2 ⟨rfl,hb3⟩;clear k0 k1 k2 k3 k4 k5 ltk_1 r0 r1 r2 r3 r4 ltr_1;replace Bk:=upK Bk hb3;replace Br:=upK Br hb3;replace HB:=upB HB hb3;clear hb3;go_wp2;go_ret;exact aq.f (fun h=>HKH.out (h.2 k x HXx.out).1) HB.out
     obtain⟨i2,kd2,g1,g2⟩:=hkh;have HG1:=aa g1;have HG2:=aa g2;have hi20:¬((i2:Int)<0):=af
     have hi21:decide ((i2:Int)<0)=false:=aT
     clear g1 g2;by_cases he:x.v=⟨#[]⟩
     ·have hq:=dh he;have HEm:=aa he;clear he;obtain⟨r,hre⟩:∃r:Int,e=.returned (.int .i64 r):=by rcases hf with ⟨j,y,_,_,h⟩|⟨_,h⟩ <;> exact⟨_,h⟩
      subst hre;clear hf;obtain⟨k0,k1,k2,k3,k4,k5⟩:=cs6 Bk;have ltk_1:=ae Bk.out;obtain⟨r0,r1,r2,r3,r4⟩:=cs5 Br;have ltr_1:=ae Br.out;go_wp2_with fail;refine (d_ ⟨a1,l1,y1,a2,l2,y2,a3,l3,y3,(some ⟨b,o,none⟩),l4,y4,a5,l5,y5⟩ c.now c.ks x.k _ (HR.k.below HB.out) HKS.out HG1.out HG2.out).mono ?_;rintro e w2 ⟨rfl,hb3⟩;clear k0 k1 k2 k3 k4 k5 ltk_1 r0 r1 r2 r3 r4 ltr_1;replace Bk:=upK Bk hb3;replace Br:=upK Br hb3;replace HB:=upB HB hb3;clear hb3;obtain⟨k0,k1,k2,k3,k4,k5⟩:=cs6 Bk;have ltk_2:=ae Bk.out;obtain⟨r0,r1,r2,r3,r4⟩:=cs5 Br;have ltr_2:=ae Br.out;go_wp2_with fail;refine⟨⟨k+1,by omega,by go_num,fun j z hj hz=>?_,HB.out,Bk.out⟩,by simp[intOf];omega⟩;by_cases e:j=k
      ·subst e;rw[HXx.out] at hz;obtain rfl:=xh hz;exact⟨⟨i2,kd2,HG1.out,HG2.out⟩,.inl HEm.out⟩
      ·exact HQ.out j z af hz
     have hq:=bo he;have HEm:=aa he;clear he;rcases hf with ⟨j3,y,h1,h2,rfl⟩|⟨hh,rfl⟩;rotate_left
     ·have HH:=aa hh;clear hh;obtain⟨k0,k1,k2,k3,k4,k5⟩:=cs6 Bk;have ltk_1:=ae Bk.out;obtain⟨r0,r1,r2,r3,r4⟩:=cs5 Br;have ltr_1:=ae Br.out;go_wp2_with fail;refine (d_ ⟨a1,l1,y1,a2,l2,y2,a3,l3,y3,(some ⟨b,o,none⟩),l4,y4,a5,l5,y5⟩ c.now c.ks x.k _ (HR.k.below HB.out) HKS.out HG1.out HG2.out).mono ?_;rintro e w2 ⟨rfl,hb3⟩;clear k0 k1 k2 k3 k4 k5 ltk_1 r0 r1 r2 r3 r4 ltr_1;replace Bk:=upK Bk hb3;replace Br:=upK Br hb3;replace HB:=upB HB hb3;clear hb3;have pr:=ck4 Br;obtain⟨Gk,Gr,HW⟩:=bn;have k2:=fun q:Wd w2=>q.slot (o:=2) Gk.out rfl;obtain⟨r0,r1,r2,r3,r4⟩:=sl5 Gr;have hne0:=Wd.ne w2;go_wp2_with fail;refine ag an an ?_;repeat (go_big_quiet_step (first|fail))
      refine wpQuiet_nil ?_;rintro _ ⟨q1,rfl⟩;have HB3:=upB HW q1.b;obtain⟨Ck,Cr⟩:=cQ;clear hne0 HW HB k2 r0 r1 r2 r3 r4 Gk Gr Bk Br pr;have HB:=HB3;clear HB3;have Bk:=Ck;clear Ck;have Br:=Cr;clear Cr;go_wp2;go_ret;refine aq.f (fun h=>?_) HB.out;rcases (h.2 k x HXx.out).2 with h2|⟨i,y,h2,h3,_⟩
      ·exact HEm.out h2
      ·exact HH.out i y h2 h3
     have hl3':j3<l3:=by have h3:=(xe.1 h1).1;omega
     obtain⟨b3,o3,y',rfl,hb3,hy',hat⟩:=bq HR.v hl3';rw[h1] at hy';obtain rfl:=xh hy';obtain⟨va,vl,vc,hvr,z0,z2,z3,z5,c0,c1,c2,c3,c4,c5,c6,c7⟩:=aE hat;have HJ:=aa h1;have HN:=aa h2;have hj0:¬((j3:Int)<0):=af
     have hj1:decide ((j3:Int)<0)=false:=aT
     have HC1:=aa c1;have HC3:=aa c3;have HC4:=aa c4;have HC5:=aa c5;have HB3:=aa hb3;clear hy' hat hvr z0 z2 z3 z5 c0 c1 c2 c3 c4 c5 c6 c7 h1 h2 hb3;obtain⟨k0,k1,k2,k3,k4,k5⟩:=cs6 Bk;have ltk_1:=ae Bk.out;obtain⟨r0,r1,r2,r3,r4⟩:=cs5 Br;have ltr_1:=ae Br.out;go_wp2_with fail;refine (d_ ⟨a1,l1,y1,a2,l2,y2,(some ⟨b3,o3,none⟩),l3,y3,(some ⟨b,o,none⟩),l4,y4,a5,l5,y5⟩ c.now c.ks x.k _ (HR.k.below HB.out) HKS.out HG1.out HG2.out).mono ?_;rintro e w2 ⟨rfl,hb3⟩;clear k0 k1 k2 k3 k4 k5 ltk_1 r0 r1 r2 r3 r4 ltr_1;replace Bk:=upK Bk hb3;replace Br:=upK Br hb3;replace HB:=upB HB hb3;clear hb3;have pr:=ck4 Br;have hbv:=xr HB3.out HB.size;have v1:=(ai HB.out HB3.out).trans HC1.out;have v3:=(ai HB.out HB3.out).trans HC3.out;have v4:=(ai HB.out HB3.out).trans HC4.out;have v5:=(ai HB.out HB3.out).trans HC5.out;clear HC1 HC3 HC4 HC5 HB3;by_cases hno:y.m=x.n;rotate_left
     ·have HNo:=aa hno;clear hno;have n1:=bL HNo.out;obtain⟨Gk,Gr,HW⟩:=bn;have k2:=fun q:Wd w2=>q.slot (o:=2) Gk.out rfl;obtain⟨r0,r1,r2,r3,r4⟩:=sl5 Gr;obtain⟨v1w,v3w,v4w,v5w,hne0⟩:=ku;go_wp2_with fail;refine ag an an ?_;repeat (go_big_quiet_step (first|fail))
      refine wpQuiet_nil ?_;rintro _ ⟨q1,rfl⟩;have HB3:=upB HW q1.b;obtain⟨Ck,Cr⟩:=cQ;clear hne0 HW HB k2 r0 r1 r2 r3 r4 v1w v3w v4w v5w Gk Gr Bk Br pr v1 v3 v4 v5 hbv;have HB:=HB3;clear HB3;have Bk:=Ck;clear Ck;have Br:=Cr;clear Cr;go_wp2;go_ret;refine aq.f (fun h=>?_) HB.out;rcases (h.2 k x HXx.out).2 with h2|⟨i,y2,h2,h3,h4⟩
      ·exact HEm.out h2
      ·obtain⟨_,rfl⟩:=HVS.inj h2 HJ.out (h3.trans HN.symm);exact HNo.out h4.1
     have HY1:=aa hno;have q1:=a_ hno;clear hno;by_cases hno:x.z<=y.c;rotate_left
     ·have HNo:=aa hno;clear hno;have n1:y.c<x.z:=by have:=HNo.out;omega
      obtain⟨Gk,Gr,HW⟩:=bn;have k2:=fun q:Wd w2=>q.slot (o:=2) Gk.out rfl;obtain⟨r0,r1,r2,r3,r4⟩:=sl5 Gr;obtain⟨v1w,v3w,v4w,v5w,hne0⟩:=ku;go_wp2_with fail;refine ag an an ?_;repeat (go_big_quiet_step (first|fail))
      refine wpQuiet_nil ?_;rintro _ ⟨q1,rfl⟩;have HB3:=upB HW q1.b;obtain⟨Ck,Cr⟩:=cQ;clear hne0 HW HB k2 r0 r1 r2 r3 r4 v1w v3w v4w v5w Gk Gr Bk Br pr v1 v3 v4 v5 hbv;have HB:=HB3;clear HB3;have Bk:=Ck;clear Ck;have Br:=Cr;clear Cr;go_wp2;go_ret;refine aq.f (fun h=>?_) HB.out;rcases (h.2 k x HXx.out).2 with h2|⟨i,y2,h2,h3,h4⟩
      ·exact HEm.out h2
      ·obtain⟨_,rfl⟩:=HVS.inj h2 HJ.out (h3.trans HN.symm);have h5:=h4.2.1;have h6:=HNo.out;omega
     have HY2:=aa hno;have q2:decide (y.c<x.z)=false:=by simp;omega
     clear hno;by_cases hno:y.k=x.k;rotate_left
     ·have HNo:=aa hno;clear hno;have n1:=bL HNo.out;obtain⟨Gk,Gr,HW⟩:=bn;have k2:=fun q:Wd w2=>q.slot (o:=2) Gk.out rfl;obtain⟨r0,r1,r2,r3,r4⟩:=sl5 Gr;obtain⟨v1w,v3w,v4w,v5w,hne0⟩:=ku;go_wp2_with fail;refine ag an an ?_;repeat (go_big_quiet_step (first|fail))
      refine wpQuiet_nil ?_;rintro _ ⟨q1,rfl⟩;have HB3:=upB HW q1.b;obtain⟨Ck,Cr⟩:=cQ;clear hne0 HW HB k2 r0 r1 r2 r3 r4 v1w v3w v4w v5w Gk Gr Bk Br pr v1 v3 v4 v5 hbv;have HB:=HB3;clear HB3;have Bk:=Ck;clear Ck;have Br:=Cr;clear Cr;go_wp2;go_ret;refine aq.f (fun h=>?_) HB.out;rcases (h.2 k x HXx.out).2 with h2|⟨i,y2,h2,h3,h4⟩
      ·exact HEm.out h2
      ·obtain⟨_,rfl⟩:=HVS.inj h2 HJ.out (h3.trans HN.symm);exact HNo.out h4.2.2.1
     have HY3:=aa hno;have q3:=a_ hno;clear hno;by_cases hno:y.x=x.x;rotate_left
     ·have HNo:=aa hno;clear hno;have n1:(y.x==x.x)=false:=by simpa using HNo.out
      obtain⟨Gk,Gr,HW⟩:=bn;have k2:=fun q:Wd w2=>q.slot (o:=2) Gk.out rfl;obtain⟨r0,r1,r2,r3,r4⟩:=sl5 Gr;obtain⟨v1w,v3w,v4w,v5w,hne0⟩:=ku;go_wp2_with fail;refine ag an an ?_;repeat (go_big_quiet_step (first|fail))
      refine wpQuiet_nil ?_;rintro _ ⟨q1,rfl⟩;have HB3:=upB HW q1.b;obtain⟨Ck,Cr⟩:=cQ;clear hne0 HW HB k2 r0 r1 r2 r3 r4 v1w v3w v4w v5w Gk Gr Bk Br pr v1 v3 v4 v5 hbv;have HB:=HB3;clear HB3;have Bk:=Ck;clear Ck;have Br:=Cr;clear Cr;go_wp2;go_ret;refine aq.f (fun h=>?_) HB.out;rcases (h.2 k x HXx.out).2 with h2|⟨i,y2,h2,h3,h4⟩
      ·exact HEm.out h2
      ·obtain⟨_,rfl⟩:=HVS.inj h2 HJ.out (h3.trans HN.symm);exact HNo.out h4.2.2.2
     have HY4:=aa hno;have q4:(y.x==x.x)=true:=by simpa using hno
     clear hno;obtain⟨Gk,Gr,HW⟩:=bn;have k2:=fun q:Wd w2=>q.slot (o:=2) Gk.out rfl;obtain⟨r0,r1,r2,r3,r4⟩:=sl5 Gr;obtain⟨v1w,v3w,v4w,v5w,hne0⟩:=ku;go_wp2_with fail;refine ag an an ?_;repeat (go_big_quiet_step (first|fail))
     refine wpQuiet_nil ?_;rintro _ ⟨qz,rfl⟩;have HB3:=upB HW qz.b;have Ck:=upK Gk qz.b;have Cr:=upK Gr qz.b;clear hne0 HW HB k2 r0 r1 r2 r3 r4 v1w v3w v4w v5w Gk Gr Bk Br pr v1 v3 v4 v5 hbv;have HB:=HB3;clear HB3;have Bk:=Ck;clear Ck;have Br:=Cr;clear Cr;clear q1 q2 q3 q4;go_wp2_with fail;refine⟨⟨k+1,by omega,by go_num,fun j z hj hz=>?_,HB.out,Bk.out⟩,by simp[intOf];omega⟩;by_cases e:j=k
     ·subst e;rw[HXx.out] at hz;obtain rfl:=xh hz;exact⟨⟨i2,kd2,HG1.out,HG2.out⟩,.inr ⟨j3,y,HJ.out,HN.out,HY1.out,HY2.out,HY3.out,HY4.out⟩⟩
     ·exact HQ.out j z af hz
    ·obtain rfl:l4=k:=af
     have HQ2:Hid (∀(j:Nat) z,c.xs[j]?=some z->SX c z):=fun j z hz=>HQ.out j z ch hz;exact je

def PSa (c:Cl) (p:Pd):Prop:=p.d=⟨#[]⟩\/∃(i:Nat) (n:Nd),c.ns[i]?=some n/\n.n=p.d/\(p.z=⟨#[]⟩\/n.z=p.z)
def vR (c:Cl) (p:Pd) (t:ByteArray):Prop:=(∃(i:Nat) (x:Xd),c.xs[i]?=some x/\x.n=t)/\(p.d=⟨#[]⟩\/∃(v:Vd) (i:Nat) (n:Nd),bp c t v/\c.ns[i]?=some n/\n.n=p.d/\v.z=n.z)
def PSb (c:Cl) (p:Pd):Prop:=∀(j:Nat) t,p.zs[j]?=some t->vR c p t
def PSc (c:Cl) (k:Nat) (p:Pd):Prop:=∀(j:Nat) q,j<k->c.ps[j]?=some q->iS c q p
def PS (c:Cl) (k:Nat) (p:Pd):Prop:=PSa c p/\PSb c p/\PSc c k p
def jB (c:Cl):Prop:=(∀(k:Nat) p,c.ps[k]?=some p->PS c k p)/\∀(j:Nat) n,c.ns[j]?=some n->cpuOf n.n c.ps<=n.c

theorem jV (d:Ad) (c:Cl) (w:World) (hr:aK w d c.raw) (hn:aJ Nd.n c.ns) (hx:aJ Xd.n c.xs) (hv:aJ Vd.n c.vs) (hne:∀(j:Nat) v,c.vs[j]?=some v->¬v.n=⟨#[]⟩) (hps8:c.ps.length<=8) (hpc:∀(j:Nat) p,c.ps[j]?=some p->0<=p.c/\p.c<=1000000):
  Calls Tryz.prog 61 #[.agg #[.slice d.a1 d.l1 d.c1,.slice d.a2 d.l2 d.c2,.slice d.a3 d.l3 d.c3,.slice d.a4 d.l4 d.c4,.slice d.a5 d.l5 d.c5,.int .i64 c.now]] w (aq (jB c) w):=by
 obtain⟨a1,l1,y1,a2,l2,y2,a3,l3,y3,a4,l4,y4,a5,l5,y5⟩:=d;dsimp only;obtain⟨HR,hl1,hm1,hl3⟩:=pY;obtain⟨hl5,hm5⟩:=iD;clear hr;have HNR:=aa hn;obtain⟨HX,HV,HNE⟩:=fY;have HL5:=aa hps8;have HPC:=aa hpc;clear hn hx hv hne hps8 hpc;go_enter Tryz.func61,Tryz.ntmps61;go_wp2;go_loopw [3] (fun i wr=> ∃k:Nat,k<=l5/\i=.int .i64 k/\Hid (∀(j:Nat) z,j<k->c.ps[j]?=some z->PS c j z)/\Hid (Below w.heap.size w wr)/\Hid (wr.heap[w.heap.size]?=some (.cells (clo6 a1 l1 y1 a2 l2 y2 a3 l3 y3 a4 l4 y4 a5 l5 y5 c.now) 36 (0,0)))) (fun i _=>l5 - (intOf i).toNat);case atStart=>exact⟨0,by omega,rfl,fun _ _ h=>absurd h af,al _ _,xt⟩
 case round=>
  obtain⟨k,hk,rfl,HQ,HB,Bk⟩:=hrel;have pk:=ck4 Bk;by_cases hlt:k<l5
  ·obtain⟨b,o,p,rfl,hb,hx,hat⟩:=cj (HR.p.below HB.out) hlt;obtain⟨va,vl,vc,hvr,z0,z2,z4,c0,c1,c2,c3,c4,c5⟩:=aS hat;have HXp:=aa hx;have HTp:=aa hvr;clear hat hx z0 z2 z4 hvr;have hvl:=HTp.1;have hvc:=xp HTp.2.1 HTp.2.2.1;have HVL:=aa hvl;clear hvl;obtain⟨k0,k1,k2,k3,k4,k5⟩:=cs6 Bk;have ltk_0:=ae Bk.out;go_wp2_with fail;refine (gI ⟨a1,l1,y1,a2,l2,y2,a3,l3,y3,a4,l4,y4,(some ⟨b,o,none⟩),l5,y5⟩ c.now c.ns p.d _ (HR.n.below (HB.trans ((al _ _).mono HB.size)))).mono ?_;rintro e w1 ⟨hb2,hf⟩;clear k0 k1 k2 k3 k4 k5 ltk_0;obtain⟨HA0,hbx⟩:=aH hb2;replace Bk:=upK Bk hbx;have Br:=aa HA0;replace HTp:=aa (HTp.below hbx);replace HB:=upB HB hbx;clear hb2 hbx HA0;clear pk hb c0 c1 c2 c3 c4 c5;by_cases he:p.d=⟨#[]⟩
   ·have hq:=dh he;have HEm:=aa he;clear he;obtain⟨r5,hre⟩:∃r:Int,e=.returned (.int .i64 r):=by rcases hf with ⟨j,y,_,_,h⟩|⟨_,h⟩ <;> exact⟨_,h⟩
    subst hre;clear hf;obtain⟨Gk,Gr,HW⟩:=bn;have k0:=fun q:Wd w1=>q.slot (o:=0) Gk.out rfl;obtain⟨r0,r1,r2,r3,r4,r5⟩:=sl6 Gr;have hne0:=Wd.ne w1;go_wp2_with fail;refine ag an an ?_;repeat (go_big_quiet_step (first|fail))
    refine wpQuiet_nil ?_;rintro _ ⟨q0,rfl⟩;obtain⟨HB2,Ck,Cr,CHTp⟩:=km;clear hne0 HW HB k0 r0 r1 r2 r3 r4 r5 Gk Gr Bk Br HTp;have HB:=HB2;clear HB2;have HTp:=CHTp;clear CHTp;have Bk:=Ck;clear Ck;have Br:=Cr;clear Cr;have HPa:Hid (PSa c p):=.inl HEm.out;obtain⟨gb,hgb⟩:∃gb,gb=wr.heap.size:=⟨_,rfl⟩;rw[<-hgb] at Br;have pr3:=ck3 Br;rw[hgb] at pr3;go_wp2;rw[<-hgb];clear pr3 hgb;have KV:=Bk;have GV:=Br;have BV:=HB;have TV:=HTp;clear Bk Br HB HTp;obtain⟨W,hW⟩:∃W,W=q0.w:=⟨_,rfl⟩;rw[<-hW] at KV GV BV TV ⊢;clear hW;go_loopw [6] (fun i wr=> ∃kq:Nat,kq<=vl/\i=.int .i64 kq/\Hid (∀(j:Nat) t,j<kq->p.zs[j]?=some t->vR c p t)/\Hid (Below W.heap.size W wr)) (fun i _=>vl - (intOf i).toNat);case atStart=>exact⟨0,by omega,rfl,fun _ _ h=>absurd h af,xj _ _⟩
    case round=>
     obtain⟨kq,hkq,rfl,HQ2,HBW⟩:=hrel;obtain⟨HB,Bk⟩:=kl;have Br:=upK GV HBW.out;have pr3:=ck3 Br;by_cases hlt2:kq<vl
     ·obtain⟨b2,o2,t,rfl,hb,hxt,hc,hsz⟩:=(TV.below HBW.out).at hlt2;have HXt:=aa hxt;clear hxt hsz;have hcase:(∃v,bp c t v)\/(∀v,¬bp c t v):=by
       exact uB
      rcases hcase with ⟨v,hbd⟩|hbd
      ·obtain⟨j3,hj3⟩:=hbd.at;have hl3':j3<l3:=by have h1:=(xe.1 hj3).1;omega
       obtain⟨b3,o3,v',rfl,hb3,hv',hat⟩:=bq HR.v hl3';rw[hj3] at hv';obtain rfl:=xh hv';obtain⟨xa,xl,xc,hvr,z0,z2,z3,z5,d0,d1,d2,d3,d4,d5,d6,d7⟩:=aE hat;have HJ:=aa hj3;have HD:=aa hbd;have HC2:=aa d2;have HB3:=aa hb3;have hj31:decide ((j3:Int)<0)=false:=aT
       clear hv' hat hvr z0 z2 z3 z5 d0 d1 d2 d3 d4 d5 d6 d7 hj3 hbd hb3;obtain⟨Gk,Gr,HW⟩:=bn;obtain⟨k0,k1,k2,k3,k4,k5⟩:=sl6 Gk;have r3:=fun q:Wd wr=>q.slot (o:=3) Gr.out rfl;obtain⟨tw,hne0⟩:=fZ;have HC0:=aa (fun q:Wd wr=>eu ⟨a1,l1,y1,a2,l2,y2,(some ⟨b3,o3,none⟩),l3,y3,a4,l4,y4,(some ⟨b,o,none⟩),l5,y5⟩ c t q.w (HR.below (HW.trans (q.b.mono HW.size))) HX.out HV.out HNE.out HJ.out HD.out);go_wp2_with fail;refine ag an an ?_;repeat (go_big_quiet_step (first|(go_at_call 68;exact Calls.wide (HC0.out _))|fail))
       refine wpQuiet_nil ?_;rintro _ ⟨q1,rfl⟩;have HB1:=upB HW q1.b;obtain⟨Ck,Cr⟩:=cQ;clear hne0 HW HB HC0 k0 k1 k2 k3 k4 k5 r3 tw Gk Gr Bk Br pr3;have HB:=HB1;clear HB1;have Bk:=Ck;clear Ck;have Br:=Cr;clear Cr;obtain⟨hc1,hb1,HBW1⟩:=nD;clear hc hb HBW;by_cases hg:∃(i:Nat) (x:Xd),c.xs[i]?=some x/\x.n=t;rotate_left
       ·have HG:=aa hg;clear hg;obtain⟨Gk,Gr,HW⟩:=bn;obtain⟨k0,k1,k2,k3,k4,k5⟩:=sl6 Gk;obtain⟨r0,r1,r2,r3,r4,r5⟩:=sl6 Gr;obtain⟨tw,hne0⟩:=gM;have HC0:=aa (fun q:Wd q1.w=>ep ⟨a1,l1,y1,a2,l2,y2,(some ⟨b3,o3,none⟩),l3,y3,a4,l4,y4,(some ⟨b,o,none⟩),l5,y5⟩ c.now c.xs t q.w (HR.x.below (HW.trans (q.b.mono HW.size))) (fun i x h1 h2=>HG.out ⟨i,x,h1,h2⟩));exact vX
       obtain⟨i4,x4,g1,g2⟩:=hg;obtain⟨HG1,HG2,hi41⟩:=nB;clear g1 g2;obtain⟨Gk,Gr,HW⟩:=bn;obtain⟨k0,k1,k2,k3,k4,k5⟩:=sl6 Gk;obtain⟨r0,r1,r2,r3,r4,r5⟩:=sl6 Gr;obtain⟨tw,hne0⟩:=gM;have HC0:=aa (fun q:Wd q1.w=>eV ⟨a1,l1,y1,a2,l2,y2,(some ⟨b3,o3,none⟩),l3,y3,a4,l4,y4,(some ⟨b,o,none⟩),l5,y5⟩ c.now c.xs t q.w (HR.x.below (HW.trans (q.b.mono HW.size))) HX.out HG1.out HG2.out);exact re
      ·have HD:=aa hbd;clear hbd;obtain⟨Gk,Gr,HW⟩:=bn;obtain⟨k0,k1,k2,k3,k4,k5⟩:=sl6 Gk;have r3:=fun q:Wd wr=>q.slot (o:=3) Gr.out rfl;obtain⟨tw,hne0⟩:=fZ;have HC0:=aa (fun q:Wd wr=>eP ⟨a1,l1,y1,a2,l2,y2,a3,l3,y3,a4,l4,y4,(some ⟨b,o,none⟩),l5,y5⟩ c t q.w (HR.below (HW.trans (q.b.mono HW.size))) HX.out HV.out HNE.out HD.out);go_wp2_with fail;refine ag an an ?_;repeat (go_big_quiet_step (first|(go_at_call 68;exact Calls.wide (HC0.out _))|fail))
       refine wpQuiet_nil ?_;rintro _ ⟨q1,rfl⟩;have HB1:=upB HW q1.b;obtain⟨Ck,Cr⟩:=cQ;clear hne0 HW HB HC0 k0 k1 k2 k3 k4 k5 r3 tw Gk Gr Bk Br pr3;have HB:=HB1;clear HB1;have Bk:=Ck;clear Ck;have Br:=Cr;clear Cr;obtain⟨hc1,hb1,HBW1⟩:=nD;clear hc hb HBW;by_cases hg:∃(i:Nat) (x:Xd),c.xs[i]?=some x/\x.n=t;rotate_left
       ·have HG:=aa hg;clear hg;obtain⟨Gk,Gr,HW⟩:=bn;obtain⟨k0,k1,k2,k3,k4,k5⟩:=sl6 Gk;obtain⟨r0,r1,r2,r3,r4,r5⟩:=sl6 Gr;obtain⟨tw,hne0⟩:=gM;have HC0:=aa (fun q:Wd q1.w=>ep ⟨a1,l1,y1,a2,l2,y2,a3,l3,y3,a4,l4,y4,(some ⟨b,o,none⟩),l5,y5⟩ c.now c.xs t q.w (HR.x.below (HW.trans (q.b.mono HW.size))) (fun i x h1 h2=>HG.out ⟨i,x,h1,h2⟩));exact vX
       obtain⟨i4,x4,g1,g2⟩:=hg;obtain⟨HG1,HG2,hi41⟩:=nB;clear g1 g2;obtain⟨Gk,Gr,HW⟩:=bn;obtain⟨k0,k1,k2,k3,k4,k5⟩:=sl6 Gk;obtain⟨r0,r1,r2,r3,r4,r5⟩:=sl6 Gr;obtain⟨tw,hne0⟩:=gM;have HC0:=aa (fun q:Wd q1.w=>eV ⟨a1,l1,y1,a2,l2,y2,a3,l3,y3,a4,l4,y4,(some ⟨b,o,none⟩),l5,y5⟩ c.now c.xs t q.w (HR.x.below (HW.trans (q.b.mono HW.size))) HX.out HG1.out HG2.out);exact re
     ·obtain rfl:vl=kq:=af
      have HQb:Hid (PSb c p):=fun j t ht=>HQ2.out j t tx ht;clear HQ2;have TV2:=aa (TV.below HBW.out);have KV2:=Bk;have GV2:=Br;have BV2:=HB;clear KV GV BV TV Bk Br HB HBW;obtain⟨W2,hW⟩:∃W2,W2=wr:=⟨_,rfl⟩;rw[<-hW] at KV2 GV2 BV2 TV2;go_wp2;clear pr3;rw[<-hW];clear hW;go_loopw [8] (fun i wr=> ∃kz:Nat,kz<=k/\i=.int .i64 kz/\Hid (∀(j:Nat) q,j<kz->c.ps[j]?=some q->iS c q p)/\Hid (Below W2.heap.size W2 wr)) (fun i _=>k - (intOf i).toNat);case atStart=>exact⟨0,by omega,rfl,fun _ _ h=>absurd h af,xj _ _⟩
      case round=>
       obtain⟨kz,hkz,rfl,HQ3,HBW⟩:=hrel;have HB:=aa (BV2.trans (HBW.mono BV2.size));have Bk:=upK KV2 HBW.out;have Br:=upK GV2 HBW.out;have HTp:=aa (TV2.below HBW.out);by_cases hlt3:kz<k
       ·obtain⟨b',o',pq,e',hb',hqq,hatq⟩:=cj (HR.p.below HB.out) (show kz<l5 by omega);cases e';obtain⟨qa,ql,qc,hqr,z0,z2,z4,d0,d1,d2,d3,d4,d5⟩:=aS hatq;have HXq:=aa hqq;have HTq:=aa hqr;clear hatq hqq hqr z0 z2 z4;by_cases hpr:iS c pq p
        ·have HPr:=aa hpr;clear hpr;obtain⟨Gk,Gr,HW⟩:=bn;obtain⟨k0,k1,k2,k3,k4,k5⟩:=sl6 Gk;obtain⟨r0,r1,r2,r3,r4,r5⟩:=sl6 Gr;obtain⟨q0,q1,q2,q3,q4,q5,hne0⟩:=sN;have HC0:=aa (fun qw:Wd wr=>(er ⟨a1,l1,y1,a2,l2,y2,a3,l3,y3,a4,l4,y4,(some ⟨b,o,none⟩),l5,y5⟩ c pq p qa ql qc va vl vc qw.w (HR.below (HW.trans (qw.b.mono HW.size))) HX.out HV.out HNE.out (HTq.below qw.b) (HTp.below qw.b)).mono (fun _ _ h=>aq.yes h HPr.out));exact rf
        ·have HPr:=aa hpr;clear hpr;obtain⟨Gk,Gr,HW⟩:=bn;obtain⟨k0,k1,k2,k3,k4,k5⟩:=sl6 Gk;obtain⟨r0,r1,r2,r3,r4,r5⟩:=sl6 Gr;obtain⟨q0,q1,q2,q3,q4,q5,hne0⟩:=sN;have HC0:=aa (fun qw:Wd wr=>(er ⟨a1,l1,y1,a2,l2,y2,a3,l3,y3,a4,l4,y4,(some ⟨b,o,none⟩),l5,y5⟩ c pq p qa ql qc va vl vc qw.w (HR.below (HW.trans (qw.b.mono HW.size))) HX.out HV.out HNE.out (HTq.below qw.b) (HTp.below qw.b)).mono (fun _ _ h=>aq.no h HPr.out));exact rb
       ·exact q_
   have hq:=bo he;have HEm:=aa he;clear he;rcases hf with ⟨j1,n,h1,h2,rfl⟩|⟨hh,rfl⟩;rotate_left
   ·have HH:=aa hh;clear hh;obtain⟨Gk,Gr,HW⟩:=bn;have k0:=fun q:Wd w1=>q.slot (o:=0) Gk.out rfl;obtain⟨r0,r1,r2,r3,r4,r5⟩:=sl6 Gr;have hne0:=Wd.ne w1;go_wp2_with fail;refine ag an an ?_;repeat (go_big_quiet_step (first|fail))
    refine wpQuiet_nil ?_;rintro _ ⟨q0,rfl⟩;obtain⟨HB2,Ck,Cr,CHTp⟩:=km;clear hne0 HW HB k0 r0 r1 r2 r3 r4 r5 Gk Gr Bk Br HTp;have HB:=HB2;clear HB2;have HTp:=CHTp;clear CHTp;have Bk:=Ck;clear Ck;have Br:=Cr;clear Cr;go_wp2;go_ret;refine aq.f (fun h=>?_) HB.out;rcases (h.1 k p HXp.out).1 with h2|⟨i,n,h2,h3,_⟩
    ·exact HEm.out h2
    ·exact HH.out i n h2 h3
   have hl1':j1<l1:=by have h3:=(xe.1 h1).1;omega
   obtain⟨b1,o1,n',rfl,hb1n,hn',hat⟩:=bU HR.n hl1';rw[h1] at hn';obtain rfl:=xh hn';obtain⟨na,nl,nc,hnr,z0,z1,d0,d1,d2,d3,d4,d5,d6⟩:=aQ hat;have HJn:=aa h1;have HNn:=aa h2;have HCn:=aa d1;have HBn:=aa hb1n;have hj11:decide ((j1:Int)<0)=false:=aT
   have hbn:=xr hb1n HB.size;have n1:=(ai HB.out hb1n).trans d1;clear hn' hat hnr z0 z1 d0 d1 d2 d3 d4 d5 d6 h1 h2 hb1n;by_cases hz0:p.z=⟨#[]⟩
   ·have hq2:=dh hz0;have HPa:Hid (PSa c p):=.inr ⟨j1,n,HJn.out,HNn.out,.inl hz0⟩;clear hz0;obtain⟨Gk,Gr,HW⟩:=bn;have k0:=fun q:Wd w1=>q.slot (o:=0) Gk.out rfl;obtain⟨r0,r1,r2,r3,r4,r5⟩:=sl6 Gr;have nw:=fun q:Wd w1=>(q.cell hbn).trans n1;have hne0:=Wd.ne w1;go_wp2_with fail;refine ag an an ?_;repeat (go_big_quiet_step (first|fail))
    refine wpQuiet_nil ?_;rintro _ ⟨q0,rfl⟩;obtain⟨HB2,Ck,Cr,CHTp⟩:=km;clear hne0 HW HB k0 r0 r1 r2 r3 r4 r5 nw Gk Gr Bk Br HTp hbn n1;have HB:=HB2;clear HB2;have HTp:=CHTp;clear CHTp;have Bk:=Ck;clear Ck;have Br:=Cr;clear Cr;clear hq2;exact rh
   have hq2:=bo hz0;by_cases hz1:n.z=p.z
   ·have hq3:=a_ hz1;have HPa:Hid (PSa c p):=.inr ⟨j1,n,HJn.out,HNn.out,.inr hz1⟩;clear hz0 hz1;obtain⟨Gk,Gr,HW⟩:=bn;have k0:=fun q:Wd w1=>q.slot (o:=0) Gk.out rfl;obtain⟨r0,r1,r2,r3,r4,r5⟩:=sl6 Gr;have nw:=fun q:Wd w1=>(q.cell hbn).trans n1;have hne0:=Wd.ne w1;go_wp2_with fail;refine ag an an ?_;repeat (go_big_quiet_step (first|fail))
    refine wpQuiet_nil ?_;rintro _ ⟨q0,rfl⟩;obtain⟨HB2,Ck,Cr,CHTp⟩:=km;clear hne0 HW HB k0 r0 r1 r2 r3 r4 r5 nw Gk Gr Bk Br HTp hbn n1;have HB:=HB2;clear HB2;have HTp:=CHTp;clear CHTp;have Bk:=Ck;clear Ck;have Br:=Cr;clear Cr;clear hq2 hq3;exact rh
   ·have hq3:=bL hz1;have HZ0:=aa hz0;have HZ1:=aa hz1;clear hz0 hz1;obtain⟨Gk,Gr,HW⟩:=bn;have k0:=fun q:Wd w1=>q.slot (o:=0) Gk.out rfl;obtain⟨r0,r1,r2,r3,r4,r5⟩:=sl6 Gr;have nw:=fun q:Wd w1=>(q.cell hbn).trans n1;have hne0:=Wd.ne w1;go_wp2_with fail;refine ag an an ?_;repeat (go_big_quiet_step (first|fail))
    refine wpQuiet_nil ?_;rintro _ ⟨q0,rfl⟩;obtain⟨HB2,Ck,Cr,CHTp⟩:=km;clear hne0 HW HB k0 r0 r1 r2 r3 r4 r5 nw Gk Gr Bk Br HTp hbn n1;have HB:=HB2;clear HB2;have HTp:=CHTp;clear CHTp;have Bk:=Ck;clear Ck;have Br:=Cr;clear Cr;go_wp2;go_ret;refine aq.f (fun h=>?_) HB.out;rcases (h.1 k p HXp.out).1 with h2|⟨i,n',h2,h3,h4⟩
    ·exact HEm.out h2
    ·obtain⟨_,rfl⟩:=HNR.inj h2 HJn.out (h3.trans HNn.symm);rcases h4 with h4|h4
     ·exact HZ0.out h4
     ·exact HZ1.out h4
  ·obtain rfl:l5=k:=af
   have HQ1:Hid (∀(k:Nat) p,c.ps[k]?=some p->PS c k p):=fun j z hz=>HQ.out j z ch hz;clear HQ;go_wp2;clear pk;go_loopw [9] (fun i wr=> ∃k:Nat,k<=l1/\i=.int .i64 k/\Hid (∀(j:Nat) n,j<k->c.ns[j]?=some n->cpuOf n.n c.ps<=n.c)/\Hid (Below w.heap.size w wr)/\Hid (wr.heap[w.heap.size]?=some (.cells (clo6 a1 l1 y1 a2 l2 y2 a3 l3 y3 a4 l4 y4 a5 l5 y5 c.now) 36 (0,0)))) (fun i _=>l1 - (intOf i).toNat);case atStart=>exact⟨0,by omega,rfl,fun _ _ h=>absurd h af,HB.out,Bk.out⟩
   case round=>
    obtain⟨k,hk,rfl,HQ,HB,Bk⟩:=hrel;have pk:=ck0 Bk;by_cases hlt:k<l1
    ·obtain⟨b,o,n,rfl,hb,hx,hat⟩:=bU (HR.n.below HB.out) hlt;obtain⟨va,vl,vc,hvr,z0,z1,c0,c1,c2,c3,c4,c5,c6⟩:=aQ hat;have HXn:=aa hx;clear hat hx z0 z1 hvr;have Gk:=Bk;have HW:=HB;obtain⟨k0,k1,k2,k3,k4,k5⟩:=sl6 Gk;have n0w:=fun q:Wd wr=>(q.cell hb).trans c0;have n2w:=fun q:Wd wr=>(q.cell hb).trans c2;have hne0:=Wd.ne wr;have HC0:=aa (fun q:Wd wr=>ox ⟨(some ⟨b,o,none⟩),l1,y1,a2,l2,y2,a3,l3,y3,a4,l4,y4,a5,l5,y5⟩ c.now c.ps n.n q.w (HR.p.below (HW.trans (q.b.mono HW.size))) HL5.out HPC.out);go_wp2_with fail;refine ag an an ?_;repeat (go_big_quiet_step (first|(go_at_call 120;exact Calls.wide (HC0.out _))|fail))
     refine wpQuiet_nil ?_;rintro _ ⟨q1,rfl⟩;obtain⟨HB1,Ck⟩:=dV;clear hne0 HW HB HC0 k0 k1 k2 k3 k4 k5 n0w n2w Gk Bk pk c0 c1 c2 c3 c4 c5 c6 hb;have HB:=HB1;clear HB1;have Bk:=Ck;clear Ck;by_cases hq:cpuOf n.n c.ps<=n.c
     ·exact uH
     ·have HCq:=aa hq;go_wp2;go_ret;exact aq.f (fun h=>by have h1:cpuOf n.n c.ps<=n.c:=h.2 k n HXn.out;have h2:=HCq.out;omega) HB.out
    ·exact rK

def pf (c:Cl):Prop:=(∀(j:Nat) z,c.vs[j]?=some z->AQ1 c z)/\∀(j:Nat) n,c.ns[j]?=some n->onOf n.n c.vs<=n.s

theorem ij (d:Ad) (c:Cl) (w:World) (hr:aK w d c.raw) (hn:aJ Nd.n c.ns) (hvs8:c.vs.length<=8):
  Calls Tryz.prog 62 #[.agg #[.slice d.a1 d.l1 d.c1,.slice d.a2 d.l2 d.c2,.slice d.a3 d.l3 d.c3,.slice d.a4 d.l4 d.c4,.slice d.a5 d.l5 d.c5,.int .i64 c.now]] w (aq (pf c) w):=by
 obtain⟨a1,l1,y1,a2,l2,y2,a3,l3,y3,a4,l4,y4,a5,l5,y5⟩:=d;dsimp only;obtain⟨HR,hl1,hm1,hl3⟩:=pY;have hm3:l3<=9223372036854775807:=xp hr.v.2.1 hr.v.2.2.1;clear hr;have HNR:=aa hn;have HL3:=aa hvs8;clear hn hvs8;go_enter Tryz.func62,Tryz.ntmps62;go_wp2;go_loopw [3] (fun i wr=> ∃k:Nat,k<=l3/\i=.int .i64 k/\Hid (∀(j:Nat) z,j<k->c.vs[j]?=some z->AQ1 c z)/\Hid (Below w.heap.size w wr)/\Hid (wr.heap[w.heap.size]?=some (.cells (clo6 a1 l1 y1 a2 l2 y2 a3 l3 y3 a4 l4 y4 a5 l5 y5 c.now) 36 (0,0)))) (fun i _=>l3 - (intOf i).toNat);case atStart=>exact⟨0,by omega,rfl,fun _ _ h=>absurd h af,al _ _,xt⟩
 case round=>
  obtain⟨k,hk,rfl,HQ,HB,Bk⟩:=hrel;have pk:=ck2 Bk;by_cases hlt:k<l3
  ·obtain⟨b,o,v,rfl,hb,hx,hat⟩:=bq (HR.v.below HB.out) hlt;obtain⟨va,vl,vc,hvr,z0,z2,z3,z5,c0,c1,c2,c3,c4,c5,c6,c7⟩:=aE hat;have HXv:=aa hx;have HTv:=aa hvr;clear hat hx z0 z2 z3 z5 hvr;have hvl:=HTv.1;have hvc:=xp HTv.2.1 HTv.2.2.1;have HVL:=aa hvl;clear hvl;have KV:Hid ((wr.alloc (.cells (vov v va vl vc) 62)).heap[w.heap.size]?=some (.cells (clo6 a1 l1 y1 a2 l2 y2 (some ⟨b,o,none⟩) l3 y3 a4 l4 y4 a5 l5 y5 c.now) 36 (0,0))):=(xM wr (.cells (vov v va vl vc) 62) _ (ae Bk.out)).trans Bk.out;obtain⟨GV,BV⟩:=tP;have TT:=aa (HTv.below (al wr (.cells (vov v va vl vc) 62)));obtain⟨W,hW⟩:∃W,W=wr.alloc (.cells (vov v va vl vc) 62):=⟨_,rfl⟩;obtain⟨gb,hgb⟩:∃gb,gb=wr.heap.size:=⟨_,rfl⟩;rw[<-hW] at KV GV BV TT;rw[<-hgb] at GV;go_wp2;rw[<-hW,<-hgb];clear hW hgb HB Bk HTv c0 c1 c2 c3 c4 c5 c6 c7 hb pk;go_loopw [5] (fun i wr=> ∃kq:Nat,kq<=vl/\i=.int .i64 kq/\Hid (∀(j:Nat) t,j<kq->v.zs[j]?=some t->∃(i:Nat) (n:Nd),c.ns[i]?=some n/\n.n=t/\n.z=v.z)/\Hid (Below W.heap.size W wr)) (fun i _=>vl - (intOf i).toNat);case atStart=>exact⟨0,by omega,rfl,fun _ _ h=>absurd h af,xj _ _⟩
   case round=>
    obtain⟨kq,hkq,rfl,HQ2,HBW⟩:=hrel;obtain⟨HB,Bk⟩:=kl;have Bv:=upK GV HBW.out;have pv:=ck7 Bv;by_cases hlt2:kq<vl
    ·obtain⟨b2,o2,t,rfl,hb,hx,hc,hsz⟩:=(TT.below HBW.out).at hlt2;have HXt:=aa hx;clear hx hsz;by_cases hnn:∃(i:Nat) (n:Nd),c.ns[i]?=some n/\n.n=t;rotate_left
     ·have HH:=aa hnn;clear hnn;obtain⟨Gk,Gv,HW,k0,k1,k2,k3,k4,k5⟩:=tY;have v7:=fun q:Wd wr=>q.slot (o:=7) Gv.out rfl;obtain⟨tw,hne0⟩:=fZ;have HC0:=aa (fun q:Wd wr=>ow ⟨a1,l1,y1,a2,l2,y2,(some ⟨b,o,none⟩),l3,y3,a4,l4,y4,a5,l5,y5⟩ c.now c.ns t q.w (HR.n.below (HW.trans (q.b.mono HW.size))) (fun i n h1 h2=>HH.out ⟨i,n,h1,h2⟩));go_wp2_with fail;refine ag an an ?_;repeat (go_big_quiet_step (first|(go_at_call 71;exact Calls.wide (HC0.out _))|fail))
      refine wpQuiet_nil ?_;rintro _ ⟨q1,rfl⟩;obtain⟨HB1,Ck⟩:=dV;have Cv:=upK Gv q1.b;clear hne0 HW HB HC0 k0 k1 k2 k3 k4 k5 v7 tw Gk Gv Bk Bv pv;have HB:=HB1;clear HB1;have Bk:=Ck;clear Ck;have Bv:=Cv;clear Cv;obtain⟨Gk,Gv,HW,k0,v2,v7⟩:=p8;have hne0:=Wd.ne q1.w;go_wp2_with fail;refine ag an an ?_;repeat (go_big_quiet_step (first|fail))
      refine wpQuiet_nil ?_;rintro _ ⟨q2,rfl⟩;obtain⟨HB2,Ck⟩:=cX;have Cv:=upK Gv q2.b;clear hne0 HW HB k0 v2 v7 Gk Gv Bk Bv;have HB:=HB2;clear HB2;have Bk:=Ck;clear Ck;have Bv:=Cv;clear Cv;go_wp2;go_ret;refine aq.f (fun h=>?_) HB.out;obtain⟨i,n,h2,h3,_⟩:=(h.1 k v HXv.out) kq t HXt.out;exact HH.out ⟨i,n,h2,h3⟩
     obtain⟨j1,n,h1,h2⟩:=hnn;have hl1':j1<l1:=by have h3:=(xe.1 h1).1;omega
     obtain⟨b1,o1,n',rfl,hb1n,hn',hat⟩:=bU HR.n hl1';rw[h1] at hn';obtain rfl:=xh hn';obtain⟨na,nl,nc,hnr,z0,z1,d0,d1,d2,d3,d4,d5,d6⟩:=aQ hat;have HJn:=aa h1;have HNn:=aa h2;have HCn:=aa d1;have HBn:=aa hb1n;have hj11:decide ((j1:Int)<0)=false:=aT
     clear hn' hat hnr z0 z1 d0 d1 d2 d3 d4 d5 d6 h1 h2 hb1n;have Gk:=Bk;have Gv:=Bv;have HW:=HB;obtain⟨k0,k1,k2,k3,k4,k5⟩:=sl6 Gk;have v7:=fun q:Wd wr=>q.slot (o:=7) Gv.out rfl;obtain⟨tw,hne0⟩:=fZ;have HC0:=aa (fun q:Wd wr=>dZ ⟨(some ⟨b1,o1,none⟩),l1,y1,a2,l2,y2,(some ⟨b,o,none⟩),l3,y3,a4,l4,y4,a5,l5,y5⟩ c.now c.ns t q.w (HR.n.below (HW.trans (q.b.mono HW.size))) HNR.out HJn.out HNn.out);go_wp2_with fail;refine ag an an ?_;repeat (go_big_quiet_step (first|(go_at_call 71;exact Calls.wide (HC0.out _))|fail))
     refine wpQuiet_nil ?_;rintro _ ⟨q1,rfl⟩;obtain⟨HB1,Ck⟩:=dV;have Cv:=upK Gv q1.b;clear hne0 HW HB HC0 k0 k1 k2 k3 k4 k5 v7 tw Gk Gv Bk Bv pv hb hc;have HB:=HB1;clear HB1;have Bk:=Ck;clear Ck;have Bv:=Cv;clear Cv;have HBW1:=upB HBW q1.b;have hbn:=xr HBn.out HB.size;have n1:=(ai HB.out HBn.out).trans HCn.out;clear HBW;by_cases hz:n.z=v.z
     ·have q8:=a_ hz;have HZ:=aa hz;clear hz;obtain⟨Gk,Gv,HW,k0,v2,v7⟩:=p8;have nw:=fun q:Wd q1.w=>(q.cell hbn).trans n1;have hne0:=Wd.ne q1.w;go_wp2_with fail;refine ag an an ?_;repeat (go_big_quiet_step (first|fail))
      refine wpQuiet_nil ?_;rintro _ ⟨q2,rfl⟩;obtain⟨HB2,Ck⟩:=cX;have Cv:=upK Gv q2.b;clear hne0 HW HB k0 v2 v7 nw Gk Gv Bk Bv hbn n1;have HB:=HB2;clear HB2;have Bk:=Ck;clear Ck;have Bv:=Cv;clear Cv;clear q8;go_wp2_with fail;refine⟨⟨kq+1,by omega,by go_num,fun j s hj hs=>?_,HBW1.trans (q2.b.mono HBW1.size)⟩,by simp[intOf];omega⟩;by_cases e:j=kq
      ·subst e;rw[HXt.out] at hs;obtain rfl:=xh hs;exact⟨j1,n,HJn.out,HNn.out,HZ.out⟩
      ·exact HQ2.out j s af hs
     ·have q8:=bL hz;have HZ:=aa hz;clear hz;obtain⟨Gk,Gv,HW,k0,v2,v7⟩:=p8;have nw:=fun q:Wd q1.w=>(q.cell hbn).trans n1;have hne0:=Wd.ne q1.w;go_wp2_with fail;refine ag an an ?_;repeat (go_big_quiet_step (first|fail))
      refine wpQuiet_nil ?_;rintro _ ⟨q2,rfl⟩;obtain⟨HB2,Ck⟩:=cX;have Cv:=upK Gv q2.b;clear hne0 HW HB k0 v2 v7 nw Gk Gv Bk Bv hbn n1;have HB:=HB2;clear HB2;have Bk:=Ck;clear Ck;have Bv:=Cv;clear Cv;go_wp2;go_ret;refine aq.f (fun h=>?_) HB.out;obtain⟨i,m2,e1,e2,e3⟩:=(h.1 k v HXv.out) kq t HXt.out;obtain⟨_,rfl⟩:=HNR.inj e1 HJn.out (e2.trans HNn.symm);exact HZ.out e3
    ·exact uT
  ·obtain rfl:l3=k:=af
   have HQ1:Hid (∀(j:Nat) z,c.vs[j]?=some z->AQ1 c z):=fun j z hz=>HQ.out j z ch hz;clear HQ;go_wp2;clear pk;go_loopw [7] (fun i wr=> ∃k:Nat,k<=l1/\i=.int .i64 k/\Hid (∀(j:Nat) n,j<k->c.ns[j]?=some n->onOf n.n c.vs<=n.s)/\Hid (Below w.heap.size w wr)/\Hid (wr.heap[w.heap.size]?=some (.cells (clo6 a1 l1 y1 a2 l2 y2 a3 l3 y3 a4 l4 y4 a5 l5 y5 c.now) 36 (0,0)))) (fun i _=>l1 - (intOf i).toNat);case atStart=>exact⟨0,by omega,rfl,fun _ _ h=>absurd h af,HB.out,Bk.out⟩
   case round=>
    obtain⟨k,hk,rfl,HQ,HB,Bk⟩:=hrel;have pk:=ck0 Bk;by_cases hlt:k<l1
    ·obtain⟨b,o,n,rfl,hb,hx,hat⟩:=bU (HR.n.below HB.out) hlt;obtain⟨va,vl,vc,hvr,z0,z1,c0,c1,c2,c3,c4,c5,c6⟩:=aQ hat;have HXn:=aa hx;clear hat hx z0 z1 hvr;have Gk:=Bk;have HW:=HB;obtain⟨k0,k1,k2,k3,k4,k5⟩:=sl6 Gk;have n0w:=fun q:Wd wr=>(q.cell hb).trans c0;have n2w:=fun q:Wd wr=>(q.cell hb).trans c3;have hne0:=Wd.ne wr;have HC0:=aa (fun q:Wd wr=>ng ⟨(some ⟨b,o,none⟩),l1,y1,a2,l2,y2,a3,l3,y3,a4,l4,y4,a5,l5,y5⟩ c.now c.vs n.n q.w (HR.v.below (HW.trans (q.b.mono HW.size))) HL3.out);go_wp2_with fail;refine ag an an ?_;repeat (go_big_quiet_step (first|(go_at_call 70;exact Calls.wide (HC0.out _))|fail))
     refine wpQuiet_nil ?_;rintro _ ⟨q1,rfl⟩;obtain⟨HB1,Ck⟩:=dV;clear hne0 HW HB HC0 k0 k1 k2 k3 k4 k5 n0w n2w Gk Bk pk c0 c1 c2 c3 c4 c5 c6 hb;have HB:=HB1;clear HB1;have Bk:=Ck;clear Ck;by_cases hq:onOf n.n c.vs<=n.s
     ·exact uH
     ·have HCq:=aa hq;go_wp2;go_ret;exact aq.f (fun h=>by have h1:onOf n.n c.vs<=n.s:=h.2 k n HXn.out;have h2:=HCq.out;omega) HB.out
    ·exact rK

end Rc
end Go.Proofs.YtbbdcjbfnjlndaaGreatDoor

namespace Go.Proofs.YtbbdcjbfnjlndaaGreatDoor
open Go.RowKit

theorem Grow.bf {P:Program} {ops:Array Oper} {Q:Exit->Act->World->Prop} {W:World} {a0:Act} {back:Option Oper} {o:Oper} {rest:List Oper} {known:List (Tmp×Fact)} {t:Tmp} {c:Value}
  (h:Grow P ops Q W a0 back rest ((t,fun v _=>v=c) ::known)) (hd:o.dst=some t:=by rfl)
  (ho:Obl P ops Q W a0 known o (fun v _=>v=c):=by
   refine Obl.plain rfl ?_;intro ac wg K hsz hW hf hK;clear hsz;simp[da,Op.operands,ak,xg] at hf;go_simp;refine hK _ _ (xj _ _) ?_;first|with_reducible rfl|(simp;done)|rfl):Grow P ops Q W a0 back (o ::rest) known:=Grow.ar c hd ho h

theorem Grow.bT {P:Program} {ops:Array Oper} {Q:Exit->Act->World->Prop} {W:World} {a0:Act} {back:Option Oper} {o:Oper} {rest:List Oper} {known:List (Tmp×Fact)} {t:Tmp} {c:Value} {b:Nat} {cs:Array Value} {T:TypeId} {f:Nat×Nat}
  (hB:W.heap[b]?=some (.cells cs T f)) (h:Grow P ops Q W a0 back rest ((t,fun v _=>v=c) ::known)) (hd:o.dst=some t:=by rfl)
  (ho:W.heap[b]?=some (.cells cs T f)->Obl P ops Q W a0 known o (fun v _=>v=c):=by
   intro hB;refine Obl.plain rfl ?_;intro ac wg K hsz hW hf hK;clear hsz;have gd:=(hW.block _ (ae hB)).trans hB;clear hB;simp[da,Op.operands,ak,xg] at hf;first
    | obtain⟨k0,k1,k2,k3,k4,k5⟩:=cs6 gd
    | obtain⟨k0,k1,k2,k3,k4,k5,k6,k7⟩:=cs8 gd
    | obtain⟨k0,k1,k2,k3,k4,k5,k6⟩:=cs7 gd
    | obtain⟨k0,k1,k2,k3,k4,k5,k6,k7,k8⟩:=cs9 gd
    | obtain⟨k0,k1⟩:=cs2 gd
    | obtain⟨k0,k1,k2,k3⟩:=cs4 gd
    | obtain⟨k0,k1,k2,k3,k4⟩:=cs5 gd
   clear gd;go_simp;refine hK _ _ (xj _ _) ?_;first|with_reducible rfl|(simp;done)|rfl):Grow P ops Q W a0 back (o ::rest) known:=Grow.ar c hd (ho hB) h

end Go.Proofs.YtbbdcjbfnjlndaaGreatDoor

namespace Go.Proofs.YtbbdcjbfnjlndaaGreatDoor
open Go.RowKit
namespace Rc
open Mk

def jE (W:World):Fact:=fun v w=> ∃g,v=.pointer (some ⟨g,0,none⟩)/\W.heap.size<=g/\w.heap[g]?=some (.cells #[.string ⟨#[]⟩,.string ⟨#[]⟩,.int .i64 0,.int .i64 0,.int .i64 0,.bool false,.slice none 0 0] 103 (0,0))
theorem jE.mono (W:World):Fact.bw (jE W):=by
 rintro v w w' ⟨g,h1,h2,h3⟩ hb;exact⟨g,h1,h2,(hb.block g (ae h3)).trans h3⟩
theorem v_ {w:World} {g:Nat} {v0 v1 v2 v3 v4 v5 v6:Value} (h:w.heap[g]?=some (.cells #[.string ⟨#[]⟩,.string ⟨#[]⟩,.int .i64 0,.int .i64 0,.int .i64 0,.bool false,.slice none 0 0] 103 (0,0))):
  (((((((w.setCell ⟨g,0,none⟩ (v0)).setCell ⟨g,1,none⟩ (v1)).setCell ⟨g,2,none⟩ (v2)).setCell ⟨g,3,none⟩ (v3)).setCell ⟨g,4,none⟩ (v4)).setCell ⟨g,5,none⟩ (v5)).setCell ⟨g,6,none⟩ (v6)).heap[g]?=some (.cells #[v0,v1,v2,v3,v4,v5,v6] 103 (0,0)):=by
 have:=au (i:=6) (au (i:=5) (au (i:=4) (au (i:=3) (au (i:=2) (au (i:=1) (au (i:=0) h v0) v1) v2) v3) v4) v5) v6;simpa using this
theorem lG {W w:World} {g:Nat} {v0 v1 v2 v3 v4 v5 v6:Value} (hg:W.heap.size<=g) (h:Below W.heap.size W w):Below W.heap.size W (((((((w.setCell ⟨g,0,none⟩ (v0)).setCell ⟨g,1,none⟩ (v1)).setCell ⟨g,2,none⟩ (v2)).setCell ⟨g,3,none⟩ (v3)).setCell ⟨g,4,none⟩ (v4)).setCell ⟨g,5,none⟩ (v5)).setCell ⟨g,6,none⟩ (v6)):=
 ah hg (ah hg (ah hg (ah hg (ah hg (ah hg (ah hg h))))))
def wD (c:Cl) (p:Pd) (n:Nd):Prop:=∀(j:Nat) t,p.zs[j]?=some t->∃v,bp c t v/\InL n.zs v.n

theorem jY (d:Ad) (c:Cl) (p:Pd) (pa:Option Addr) (pl pc:Nat) (j1:Nat) (n:Nd) (w:World) (hr:aK w d c.raw) (hn:aJ Nd.n c.ns) (hx:aJ Xd.n c.xs) (hv:aJ Vd.n c.vs) (hne:∀(j:Nat) v,c.vs[j]?=some v->¬v.n=⟨#[]⟩) (hp:av w pa pl pc p.zs) (hj1:c.ns[j1]?=some n) (hnn:n.n=p.d) (hbd:∀(j:Nat) t,p.zs[j]?=some t->∃v,bp c t v):
  Calls Tryz.prog 121 #[.agg #[.slice d.a1 d.l1 d.c1,.slice d.a2 d.l2 d.c2,.slice d.a3 d.l3 d.c3,.slice d.a4 d.l4 d.c4,.slice d.a5 d.l5 d.c5,.int .i64 c.now],.agg #[.string p.n,.int .i64 p.c,.string p.z,.slice pa pl pc,.string p.d,.int .i64 p.p]] w (aq (wD c p n) w):=by
 obtain⟨a1,l1,y1,a2,l2,y2,a3,l3,y3,a4,l4,y4,a5,l5,y5⟩:=d;dsimp only;obtain⟨HR,hl1⟩:=pT;have hl3:c.vs.length=l3:=nz
 clear hr;have HNR:=aa hn;obtain⟨HX,HV,HNE⟩:=fY;have HP:=aa hp;have HBD:=aa hbd;have hlc:=xp hp.2.1 hp.2.2.1;have hzl:=hp.1;have hl1':j1<l1:=by have h3:=(xe.1 hj1).1;omega
 obtain⟨b1,o1,n',rfl,hb1n,hn',hat⟩:=bU HR.n hl1';rw[hj1] at hn';obtain rfl:=xh hn';obtain⟨na,nl,nc,hnr,z0,z1,d0,d1,d2,d3,d4,d5,d6⟩:=aQ hat;have HJn:=aa hj1;have HNn:=aa hnn;have HTn:=aa hnr;have HBn:=aa hb1n;have HD:Hid (w.cell? ⟨b1,o1+j1*7,none⟩=some (.string n.n)/\w.cell? ⟨b1,o1+j1*7+1,none⟩=some (.string n.z)/\w.cell? ⟨b1,o1+j1*7+2,none⟩=some (.int .i64 n.c)/\w.cell? ⟨b1,o1+j1*7+3,none⟩=some (.int .i64 n.s)/\w.cell? ⟨b1,o1+j1*7+4,none⟩=some (.int .i64 n.u)/\w.cell? ⟨b1,o1+j1*7+5,none⟩=some (.bool n.d)/\w.cell? ⟨b1,o1+j1*7+6,none⟩=some (.slice na nl nc)):=⟨d0,d1,d2,d3,d4,d5,d6⟩;clear hn' hat hnr z0 z1 d0 d1 d2 d3 d4 d5 d6 hj1 hnn hb1n hn hx hv hne hp hbd;obtain⟨W,hW0⟩:∃W,W=(w.alloc (.cells (clo6 (some ⟨b1,o1,none⟩) l1 y1 a2 l2 y2 a3 l3 y3 a4 l4 y4 a5 l5 y5 c.now) 36)).alloc (.cells (pov p pa pl pc) 105):=⟨_,rfl⟩;have GK:Hid (W.heap[w.heap.size]?=some (.cells (clo6 (some ⟨b1,o1,none⟩) l1 y1 a2 l2 y2 a3 l3 y3 a4 l4 y4 a5 l5 y5 c.now) 36 (0,0))):=by rw[hW0];exact cL _ _ _
 have GP:Hid (W.heap[w.heap.size+1]?=some (.cells (pov p pa pl pc) 105 (0,0))):=by rw[hW0];exact bV _ _ _
 have BW:Hid (Below w.heap.size w W):=by rw[hW0];exact aM _ _ _
 go_enter Tryz.func121,Tryz.ntmps121;go_wp2_with fail;rw[<-hW0];clear hW0;rename_i K0 hK0;refine aB an rfl rfl an ?_;refine Grow.bf ?_;refine Grow.bT GK.out ?_;refine Grow.bT GK.out ?_;refine Grow.bf ?_;refine Grow.bT GP.out ?_;refine' Grow.ar (.int .i64 j1) rfl ?_ ?_
 ·refine Obl.plain rfl ?_;intro ac wg K hsz hW hf hK;clear hsz;have e9:=hf 9 aj;simp[ak,xg] at e9;have e11:=hf 11 aj;simp[ak,xg] at e11;clear hf;go_simp;refine (dZ ⟨(some ⟨b1,o1,none⟩),l1,y1,a2,l2,y2,a3,l3,y3,a4,l4,y4,a5,l5,y5⟩ c.now c.ns p.d _ (HR.n.below (BW.trans (hW.mono BW.size))) HNR.out HJn.out HNn.out).mono ?_;rintro e w5 ⟨rfl,hb5⟩;exact hK _ _ hb5 rfl
 refine Grow.bf ?_;refine' Grow.ar _ rfl ?_ ?_;rotate_left 1
 ·refine Obl.plain rfl ?_;intro ac wg K hsz hW hf hK;clear hsz;have e13:=hf 13 aj;simp[ak,xg] at e13;clear hf;have hBg:=BW.trans (hW.mono BW.size);obtain⟨d0,d1,d2,d3,d4,d5,d6⟩:=HD.out;have g0:=(ai hBg HBn.out).trans d0;have g1:=(ai hBg HBn.out).trans d1;have g2:=(ai hBg HBn.out).trans d2;have g3:=(ai hBg HBn.out).trans d3;have g4:=(ai hBg HBn.out).trans d4;have g5:=(ai hBg HBn.out).trans d5;have g6:=(ai hBg HBn.out).trans d6;clear d0 d1 d2 d3 d4 d5 d6 hBg;exact bx
 refine Grow.step (jE W) rfl (jE.mono W) ?_ ?_
 ·exact gO
 refine Grow.done ?_;intro q wz hW hf;simp only[List.forall_mem_cons] at hf;obtain⟨⟨g5,h5,hbW,hgb⟩,h14,-⟩:=hf;have r0:=ck0 hgb;have r1:=ck1 hgb;have r2:=ck2 hgb;have r3:=ck3 hgb;have r4:=ck4 hgb;have r5:=ck5 hgb;have r6:=ck6 hgb;have f0:=aw hgb 0;have f1:=aw hgb 1;have f2:=aw hgb 2;have f3:=aw hgb 3;have f4:=aw hgb 4;have f5:=aw hgb 5;have f6:=aw hgb 6;have GN:=aa (v_ (v0:=.string n.n) (v1:=.string n.z) (v2:=.int .i64 n.c) (v3:=.int .i64 n.s) (v4:=.int .i64 n.u) (v5:=.bool n.d) (v6:=.slice na nl nc) hgb);have BN:=aa (lG (v0:=.string n.n) (v1:=.string n.z) (v2:=.int .i64 n.c) (v3:=.int .i64 n.s) (v4:=.int .i64 n.u) (v5:=.bool n.d) (v6:=.slice na nl nc) hbW hW);clear hgb hW;intro K hK;rw[if_pos (by rfl)];simp only[aI,List.foldr,yx,List.setIfInBounds_toArray,List.set_cons_zero,List.set_cons_succ,h5,h14];simp only[List.getLast];go_simp;refine hK _ _ ?_;refine hK0 _ _ ?_;clear hK hK0 K K0;generalize (((((((wz.setCell ⟨g5,0,none⟩ (.string n.n)).setCell ⟨g5,1,none⟩ (.string n.z)).setCell ⟨g5,2,none⟩ (.int .i64 n.c)).setCell ⟨g5,3,none⟩ (.int .i64 n.s)).setCell ⟨g5,4,none⟩ (.int .i64 n.u)).setCell ⟨g5,5,none⟩ (.bool n.d)).setCell ⟨g5,6,none⟩ (.slice na nl nc))=Y at GN BN ⊢;clear r0 f0 r1 f1 r2 f2 r3 f3 r4 f4 r5 f5 r6 f6;have KV:=upK GK BN.out;have PVv:=upK GP BN.out;have BV:=aa (BW.trans (BN.mono BW.size));clear GK GP BW BN hbW;have pp:=ck3 PVv;go_wp2;clear pp;go_loopw [6] (fun i wr=> ∃k:Nat,k<=pl/\i=.int .i64 k/\Hid (∀(j:Nat) t,j<k->p.zs[j]?=some t->∃v,bp c t v/\InL n.zs v.n)/\Hid (Below Y.heap.size Y wr)) (fun i _=>pl - (intOf i).toNat);case atStart=>exact⟨0,by omega,rfl,fun _ _ h=>absurd h af,xj _ _⟩
 case round=>
  obtain⟨k,hk,rfl,HQ,HBY⟩:=hrel;have HB:=aa (BV.trans (HBY.mono BV.size));have Bk:=upK KV HBY.out;have Bp:=upK PVv HBY.out;have Bn:=upK GN HBY.out;have pp:=ck3 Bp;by_cases hlt:k<pl
  ·obtain⟨b,o,t,rfl,hb,hxt,hc,hsz⟩:=(HP.below HB.out).at hlt;have HXt:=aa hxt;clear hxt hsz;obtain⟨v,hbd⟩:=HBD.out k t HXt.out;obtain⟨j3,hj3⟩:=hbd.at;have hl3':j3<l3:=by have h1:=(xe.1 hj3).1;omega
   obtain⟨b3,o3,v',rfl,hb3,hv',hat⟩:=bq HR.v hl3';rw[hj3] at hv';obtain rfl:=xh hv';obtain⟨xa,xl,xc,hvr,z0,z2,z3,z5,d0,d1,d2,d3,d4,d5,d6,d7⟩:=aE hat;have HJ:=aa hj3;have HDb:=aa hbd;have hbv:=xr hb3 HB.size;have v0:=(ai HB.out hb3).trans d0;clear hv' hat hvr z0 z2 z3 z5 d0 d1 d2 d3 d4 d5 d6 d7 hj3 hbd hb3;by_cases hin:InL n.zs v.n
   ·have HIn:=aa hin;clear hin;have Gk:=Bk;have Gp:=Bp;have Gn:=Bn;have HW:=HB;obtain⟨k0,k1,k2,k3,k4,k5⟩:=sl6 Gk;obtain⟨p3,n6,tw,vw,hne0,HC0⟩:=ug;have HC1:=aa (fun q:Wd wr=>(ct na nl nc n.zs v.n q.w (HTn.below (HW.trans (q.b.mono HW.size)))).mono (fun _ _ h=>aq.yes h HIn.out));go_wp2_with fail;refine ag an an ?_;repeat (go_big_quiet_step (first|(go_at_call 68;exact Calls.wide (HC0.out _))|(go_at_call 69;exact Calls.wide (HC1.out _))|fail))
    refine wpQuiet_nil ?_;rintro _ ⟨q2,rfl⟩;have HB1:=upB HW q2.b;have Ck:=upK Gk q2.b;have Cp:=upK Gp q2.b;have Cn:=upK Gn q2.b;clear hne0 HW HB HC0 HC1 k0 k1 k2 k3 k4 k5 p3 n6 tw vw Gk Gp Gn Bk Bp Bn pp hb hc hbv v0;have HB:=HB1;clear HB1;have Bk:=Ck;clear Ck;have Bp:=Cp;clear Cp;have Bn:=Cn;clear Cn;go_wp2_with fail;refine⟨⟨k+1,by omega,by go_num,fun j s hj hs=>?_,HBY.trans (q2.b.mono HBY.size)⟩,by simp[intOf];omega⟩;by_cases e:j=k
    ·subst e;rw[HXt.out] at hs;obtain rfl:=xh hs;exact⟨v,HDb.out,HIn.out⟩
    ·exact HQ.out j s af hs
   ·have HIn:=aa hin;clear hin;have Gk:=Bk;have Gp:=Bp;have Gn:=Bn;have HW:=HB;obtain⟨k0,k1,k2,k3,k4,k5⟩:=sl6 Gk;obtain⟨p3,n6,tw,vw,hne0,HC0⟩:=ug;have HC1:=aa (fun q:Wd wr=>(ct na nl nc n.zs v.n q.w (HTn.below (HW.trans (q.b.mono HW.size)))).mono (fun _ _ h=>aq.no h HIn.out));go_wp2_with fail;refine ag an an ?_;repeat (go_big_quiet_step (first|(go_at_call 68;exact Calls.wide (HC0.out _))|(go_at_call 69;exact Calls.wide (HC1.out _))|fail))
    refine wpQuiet_nil ?_;rintro _ ⟨q2,rfl⟩;have HB1:=upB HW q2.b;have Ck:=upK Gk q2.b;have Cp:=upK Gp q2.b;have Cn:=upK Gn q2.b;clear hne0 HW HB HC0 HC1 k0 k1 k2 k3 k4 k5 p3 n6 tw vw Gk Gp Gn Bk Bp Bn pp hb hc hbv v0;have HB:=HB1;clear HB1;have Bk:=Ck;clear Ck;have Bp:=Cp;clear Cp;have Bn:=Cn;clear Cn;go_wp2;go_ret;refine aq.f (fun h=>?_) HB.out;obtain⟨v2,e1,e2⟩:=h k t HXt.out;obtain rfl:=bp.inj HX.out HV.out HDb.out e1;exact HIn.out e2
  ·exact rG

theorem iY (d:Ad) (c:Cl) (w:World) (hr:aK w d c.raw) (hn:aJ Nd.n c.ns) (hx:aJ Xd.n c.xs) (hv:aJ Vd.n c.vs) (hne:∀(j:Nat) v,c.vs[j]?=some v->¬v.n=⟨#[]⟩) (hrun:∀(j:Nat) p,c.ps[j]?=some p->p.p=2->(∃(i:Nat) (n:Nd),c.ns[i]?=some n/\n.n=p.d)/\∀(j:Nat) t,p.zs[j]?=some t->∃v,bp c t v):
  Calls Tryz.prog 63 #[.agg #[.slice d.a1 d.l1 d.c1,.slice d.a2 d.l2 d.c2,.slice d.a3 d.l3 d.c3,.slice d.a4 d.l4 d.c4,.slice d.a5 d.l5 d.c5,.int .i64 c.now]] w (aq (ib c) w):=by
 obtain⟨a1,l1,y1,a2,l2,y2,a3,l3,y3,a4,l4,y4,a5,l5,y5⟩:=d;dsimp only;obtain⟨HR,hl1,hm1,hl3⟩:=pY;obtain⟨hl5,hm5⟩:=iD;clear hr;have HNR:=aa hn;obtain⟨HX,HV,HNE⟩:=fY;have HRun:=aa hrun;clear hn hx hv hne hrun;go_enter Tryz.func63,Tryz.ntmps63;go_wp2;go_loopw [3] (fun i wr=> ∃k:Nat,k<=l1/\i=.int .i64 k/\Hid (∀(j:Nat) z,j<k->c.ns[j]?=some z->pb c z)/\Hid (Below w.heap.size w wr)/\Hid (wr.heap[w.heap.size]?=some (.cells (clo6 a1 l1 y1 a2 l2 y2 a3 l3 y3 a4 l4 y4 a5 l5 y5 c.now) 36 (0,0)))) (fun i _=>l1 - (intOf i).toNat);case atStart=>exact⟨0,by omega,rfl,fun _ _ h=>absurd h af,al _ _,xt⟩
 case round=>
  obtain⟨k,hk,rfl,HQ,HB,Bk⟩:=hrel;have pk:=ck0 Bk;by_cases hlt:k<l1
  ·obtain⟨b,o,n,rfl,hb,hx,hat⟩:=bU (HR.n.below HB.out) hlt;obtain⟨va,vl,vc,hvr,z0,z1,c0,c1,c2,c3,c4,c5,c6⟩:=aQ hat;have HXn:=aa hx;have HTn:=aa hvr;clear hat hx z0 z1 hvr;have hvl:=HTn.1;have hvc:=xp HTn.2.1 HTn.2.2.1;have HVL:=aa hvl;clear hvl;have KV:Hid ((wr.alloc (.cells #[.string n.n,.string n.z,.int .i64 n.c,.int .i64 n.s,.int .i64 n.u,.bool n.d,.slice va vl vc] 103)).heap[w.heap.size]?=some (.cells (clo6 (some ⟨b,o,none⟩) l1 y1 a2 l2 y2 a3 l3 y3 a4 l4 y4 a5 l5 y5 c.now) 36 (0,0))):=(xM wr (.cells #[.string n.n,.string n.z,.int .i64 n.c,.int .i64 n.s,.int .i64 n.u,.bool n.d,.slice va vl vc] 103) _ (ae Bk.out)).trans Bk.out;have GV:Hid ((wr.alloc (.cells #[.string n.n,.string n.z,.int .i64 n.c,.int .i64 n.s,.int .i64 n.u,.bool n.d,.slice va vl vc] 103)).heap[wr.heap.size]?=some (.cells #[.string n.n,.string n.z,.int .i64 n.c,.int .i64 n.s,.int .i64 n.u,.bool n.d,.slice va vl vc] 103 (0,0))):=xt;have BV:=aa (HB.trans ((al wr (.cells #[.string n.n,.string n.z,.int .i64 n.c,.int .i64 n.s,.int .i64 n.u,.bool n.d,.slice va vl vc] 103)).mono HB.size));have TT:=aa (HTn.below (al wr (.cells #[.string n.n,.string n.z,.int .i64 n.c,.int .i64 n.s,.int .i64 n.u,.bool n.d,.slice va vl vc] 103)));obtain⟨W,hW⟩:∃W,W=wr.alloc (.cells #[.string n.n,.string n.z,.int .i64 n.c,.int .i64 n.s,.int .i64 n.u,.bool n.d,.slice va vl vc] 103):=⟨_,rfl⟩;obtain⟨gb,hgb⟩:∃gb,gb=wr.heap.size:=⟨_,rfl⟩;rw[<-hW] at KV GV BV TT;rw[<-hgb] at GV;go_wp2;rw[<-hW,<-hgb];clear hW hgb HB Bk HTn c0 c1 c2 c3 c4 c5 c6 hb pk;go_loopw [5] (fun i wr=> ∃kq:Nat,kq<=vl/\i=.int .i64 kq/\Hid (∀(j:Nat) t,j<kq->n.zs[j]?=some t->∃(i:Nat) (v:Vd),c.vs[i]?=some v/\v.n=t/\(n.d=true\/InL v.zs n.n))/\Hid (Below W.heap.size W wr)) (fun i _=>vl - (intOf i).toNat);case atStart=>exact⟨0,by omega,rfl,fun _ _ h=>absurd h af,xj _ _⟩
   case round=>
    obtain⟨kq,hkq,rfl,HQ2,HBW⟩:=hrel;obtain⟨HB,Bk⟩:=kl;have Bv:=upK GV HBW.out;have pv:=ck6 Bv;by_cases hlt2:kq<vl
    ·obtain⟨b2,o2,t,rfl,hb,hx,hc,hsz⟩:=(TT.below HBW.out).at hlt2;have HXt:=aa hx;clear hx hsz;by_cases hnn:∃(i:Nat) (v:Vd),c.vs[i]?=some v/\v.n=t;rotate_left
     ·have HH:=aa hnn;clear hnn;obtain⟨Gk,Gv,HW,k0,k1,k2,k3,k4,k5⟩:=tY;have v6:=fun q:Wd wr=>q.slot (o:=6) Gv.out rfl;obtain⟨tw,hne0⟩:=fZ;have HC0:=aa (fun q:Wd wr=>iq ⟨(some ⟨b,o,none⟩),l1,y1,a2,l2,y2,a3,l3,y3,a4,l4,y4,a5,l5,y5⟩ c.now c.vs t q.w (HR.v.below (HW.trans (q.b.mono HW.size))) (fun i v h1 h2=>HH.out ⟨i,v,h1,h2⟩));go_wp2_with fail;refine ag an an ?_;repeat (go_big_quiet_step (first|(go_at_call 22;exact Calls.wide (HC0.out _))|fail))
      refine wpQuiet_nil ?_;rintro _ ⟨q1,rfl⟩;obtain⟨HB1,Ck⟩:=dV;have Cv:=upK Gv q1.b;clear hne0 HW HB HC0 k0 k1 k2 k3 k4 k5 v6 tw Gk Gv Bk Bv pv;have HB:=HB1;clear HB1;have Bk:=Ck;clear Ck;have Bv:=Cv;clear Cv;obtain⟨Gk,Gv,HW,k2,v0,v2,v5,v6⟩:=nI;have hne0:=Wd.ne q1.w;go_wp2_with fail;refine ag an an ?_;repeat (go_big_quiet_step (first|fail))
      refine wpQuiet_nil ?_;rintro _ ⟨q2,rfl⟩;obtain⟨HB2,Ck⟩:=cX;have Cv:=upK Gv q2.b;clear hne0 HW HB k2 v0 v2 v5 v6 Gk Gv Bk Bv;have HB:=HB2;clear HB2;have Bk:=Ck;clear Ck;have Bv:=Cv;clear Cv;go_wp2;go_ret;refine aq.f (fun h=>?_) HB.out;obtain⟨i,v,h2,h3,_⟩:=(h.1 k n HXn.out) kq t HXt.out;exact HH.out ⟨i,v,h2,h3⟩
     obtain⟨j3,v,h1,h2⟩:=hnn;have hl3':j3<l3:=by have h3:=(xe.1 h1).1;omega
     obtain⟨b3,o3,v',rfl,hb3,hv',hat⟩:=bq HR.v hl3';rw[h1] at hv';obtain rfl:=xh hv';obtain⟨xa,xl,xc,hvr,z0,z2,z3,z5,d0,d1,d2,d3,d4,d5,d6,d7⟩:=aE hat;have HJ:=aa h1;have HNv:=aa h2;have HTx:=aa hvr;have HC7:=aa d7;have HB3:=aa hb3;have hj31:decide ((j3:Int)<0)=false:=aT
     clear hv' hat hvr z0 z2 z3 z5 d0 d1 d2 d3 d4 d5 d6 d7 h1 h2 hb3;have Gk:=Bk;have Gv:=Bv;have HW:=HB;obtain⟨k0,k1,k2,k3,k4,k5⟩:=sl6 Gk;have v6:=fun q:Wd wr=>q.slot (o:=6) Gv.out rfl;obtain⟨tw,hne0⟩:=fZ;have HC0:=aa (fun q:Wd wr=>dY ⟨(some ⟨b,o,none⟩),l1,y1,a2,l2,y2,(some ⟨b3,o3,none⟩),l3,y3,a4,l4,y4,a5,l5,y5⟩ c.now c.vs t q.w (HR.v.below (HW.trans (q.b.mono HW.size))) HV.out HJ.out HNv.out);go_wp2_with fail;refine ag an an ?_;repeat (go_big_quiet_step (first|(go_at_call 22;exact Calls.wide (HC0.out _))|fail))
     refine wpQuiet_nil ?_;rintro _ ⟨q1,rfl⟩;obtain⟨HB1,Ck⟩:=dV;have Cv:=upK Gv q1.b;clear hne0 HW HB HC0 k0 k1 k2 k3 k4 k5 v6 tw Gk Gv Bk Bv pv hb hc;have HB:=HB1;clear HB1;have Bk:=Ck;clear Ck;have Bv:=Cv;clear Cv;have HBW1:=upB HBW q1.b;have hbv:=xr HB3.out HB.size;have v7:=(ai HB.out HB3.out).trans HC7.out;clear HBW;rcases yB n.d with hd|hd
     ·have HDd:=aa hd;clear hd;have Bv2:Hid (q1.w.heap[gb]?=some (.cells #[.string n.n,.string n.z,.int .i64 n.c,.int .i64 n.s,.int .i64 n.u,.bool true,.slice (some ⟨b2,o2,none⟩) vl vc] 103 (0,0))):=by have:=Bv.out;rw[HDd.out] at this;exact this
      clear Bv;have Bv:=Bv2;clear Bv2;obtain⟨Gk,Gv,HW,k2,v0,v2,v5,v6⟩:=nI;have vw:=fun q:Wd q1.w=>(q.cell hbv).trans v7;have hne0:=Wd.ne q1.w;go_wp2_with fail;refine ag an an ?_;repeat (go_big_quiet_step (first|fail))
      refine wpQuiet_nil ?_;rintro _ ⟨q2,rfl⟩;obtain⟨HB2,Ck⟩:=cX;have Cv:=upK Gv q2.b;clear hne0 HW HB k2 v0 v2 v5 v6 vw Gk Gv Bk Bv hbv v7;have HB:=HB2;clear HB2;have Bk:=Ck;clear Ck;have Bv:=Cv;clear Cv;go_wp2_with fail;refine⟨⟨kq+1,by omega,by go_num,fun j s hj hs=>?_,HBW1.trans (q2.b.mono HBW1.size)⟩,by simp[intOf];omega⟩;by_cases e:j=kq
      ·subst e;rw[HXt.out] at hs;obtain rfl:=xh hs;exact⟨j3,v,HJ.out,HNv.out,.inl HDd.out⟩
      ·exact HQ2.out j s af hs
     ·have HDd:=aa hd;clear hd;have Bv2:Hid (q1.w.heap[gb]?=some (.cells #[.string n.n,.string n.z,.int .i64 n.c,.int .i64 n.s,.int .i64 n.u,.bool false,.slice (some ⟨b2,o2,none⟩) vl vc] 103 (0,0))):=by have:=Bv.out;rw[HDd.out] at this;exact this
      clear Bv;have Bv:=Bv2;clear Bv2;by_cases hin:InL v.zs n.n
      ·have HIn:=aa hin;clear hin;obtain⟨Gk,Gv,HW,k2,v0,v2,v5,v6⟩:=nI;have vw:=fun q:Wd q1.w=>(q.cell hbv).trans v7;have hne0:=Wd.ne q1.w;have HC0:=aa (fun q:Wd q1.w=>(ct xa xl xc v.zs n.n q.w (HTx.below (HW.trans (q.b.mono HW.size)))).mono (fun _ _ h=>aq.yes h HIn.out));go_wp2_with fail;refine ag an an ?_;repeat (go_big_quiet_step (first|(go_at_call 69;exact Calls.wide (HC0.out _))|fail))
       refine wpQuiet_nil ?_;rintro _ ⟨q2,rfl⟩;obtain⟨HB2,Ck⟩:=cX;have Cv:=upK Gv q2.b;clear hne0 HW HB HC0 k2 v0 v2 v5 v6 vw Gk Gv Bk Bv hbv v7;have HB:=HB2;clear HB2;have Bk:=Ck;clear Ck;have Bv:=Cv;clear Cv;go_wp2_with fail;refine⟨⟨kq+1,by omega,by go_num,fun j s hj hs=>?_,HBW1.trans (q2.b.mono HBW1.size)⟩,by simp[intOf];omega⟩;by_cases e:j=kq
       ·subst e;rw[HXt.out] at hs;obtain rfl:=xh hs;exact⟨j3,v,HJ.out,HNv.out,.inr HIn.out⟩
       ·exact HQ2.out j s af hs
      ·have HIn:=aa hin;clear hin;obtain⟨Gk,Gv,HW,k2,v0,v2,v5,v6⟩:=nI;have vw:=fun q:Wd q1.w=>(q.cell hbv).trans v7;have hne0:=Wd.ne q1.w;have HC0:=aa (fun q:Wd q1.w=>(ct xa xl xc v.zs n.n q.w (HTx.below (HW.trans (q.b.mono HW.size)))).mono (fun _ _ h=>aq.no h HIn.out));go_wp2_with fail;refine ag an an ?_;repeat (go_big_quiet_step (first|(go_at_call 69;exact Calls.wide (HC0.out _))|fail))
       refine wpQuiet_nil ?_;rintro _ ⟨q2,rfl⟩;obtain⟨HB2,Ck⟩:=cX;have Cv:=upK Gv q2.b;clear hne0 HW HB HC0 k2 v0 v2 v5 v6 vw Gk Gv Bk Bv hbv v7;have HB:=HB2;clear HB2;have Bk:=Ck;clear Ck;have Bv:=Cv;clear Cv;go_wp2;go_ret;refine aq.f (fun h=>?_) HB.out;obtain⟨i,v2,e1,e2,e3⟩:=(h.1 k n HXn.out) kq t HXt.out;obtain⟨_,rfl⟩:=HV.inj e1 HJ.out (e2.trans HNv.symm);rcases e3 with e3|e3
       ·rw[HDd.out] at e3;cases e3
       ·exact HIn.out e3
    ·obtain rfl:vl=kq:=af
     go_wp2_with fail;refine⟨⟨k+1,by omega,by go_num,fun j z hj hz=>?_,HB.out,Bk.out⟩,by simp[intOf];omega⟩;by_cases e:j=k
     ·subst e;rw[HXn.out] at hz;exact qK
     ·exact HQ.out j z af hz
  ·obtain rfl:l1=k:=af
   have HQ1:Hid (∀(j:Nat) z,c.ns[j]?=some z->pb c z):=fun j z hz=>HQ.out j z ch hz;clear HQ;go_wp2;clear pk;go_loopw [7] (fun i wr=> ∃k:Nat,k<=l5/\i=.int .i64 k/\Hid (∀(j:Nat) z,j<k->c.ps[j]?=some z->MQ2 c z)/\Hid (Below w.heap.size w wr)/\Hid (wr.heap[w.heap.size]?=some (.cells (clo6 a1 l1 y1 a2 l2 y2 a3 l3 y3 a4 l4 y4 a5 l5 y5 c.now) 36 (0,0)))) (fun i _=>l5 - (intOf i).toNat);case atStart=>exact⟨0,by omega,rfl,fun _ _ h=>absurd h af,HB.out,Bk.out⟩
   case round=>
    obtain⟨k,hk,rfl,HQ,HB,Bk⟩:=hrel;have pk:=ck4 Bk;by_cases hlt:k<l5
    ·obtain⟨b,o,p,rfl,hb,hx,hat⟩:=cj (HR.p.below HB.out) hlt;obtain⟨va,vl,vc,hvr,z0,z2,z4,c0,c1,c2,c3,c4,c5⟩:=aS hat;have HXp:=aa hx;have HTp:=aa hvr;clear hat hx z0 z2 z4 hvr;by_cases hp2:p.p=2;rotate_left
     ·have HP2:=aa hp2;have hp3:(p.p==2)=false:=by simpa using hp2
      have Gk:Hid ((wr.alloc (.cells #[.string p.n,.int .i64 p.c,.string p.z,.slice va vl vc,.string p.d,.int .i64 p.p] 105)).heap[w.heap.size]?=some (.cells (clo6 a1 l1 y1 a2 l2 y2 a3 l3 y3 a4 l4 y4 (some ⟨b,o,none⟩) l5 y5 c.now) 36 (0,0))):=(xM _ _ _ (ae Bk.out)).trans (Bk.out);have Gr:Hid ((wr.alloc (.cells #[.string p.n,.int .i64 p.c,.string p.z,.slice va vl vc,.string p.d,.int .i64 p.p] 105)).heap[wr.heap.size]?=some (.cells #[.string p.n,.int .i64 p.c,.string p.z,.slice va vl vc,.string p.d,.int .i64 p.p] 105 (0,0))):=xt;have HW:Hid (Below w.heap.size w (wr.alloc (.cells #[.string p.n,.int .i64 p.c,.string p.z,.slice va vl vc,.string p.d,.int .i64 p.p] 105))):=(HB.trans ((al _ _).mono HB.size));obtain⟨k0,k1,k2,k3,k4,k5⟩:=sl6 Gk;obtain⟨r0,r1,r2,r3,r4,r5⟩:=sl6 Gr;have hne0:=Wd.ne (wr.alloc (.cells #[.string p.n,.int .i64 p.c,.string p.z,.slice va vl vc,.string p.d,.int .i64 p.p] 105));go_wp2_with fail;refine ag an an ?_;repeat (go_big_quiet_step (first|fail))
      refine wpQuiet_nil ?_;rintro _ ⟨q1,rfl⟩;obtain⟨HB1,Ck⟩:=dV;clear hne0 HW HB k0 k1 k2 k3 k4 k5 r0 r1 r2 r3 r4 r5 Gk Gr Bk pk hb c0 c1 c2 c3 c4 c5;have HB:=HB1;clear HB1;have Bk:=Ck;clear Ck;clear hp2 hp3;go_wp2_with fail;refine⟨⟨k+1,by omega,by go_num,fun j z hj hz=>?_,HB.out,Bk.out⟩,by simp[intOf];omega⟩;exact rF
     have HP2:=aa hp2;obtain⟨⟨j1,n,h1,h2⟩,hbd⟩:=HRun.out k p HXp.out hp2;rw[hp2] at c5;clear hp2;have HBD:=aa hbd;have hl1':j1<l1:=by have h3:=(xe.1 h1).1;omega
     obtain⟨b1,o1,n',rfl,hb1n,hn',hat⟩:=bU HR.n hl1';rw[h1] at hn';obtain rfl:=xh hn';obtain⟨na,nl,nc,hnr,z0,z1,d0,d1,d2,d3,d4,d5,d6⟩:=aQ hat;have HJn:=aa h1;have HNn:=aa h2;have e5:=(ai HB.out hb1n).trans d5;have hbn:=xr hb1n HB.size;clear hn' hat hnr z0 z1 d0 d1 d2 d3 d4 d5 d6 h1 h2 hb1n hbd;rcases yB n.d with hd|hd
     ·have HDd:=aa hd;rw[hd] at e5;clear hd;obtain⟨hbnv,e5v⟩:=qe;obtain⟨Gk,Gr,HW⟩:=vx;obtain⟨k0,k1,k2,k3,k4,k5⟩:=sl6 Gk;obtain⟨r0,r1,r2,r3,r4,r5⟩:=sl6 Gr;obtain⟨nw,hne0,HC0⟩:=vv;go_wp2_with fail;refine ag an an ?_;repeat (go_big_quiet_step (first|(go_at_call 71;exact Calls.wide (HC0.out _))|fail))
      refine wpQuiet_nil ?_;rintro _ ⟨q1,rfl⟩;obtain⟨HB1,Ck⟩:=dV;clear hne0 HW HB HC0 k0 k1 k2 k3 k4 k5 r0 r1 r2 r3 r4 r5 nw Gk Gr Bk pk hb hbn e5 hbnv e5v c0 c1 c2 c3 c4 c5;have HB:=HB1;clear HB1;have Bk:=Ck;clear Ck;go_wp2;go_ret;refine aq.f (fun h=>?_) HB.out;obtain⟨i,m,e1,e2,e3,_⟩:=(h.2 k p HXp.out) HP2.out;obtain⟨_,rfl⟩:=HNR.inj e1 HJn.out (e2.trans HNn.symm);rw[HDd.out] at e3;cases e3
     ·by_cases hal:wD c p n
      ·have HAl:=aa hal;clear hal;have HDd:=aa hd;rw[hd] at e5;clear hd;obtain⟨hbnv,e5v⟩:=qe;have HCA:Hid (∀q:Wd (wr.alloc (.cells #[.string p.n,.int .i64 p.c,.string p.z,.slice va vl vc,.string p.d,.int .i64 2] 105)),Calls Tryz.prog 121 #[.agg #[.slice (some ⟨b1,o1,none⟩) l1 y1,.slice a2 l2 y2,.slice a3 l3 y3,.slice a4 l4 y4,.slice (some ⟨b,o,none⟩) l5 y5,.int .i64 c.now],.agg #[.string p.n,.int .i64 p.c,.string p.z,.slice va vl vc,.string p.d,.int .i64 2]] q.w fun e w'=>e=.returned (.bool true)/\Below q.w.heap.size q.w w'):=by
        intro q;have h0:=(jY ⟨(some ⟨b1,o1,none⟩),l1,y1,a2,l2,y2,a3,l3,y3,a4,l4,y4,(some ⟨b,o,none⟩),l5,y5⟩ c p va vl vc j1 n q.w (HR.below (HB.trans (((al wr _).trans (q.b.mono aT)).mono HB.size))) HNR.out HX.out HV.out HNE.out (HTp.below ((al wr _).trans (q.b.mono aT))) HJn.out HNn.out HBD.out).mono (fun _ _ h=>aq.yes h HAl.out);rw[HP2.out] at h0;exact h0
       obtain⟨Gk,Gr,HW⟩:=vx;obtain⟨k0,k1,k2,k3,k4,k5⟩:=sl6 Gk;obtain⟨r0,r1,r2,r3,r4,r5⟩:=sl6 Gr;obtain⟨nw,hne0,HC0⟩:=vv;have HC1:=aa (fun q:Wd (wr.alloc (.cells #[.string p.n,.int .i64 p.c,.string p.z,.slice va vl vc,.string p.d,.int .i64 2] 105))=>HCA.out q);go_wp2_with fail;refine ag an an ?_;repeat (go_big_quiet_step (first|(go_at_call 71;exact Calls.wide (HC0.out _))|(go_at_call 121;exact Calls.wide (HC1.out _))|fail))
       refine wpQuiet_nil ?_;rintro _ ⟨q1,rfl⟩;obtain⟨HB1,Ck⟩:=dV;clear hne0 HW HB HC0 HC1 k0 k1 k2 k3 k4 k5 r0 r1 r2 r3 r4 r5 nw Gk Gr Bk pk hb hbn e5 hbnv e5v c0 c1 c2 c3 c4 c5;have HB:=HB1;clear HB1;have Bk:=Ck;clear Ck;go_wp2_with fail;refine⟨⟨k+1,by omega,by go_num,fun j z hj hz=>?_,HB.out,Bk.out⟩,by simp[intOf];omega⟩;by_cases e:j=k
       ·subst e;rw[HXp.out] at hz;obtain rfl:=xh hz;exact fun _=>⟨j1,n,HJn.out,HNn.out,HDd.out,HAl.out⟩
       ·exact HQ.out j z af hz
      ·have HAl:=aa hal;clear hal;have HDd:=aa hd;rw[hd] at e5;clear hd;obtain⟨hbnv,e5v⟩:=qe;have HCA:Hid (∀q:Wd (wr.alloc (.cells #[.string p.n,.int .i64 p.c,.string p.z,.slice va vl vc,.string p.d,.int .i64 2] 105)),Calls Tryz.prog 121 #[.agg #[.slice (some ⟨b1,o1,none⟩) l1 y1,.slice a2 l2 y2,.slice a3 l3 y3,.slice a4 l4 y4,.slice (some ⟨b,o,none⟩) l5 y5,.int .i64 c.now],.agg #[.string p.n,.int .i64 p.c,.string p.z,.slice va vl vc,.string p.d,.int .i64 2]] q.w fun e w'=>e=.returned (.bool false)/\Below q.w.heap.size q.w w'):=by
        intro q;have h0:=(jY ⟨(some ⟨b1,o1,none⟩),l1,y1,a2,l2,y2,a3,l3,y3,a4,l4,y4,(some ⟨b,o,none⟩),l5,y5⟩ c p va vl vc j1 n q.w (HR.below (HB.trans (((al wr _).trans (q.b.mono aT)).mono HB.size))) HNR.out HX.out HV.out HNE.out (HTp.below ((al wr _).trans (q.b.mono aT))) HJn.out HNn.out HBD.out).mono (fun _ _ h=>aq.no h HAl.out);rw[HP2.out] at h0;exact h0
       obtain⟨Gk,Gr,HW⟩:=vx;obtain⟨k0,k1,k2,k3,k4,k5⟩:=sl6 Gk;obtain⟨r0,r1,r2,r3,r4,r5⟩:=sl6 Gr;obtain⟨nw,hne0,HC0⟩:=vv;have HC1:=aa (fun q:Wd (wr.alloc (.cells #[.string p.n,.int .i64 p.c,.string p.z,.slice va vl vc,.string p.d,.int .i64 2] 105))=>HCA.out q);go_wp2_with fail;refine ag an an ?_;repeat (go_big_quiet_step (first|(go_at_call 71;exact Calls.wide (HC0.out _))|(go_at_call 121;exact Calls.wide (HC1.out _))|fail))
       refine wpQuiet_nil ?_;rintro _ ⟨q1,rfl⟩;obtain⟨HB1,Ck⟩:=dV;clear hne0 HW HB HC0 HC1 k0 k1 k2 k3 k4 k5 r0 r1 r2 r3 r4 r5 nw Gk Gr Bk pk hb hbn e5 hbnv e5v c0 c1 c2 c3 c4 c5;have HB:=HB1;clear HB1;have Bk:=Ck;clear Ck;go_wp2;go_ret;refine aq.f (fun h=>?_) HB.out;obtain⟨i,m,e1,e2,e3,e4⟩:=(h.2 k p HXp.out) HP2.out;obtain⟨_,rfl⟩:=HNR.inj e1 HJn.out (e2.trans HNn.symm);exact HAl.out e4
    ·obtain rfl:l5=k:=af
     go_wp2;go_ret;exact aq.t ⟨HQ1.out,fun j z hz=>HQ.out j z ch hz⟩ HB.out

theorem ez {α:Type} {nm:α->ByteArray} {xs:List α} {t:ByteArray} (h:aJ nm xs):hit nm xs t=true↔∃(i:Nat) (x:α),xs[i]?=some x/\nm x=t:=by
 constructor
 ·intro e;obtain⟨x,h1,h2⟩:=fu e;exact⟨_,x,h1,h2⟩
 ·rintro⟨i,x,h1,h2⟩;exact (cV h h1 h2).2
theorem iQ {c:Cl} (h:dy c):mY c↔mX c:=by
 have hk:=h.2.1.2.2;have hv:=h.2.2.1.2.2;have hx:=h.2.2.2.1.2.2;constructor
 ·rintro⟨h1,h2⟩;refine⟨fun j v e=>?_,fun j x e=>?_⟩
  ·obtain⟨a,b⟩:=h1 j v e;refine⟨(ez hk).1 a,b.imp id ?_⟩;rintro⟨i,j',x,v',e1,e2,e3,e4,e5,e6,_⟩;exact⟨i,x,e1,e2,e5⟩
  ·obtain⟨a,b⟩:=h2 j x e;refine⟨(ez hk).1 a,b.imp id ?_⟩;rintro⟨i,j',x',v',e1,e2,e3,e4,e5,e6,e7,e8,e9⟩;obtain⟨_,rfl⟩:=hx.inj e1 e e2;exact⟨j',v',e3,e4,e6,e7,e8,e9⟩
 ·rintro⟨h1,h2⟩;refine⟨fun j v e=>?_,fun j x e=>?_⟩
  ·obtain⟨a,b⟩:=h1 j v e;refine⟨(ez hk).2 a,b.imp id ?_⟩;rintro⟨i,x,e1,e2,e3⟩;have hne:¬x.v=⟨#[]⟩:=fun q=>h.ne j v e (e3.symm.trans q);obtain⟨_,b2⟩:=h2 i x e1;rcases b2 with b2|⟨j',v',f1,f2,f3,f4,f5,f6⟩
   ·exact absurd b2 hne
   obtain⟨_,rfl⟩:=hv.inj f1 e (f2.trans e3);exact⟨i,j,x,v',e1,e2,e,rfl,e3,rfl,f4,f5,f6⟩
  ·obtain⟨a,b⟩:=h2 j x e;refine⟨(ez hk).2 a,b.imp id ?_⟩;rintro⟨j',v,e1,e2,e3,e4,e5,e6⟩;exact⟨j,j',x,v,e,rfl,e1,e2,rfl,e3,e4,e5,e6⟩
theorem gW {c:Cl} (h:dy c) (hb:mX c):jC c↔jB c:=by
 have hn:=h.1.2.2;have hv:=h.2.2.1.2.2;have hx:=h.2.2.2.1.2.2;have one:(∀(j:Nat) z,c.vs[j]?=some z->PQ3 c z)↔∀(k:Nat) p,c.ps[k]?=some p->PSc c k p:=by
  constructor
  ·intro h3 k p hp j q hj hq;by_cases e1:q.d=⟨#[]⟩
   ·exact .inl e1
   by_cases e2:p.d=⟨#[]⟩
   ·exact .inr (.inl e2)
   by_cases e3:q.d=p.d
   ·exact .inr (.inr (.inl e3))
   refine .inr (.inr (.inr fun i t ht v hbd hs hin=>e3 ?_));obtain⟨i1,j1,x,f1,f2,f3,f4⟩:=hbd;have hxv:¬x.v=⟨#[]⟩:=fun z=>h.ne j1 v f3 (f4.trans z);have hvm:v.m=t:=by
    rcases (hb.2 i1 x f1).2 with z|⟨j2,v2,g1,g2,g3,_⟩
    ·exact absurd z hxv
    ·obtain⟨_,rfl⟩:=hv.inj g1 f3 (g2.trans f4.symm);rw[g3,f2]
   have ht0:¬v.m=⟨#[]⟩:=fun z=>by
    have h1:=(h.2.2.2.1.2.1 i1 x f1).1.1;rw[f2,<-hvm,z] at h1;exact absurd h1 aj
   have:=h3 j1 v f3 hs ht0;rw[hvm] at this;exact this j k q p hq hp e1 e2 ⟨i,ht⟩ hin
  ·intro h3 j v hj hs hm i1 i2 p q hp hq d1 d2 in1 in2;obtain⟨i4,x,f1,f2,f3⟩:=(hb.1 j v hj).2.resolve_left hm;have hbd:bp c v.m v:=⟨i4,j,x,f1,f2,hj,f3.symm⟩;rcases Nat.lt_trichotomy i1 i2 with k|k|k
   ·obtain⟨r,hr⟩:=in1;rcases h3 i2 q hq i1 p k hp with z|z|z|z
    ·exact absurd z d1
    ·exact absurd z d2
    ·exact z
    ·exact absurd in2 (z r v.m hr v hbd hs)
   ·subst k;rw[hp] at hq;rw[xh hq]
   ·obtain⟨r,hr⟩:=in2;rcases h3 i1 p hp i2 q k hq with z|z|z|z
    ·exact absurd z d2
    ·exact absurd z d1
    ·exact z.symm
    ·exact absurd in1 (z r v.m hr v hbd hs)
 constructor
 ·rintro⟨h1,h2,h3⟩;refine⟨fun k p hp=>⟨?_,?_,one.1 h3 k p hp⟩,h2⟩
  ·rcases (h1 k p hp).2 with z|⟨i,n,e1,e2,e3,e4⟩
   ·exact .inl z
   ·exact .inr ⟨i,n,e1,e2,e3.imp id Eq.symm⟩
  ·intro j t ht;refine⟨(ez hx).1 ((h1 k p hp).1 j t ht),?_⟩;rcases (h1 k p hp).2 with z|⟨i,n,e1,e2,e3,e4⟩
   ·exact .inl z
   ·obtain⟨v,f1,f2⟩:=e4 j t ht;exact .inr ⟨v,i,n,f1,e1,e2,f2⟩
 ·rintro⟨h1,h2⟩;refine⟨fun k p hp=>⟨fun j t ht=>(ez hx).2 ((h1 k p hp).2.1 j t ht).1,?_⟩,h2,one.2 (fun k p hp=>(h1 k p hp).2.2)⟩;rcases (h1 k p hp).1 with z|⟨i,n,e1,e2,e3⟩
  ·exact .inl z
  by_cases z:p.d=⟨#[]⟩
  ·exact .inl z
  refine .inr ⟨i,n,e1,e2,e3.imp id Eq.symm,fun j t ht=>?_⟩;obtain⟨v,i',n',f1,f2,f3,f4⟩:=((h1 k p hp).2.1 j t ht).2.resolve_left z;obtain⟨_,rfl⟩:=hn.inj f2 e1 (f3.trans e2.symm);exact⟨v,f1,f4⟩
theorem running {c:Cl} (h:dy c) (hp:jB c) (j:Nat) (p:Pd) (hj:c.ps[j]?=some p) (h2:p.p=2):(∃(i:Nat) (n:Nd),c.ns[i]?=some n/\n.n=p.d)/\∀(j:Nat) t,p.zs[j]?=some t->∃v,bp c t v:=by
 have hd:¬p.d=⟨#[]⟩:=fun e=>by
  have h1:=(h.2.2.2.2.2.1 j p hj).2.2.2.2;rcases h1 with ⟨h3,_⟩|⟨_,h3⟩
  ·rw[h2] at h3;cases h3
  ·have h4:=h3.1;rw[e] at h4;exact absurd h4 aj
 obtain⟨a,b,_⟩:=hp.1 j p hj;obtain⟨i,n,e1,e2,_⟩:=a.resolve_left hd;refine⟨⟨i,n,e1,e2⟩,fun k t ht=>?_⟩;obtain⟨v,_,_,e3,_⟩:=(b k t ht).2.resolve_left hd;exact⟨v,e3⟩

theorem lD (d:Ad) (c:Cl) (w:World) (hr:aK w d c.raw):
  Calls Tryz.prog 18 #[.agg #[.slice d.a1 d.l1 d.c1,.slice d.a2 d.l2 d.c2,.slice d.a3 d.l3 d.c3,.slice d.a4 d.l4 d.c4,.slice d.a5 d.l5 d.c5,.int .i64 c.now]] w (aq (a8 c) w):=by
 obtain⟨HR,HB⟩:=gL;clear hr;go_enter Tryz.func18,Tryz.ntmps18;go_wp2_with fail;refine (iK c.now _).mono ?_;rintro e w1 ⟨r,rfl,hi,hw⟩;have hb:Below (w.alloc (.cells (clv d c.now) 36)).heap.size (w.alloc (.cells (clv d c.now) 36)) w1:=by first|(rw[hw];exact xj _ _)|(rw[<-hw];exact xj _ _)
 clear hw;obtain⟨HA0,hbx⟩:=aH hb;have Bk:=aa HA0;replace HB:=upB HB hbx;clear hb hbx HA0;have HI1:=aa hi;clear hi;cases r
 ·exact qj
 obtain⟨k0,k1,k2,k3,k4,k5⟩:=cs6 Bk;go_wp2_with fail;refine (oA d c _ (HR.below HB.out)).mono ?_;rintro e w2 ⟨r,rfl,hi,hb⟩;clear k0 k1 k2 k3 k4 k5;replace Bk:=upK Bk hb;replace HB:=upB HB hb;clear hb;have HI2:=aa hi;clear hi;cases r
 ·exact qn
 have HOK:=aa (HI2.1 bA);obtain⟨k0,k1,k2,k3,k4,k5⟩:=cs6 Bk;go_wp2_with fail;refine (lI d c _ (HR.below HB.out) HOK.2.1.2.2 HOK.2.2.2.1.2.2 HOK.2.2.1.2.2).mono ?_;rintro e w3 ⟨r,rfl,hi,hb⟩;clear k0 k1 k2 k3 k4 k5;replace Bk:=upK Bk hb;replace HB:=upB HB hb;clear hb;have HI3:=aa hi;clear hi;cases r
 ·obtain⟨k0,k1,k2,k3,k4,k5⟩:=cs6 Bk;go_wp2;go_ret;exact aq.f (fun h=>by have:=HI3.2 ((iQ HOK.out).1 h.2.2.1);cases this) HB.out
 have HBd:=aa (HI3.1 bA);obtain⟨k0,k1,k2,k3,k4,k5⟩:=cs6 Bk;go_wp2_with fail;refine (jV d c _ (HR.below HB.out) HOK.1.2.2 HOK.2.2.2.1.2.2 HOK.2.2.1.2.2 HOK.ne (by have:=HOK.2.2.2.2.1;omega) HOK.xd).mono ?_;rintro e w4 ⟨r,rfl,hi,hb⟩;clear k0 k1 k2 k3 k4 k5;replace Bk:=upK Bk hb;replace HB:=upB HB hb;clear hb;have HI4:=aa hi;clear hi;cases r
 ·obtain⟨k0,k1,k2,k3,k4,k5⟩:=cs6 Bk;go_wp2;go_ret;exact aq.f (fun h=>by have:=HI4.2 ((gW HOK.out HBd.out).1 h.2.2.2.1);cases this) HB.out
 have HPl:=aa (HI4.1 bA);obtain⟨k0,k1,k2,k3,k4,k5⟩:=cs6 Bk;go_wp2_with fail;refine (ij d c _ (HR.below HB.out) HOK.1.2.2 (by have:=HOK.2.2.1.1;omega)).mono ?_;rintro e w5 ⟨r,rfl,hi,hb⟩;clear k0 k1 k2 k3 k4 k5;replace Bk:=upK Bk hb;replace HB:=upB HB hb;clear hb;have HI5:=aa hi;clear hi;cases r
 ·exact rA
 obtain⟨k0,k1,k2,k3,k4,k5⟩:=cs6 Bk;go_wp2_with fail;refine (iY d c _ (HR.below HB.out) HOK.1.2.2 HOK.2.2.2.1.2.2 HOK.2.2.1.2.2 HOK.ne (running HOK.out HPl.out)).mono ?_;rintro e w6 ⟨r,rfl,hi,hb⟩;clear k0 k1 k2 k3 k4 k5;replace Bk:=upK Bk hb;replace HB:=upB HB hb;clear hb;have HI6:=aa hi;clear hi;cases r
 ·exact ry
 go_wp2;go_ret;exact aq.t ⟨HI1.1 bA,HOK.out,(iQ HOK.out).2 HBd.out,(gW HOK.out HBd.out).2 HPl.out,HI5.1 bA,HI6.1 bA⟩ HB.out

end Rc
end Go.Proofs.YtbbdcjbfnjlndaaGreatDoor
