import Derived.Test.YtdfgbboadbnodaaGreatDoorK2
import Derived.WalkKit
import Derived.LaidEql
import Derived.Stop.Asserts
import Derived.RowKitTokens
import Derived.Test.YtdfgbboadbnodaaGreatDoorRows
import Derived.WalkSpells
import Derived.RegionTactic
import Derived.Laws.AppendOwn
import Derived.Laws.AppendOwnNone
import Derived.Deep.AppendLies
/-
 Whether what is bound is so on both sides, as the specification asks it.
-/
set_option maxRecDepth 100000
set_option maxHeartbeats 12800000
open And renaming intro→sw
open Array renaming getD_eq_getD_getElem?→sD, getElem?_push_size→sH, getElem?_setIfInBounds→sS, getElem?_range→tV, getElem?_map→tZ
open Bool renaming and_eq_true→tl, eq_false_or_eq_true→tE
open Go.Addr renaming add_lit→tB
open Go.Calls renaming quiet_of_same→sQ
open Go.RowKit.Below renaming heap_setCell→sz, refl→sB, heap_alloc→sR
open Go.Value renaming string→sP
open Go.Value.slice renaming injEq→tU
open Go.World renaming setCell→sZ
open Int renaming le_trans→sV, add_assoc→tq
open List renaming getElem?_eq_some_iff→sv, getElem?_eq_getElem→sA, take_of_length_le→sE, getElem?_map→sK, replicate→sL, lookup→sM, length_take→sU, getElem?_take→sW, getElem?_append_left→sX, length_append→sY, getElem?_eq_none→s9, length_map→td, getElem?_append_right→tf, eq_nil_of_length_eq_zero→tt, length_drop→tv, mem_cons→tz, range→tC, length_cons→tX
open Nat renaming le_refl→sy, le_trans→sC, lt_of_lt_of_le→sG, le_succ→sN, zero_add→th, add_zero→tK
open Option renaming map_eq_some_iff→sF
open Option.some renaming inj→sx, injEq→tn
namespace Go.Proofs.YtdfgbboadbnodaaGreatDoor
theorem po {p:Prop} (h:p:=by have h1:=(sv.1 ht).1;have h2:=HVL.out;omega):p:=h
end Go.Proofs.YtdfgbboadbnodaaGreatDoor
namespace Go.Proofs.YtdfgbboadbnodaaGreatDoor
theorem sb {p:Prop} (h:p:=by
 rcases hcase with ⟨v,hbd⟩|hbd
 ·obtain⟨j3,hj3⟩:=hbd.at;have hl3':j3<l3:=by have h1:=(sv.1 hj3).1;omega
  obtain⟨b3,o3,v',rfl,hb3,hv',hat⟩:=bk HR.v hl3';rw[hj3] at hv';obtain rfl:=sx hv';obtain⟨xa,xl,xc,hvr,z0,z2,z3,z5,d0,d1,d2,d3,d4,d5,d6,d7⟩:=aE hat;have HJ:=aa hj3;have HD:=aa hbd;have HC2:=aa d2;have HB3:=aa hb3;have hj31:decide ((j3:Int)<0)=false:=aT
  clear hv' hat hvr z0 z2 z3 z5 d0 d1 d2 d3 d4 d5 d6 d7 hj3 hbd hb3;obtain⟨Gk,Gr,HW⟩:=aY;obtain⟨k0,k1,k2,k3,k4,k5⟩:=sl6 Gk;have r3:=fun q:Wd wr=>q.slot (o:=3) Gr.out rfl;obtain⟨tw,hne0⟩:=eT;have HC0:=aa (fun q:Wd wr=>dt ⟨(some ⟨b1,o1,none⟩),l1,y1,a2,l2,y2,(some ⟨b3,o3,none⟩),l3,y3,a4,l4,y4,(some ⟨b,o,none⟩),l5,y5⟩ c t q.w (HR.below (HW.trans (q.b.mono HW.size))) HX.out HV.out HNE.out HJ.out HD.out);go_wp2_with fail;refine ah an an ?_;repeat (go_big_quiet_step (first|(go_at_call 81;exact Calls.wide (HC0.out _))|fail))
  refine wpQuiet_nil ?_;rintro _ ⟨q1,rfl⟩;obtain⟨HB1,Ck⟩:=cf;have Cr:=upK Gr q1.b;clear hne0 HW HB HC0 k0 k1 k2 k3 k4 k5 r3 tw Gk Gr Bk Br pr3;have HB:=HB1;clear HB1;have Bk:=Ck;clear Ck;have Br:=Cr;clear Cr;obtain⟨hc1,hb1,HBW1⟩:=kS;clear hc hb HBW;by_cases hg:∃(i:Nat) (x:Xd),c.xs[i]?=some x/\x.n=t;rotate_left
  ·have HG:=aa hg;clear hg;obtain⟨Gk,Gr,HW⟩:=aY;obtain⟨k0,k1,k2,k3,k4,k5⟩:=sl6 Gk;obtain⟨r0,r1,r2,r3,r4,r5⟩:=sl6 Gr;obtain⟨tw,hne0⟩:=fv;have HC0:=aa (fun q:Wd q1.w=>dp ⟨(some ⟨b1,o1,none⟩),l1,y1,a2,l2,y2,(some ⟨b3,o3,none⟩),l3,y3,a4,l4,y4,(some ⟨b,o,none⟩),l5,y5⟩ c.now c.xs t q.w (HR.x.below (HW.trans (q.b.mono HW.size))) (fun i x h1 h2=>HG.out ⟨i,x,h1,h2⟩));exact jN
  obtain⟨i4,x4,g1,g2⟩:=hg;obtain⟨HG1,HG2,hi41⟩:=kQ;clear g1 g2;have hbv:=sG HB3.out HB.size;have v2:=(ai HB.out HB3.out).trans HC2.out;have hbn:=sG HBn.out HB.size;have n1:=(ai HB.out HBn.out).trans HCn.out;by_cases hz:v.z=n.z
  ·have hzq:=ba hz;have HZ:=aa hz;clear hz;obtain⟨Gk,Gr,HW⟩:=aY;obtain⟨k0,k1,k2,k3,k4,k5⟩:=sl6 Gk;obtain⟨r0,r1,r2,r3,r4,r5⟩:=sl6 Gr;obtain⟨tw,vw,nw,hne0,HC0⟩:=pR;go_wp2_with fail;refine ah an an ?_;repeat (go_big_quiet_step (first|(go_at_call 105;exact Calls.wide (HC0.out _))|fail))
   refine wpQuiet_nil ?_;rintro _ ⟨q2,rfl⟩;obtain⟨HB2,Ck⟩:=cd;have Cr:=upK Gr q2.b;clear hne0 HW HB HC0 k0 k1 k2 k3 k4 k5 r0 r1 r2 r3 r4 r5 tw vw nw Gk Gr Bk Br hc1 hb1 hbv v2 hbn n1;have HB:=HB2;clear HB2;have Bk:=Ck;clear Ck;have Br:=Cr;clear Cr;clear hzq;go_wp2_with fail;refine⟨⟨kq+1,by omega,by go_num,fun j s hj hs=>?_,HBW1.trans (q2.b.mono HBW1.size)⟩,by simp[intOf];omega⟩;by_cases e:j=kq
   ·subst e;rw[HXt.out] at hs;obtain rfl:=sx hs;exact⟨⟨i4,x4,HG1.out,HG2.out⟩,.inr ⟨v,j1,n,HD.out,HJn.out,HNn.out,HZ.out⟩⟩
   ·exact HQ2.out j s af hs
  ·have hzq:=bz hz;have HZ:=aa hz;clear hz;obtain⟨Gk,Gr,HW⟩:=aY;obtain⟨k0,k1,k2,k3,k4,k5⟩:=sl6 Gk;obtain⟨r0,r1,r2,r3,r4,r5⟩:=sl6 Gr;obtain⟨tw,vw,nw,hne0,HC0⟩:=pR;go_wp2_with fail;refine ah an an ?_;repeat (go_big_quiet_step (first|(go_at_call 105;exact Calls.wide (HC0.out _))|fail))
   refine wpQuiet_nil ?_;rintro _ ⟨q2,rfl⟩;obtain⟨HB2,Ck⟩:=cd;have Cr:=upK Gr q2.b;clear hne0 HW HB HC0 k0 k1 k2 k3 k4 k5 r0 r1 r2 r3 r4 r5 tw vw nw Gk Gr Bk Br hc1 hb1 hbv v2 hbn n1;have HB:=HB2;clear HB2;have Bk:=Ck;clear Ck;have Br:=Cr;clear Cr;go_wp2;go_ret;refine al.f (fun h=>?_) HB.out;have h9:=(h.1 k p HXp.out).2.1 kq t HXt.out;rcases h9.2 with h2|⟨v',i,n',h2,h3,h4,h5⟩
   ·exact HEm.out h2
   ·obtain rfl:=bm.inj HX.out HV.out HD.out h2;obtain⟨_,rfl⟩:=HNR.inj h3 HJn.out (h4.trans HNn.symm);exact HZ.out h5
 ·have HD:=aa hbd;clear hbd;obtain⟨Gk,Gr,HW⟩:=aY;obtain⟨k0,k1,k2,k3,k4,k5⟩:=sl6 Gk;have r3:=fun q:Wd wr=>q.slot (o:=3) Gr.out rfl;obtain⟨tw,hne0⟩:=eT;have HC0:=aa (fun q:Wd wr=>dL ⟨(some ⟨b1,o1,none⟩),l1,y1,a2,l2,y2,a3,l3,y3,a4,l4,y4,(some ⟨b,o,none⟩),l5,y5⟩ c t q.w (HR.below (HW.trans (q.b.mono HW.size))) HX.out HV.out HNE.out HD.out);go_wp2_with fail;refine ah an an ?_;repeat (go_big_quiet_step (first|(go_at_call 81;exact Calls.wide (HC0.out _))|fail))
  refine wpQuiet_nil ?_;rintro _ ⟨q1,rfl⟩;obtain⟨HB1,Ck⟩:=cf;have Cr:=upK Gr q1.b;clear hne0 HW HB HC0 k0 k1 k2 k3 k4 k5 r3 tw Gk Gr Bk Br pr3;have HB:=HB1;clear HB1;have Bk:=Ck;clear Ck;have Br:=Cr;clear Cr;obtain⟨hc1,hb1,HBW1⟩:=kS;clear hc hb HBW;by_cases hg:∃(i:Nat) (x:Xd),c.xs[i]?=some x/\x.n=t;rotate_left
  ·have HG:=aa hg;clear hg;obtain⟨Gk,Gr,HW⟩:=aY;obtain⟨k0,k1,k2,k3,k4,k5⟩:=sl6 Gk;obtain⟨r0,r1,r2,r3,r4,r5⟩:=sl6 Gr;obtain⟨tw,hne0⟩:=fv;have HC0:=aa (fun q:Wd q1.w=>dp ⟨(some ⟨b1,o1,none⟩),l1,y1,a2,l2,y2,a3,l3,y3,a4,l4,y4,(some ⟨b,o,none⟩),l5,y5⟩ c.now c.xs t q.w (HR.x.below (HW.trans (q.b.mono HW.size))) (fun i x h1 h2=>HG.out ⟨i,x,h1,h2⟩));exact jN
  obtain⟨i4,x4,g1,g2⟩:=hg;obtain⟨HG1,HG2,hi41⟩:=kQ;clear g1 g2;obtain⟨Gk,Gr,HW⟩:=aY;obtain⟨k0,k1,k2,k3,k4,k5⟩:=sl6 Gk;obtain⟨r0,r1,r2,r3,r4,r5⟩:=sl6 Gr;obtain⟨tw,hne0⟩:=fv;have HC0:=aa (fun q:Wd q1.w=>dU ⟨(some ⟨b1,o1,none⟩),l1,y1,a2,l2,y2,a3,l3,y3,a4,l4,y4,(some ⟨b,o,none⟩),l5,y5⟩ c.now c.xs t q.w (HR.x.below (HW.trans (q.b.mono HW.size))) HX.out HG1.out HG2.out);go_wp2_with fail;refine ah an an ?_;repeat (go_big_quiet_step (first|(go_at_call 105;exact Calls.wide (HC0.out _))|fail))
  refine wpQuiet_nil ?_;rintro _ ⟨q2,rfl⟩;obtain⟨HB2,Ck⟩:=cd;have Cr:=upK Gr q2.b;clear hne0 HW HB HC0 k0 k1 k2 k3 k4 k5 r0 r1 r2 r3 r4 r5 tw Gk Gr Bk Br hc1 hb1;have HB:=HB2;clear HB2;have Bk:=Ck;clear Ck;have Br:=Cr;clear Cr;go_wp2;go_ret;refine al.f (fun h=>?_) HB.out;have h9:=(h.1 k p HXp.out).2.1 kq t HXt.out;rcases h9.2 with h2|⟨v',i,n',h2,_⟩
  ·exact HEm.out h2
  ·exact HD.out v' h2):p:=h
theorem sa {p:Prop} (h:p:=by
 obtain rfl:vl=kq:=af
 have HQb:Hid (PSb c p):=fun j t ht=>HQ2.out j t po ht;clear HQ2;have TV2:=aa (TV.below HBW.out);have KV2:=Bk;have GV2:=Br;have BV2:=HB;clear KV GV BV TV Bk Br HB HBW;obtain⟨W2,hW⟩:∃W2,W2=wr:=⟨_,rfl⟩;rw[<-hW] at KV2 GV2 BV2 TV2;go_wp2;clear pr3;rw[<-hW];clear hW;go_loopw [8] (fun i wr=> ∃kz:Nat,kz<=k/\i=.int .i64 kz/\Hid (∀(j:Nat) q,j<kz->c.ps[j]?=some q->gu c q p)/\Hid (Below W2.heap.size W2 wr)) (fun i _=>k - (intOf i).toNat);case atStart=>exact⟨0,by omega,rfl,fun _ _ h=>absurd h af,sB _ _⟩
 case round=>
  obtain⟨kz,hkz,rfl,HQ3,HBW⟩:=hrel;have HB:=aa (BV2.trans (HBW.mono BV2.size));have Bk:=upK KV2 HBW.out;have Br:=upK GV2 HBW.out;have HTp:=aa (TV2.below HBW.out);by_cases hlt3:kz<k
  ·obtain⟨b',o',pq,e',hb',hqq,hatq⟩:=bR (HR.p.below HB.out) (show kz<l5 by omega);cases e';obtain⟨qa,ql,qc,hqr,z0,z2,z4,d0,d1,d2,d3,d4,d5⟩:=aO hatq;have HXq:=aa hqq;have HTq:=aa hqr;clear hatq hqq hqr z0 z2 z4;by_cases hpr:gu c pq p
   ·have HPr:=aa hpr;clear hpr;obtain⟨Gk,Gr,HW⟩:=aY;obtain⟨k0,k1,k2,k3,k4,k5⟩:=sl6 Gk;obtain⟨r0,r1,r2,r3,r4,r5⟩:=sl6 Gr;obtain⟨q0,q1,q2,q3,q4,q5,hne0⟩:=o6;have HC0:=aa (fun qw:Wd wr=>(dq ⟨(some ⟨b1,o1,none⟩),l1,y1,a2,l2,y2,a3,l3,y3,a4,l4,y4,(some ⟨b,o,none⟩),l5,y5⟩ c pq p qa ql qc va vl vc qw.w (HR.below (HW.trans (qw.b.mono HW.size))) HX.out HV.out HNE.out (HTq.below qw.b) (HTp.below qw.b)).mono (fun _ _ h=>al.yes h HPr.out));exact nO
   ·have HPr:=aa hpr;clear hpr;obtain⟨Gk,Gr,HW⟩:=aY;obtain⟨k0,k1,k2,k3,k4,k5⟩:=sl6 Gk;obtain⟨r0,r1,r2,r3,r4,r5⟩:=sl6 Gr;obtain⟨q0,q1,q2,q3,q4,q5,hne0⟩:=o6;have HC0:=aa (fun qw:Wd wr=>(dq ⟨(some ⟨b1,o1,none⟩),l1,y1,a2,l2,y2,a3,l3,y3,a4,l4,y4,(some ⟨b,o,none⟩),l5,y5⟩ c pq p qa ql qc va vl vc qw.w (HR.below (HW.trans (qw.b.mono HW.size))) HX.out HV.out HNE.out (HTq.below qw.b) (HTp.below qw.b)).mono (fun _ _ h=>al.no h HPr.out));exact nM
  ·exact nL):p:=h
theorem rv {p:Prop} (h:p:=by
 exact jN):p:=h
theorem eW {p:Prop} (h:p:=by
 go_simp;refine hK _ _ (sB _ _) ?_;with_reducible rfl):p:=h
theorem i_ {p:Prop} (h:p:=by
 obtain rfl:len=k:=af
 go_wp2;go_ret;refine⟨rfl,?_,HB.out⟩;have h5:=HP.out;rw[sE af,List.drop_of_length_le aT,List.append_nil] at h5;exact h5):p:=h
theorem dF {p:Prop} (h:p:=by
 obtain⟨h1,h2⟩:=sv.1 hx;simpa using h2.symm):p:=h
theorem iU {p:Prop} (h:p:=by
 rw[h3] at h4;exact⟨by rw[td,dA hZl af];simp,sy _,by omega,.inr ⟨_,cur,H,rfl,h4⟩⟩):p:=h
theorem k_ {p:Prop} (h:p:=by
 refine Obl.plain rfl ?_;intro ac wg K hsz hW hf hK;clear hsz;clear hf;go_simp;exact hK _ _ (aj _ _) ⟨_,rfl,hW.size,sH⟩):p:=h
theorem ec {p:Prop} (h:p:=by
 rintro e w' ⟨rfl,rfl⟩;go_wp2;go_ret;exact⟨rfl,rfl⟩):p:=h
theorem iT {p:Prop} (h:p:=by
 intro j r hr;rw[sK] at hr;obtain⟨x,hx,rfl⟩:=sF.1 hr;rfl):p:=h
theorem iQ {p:Prop} (h:p:=by
 obtain⟨k0,k1,k2,k3,k4,k5⟩:=cs6 Bk;go_wp2;go_ret;exact⟨-1,rfl,.inl rfl,HB.out⟩):p:=h
theorem nn {p:Prop} (h:p:=by
 rw[s9 cC] at hj;cases hj):p:=h
theorem qt {p:Prop} (h:p:=by
 have HCq:=aa hq;go_wp2_with fail;refine⟨⟨k+1,by omega,by go_num,fun j z hj hz=>?_,HB.out,Bk.out⟩,by simp[intOf];omega⟩;by_cases e:j=k
 ·subst e;rw[HXn.out] at hz;obtain rfl:=sx hz;exact HCq.out
 ·exact HQ.out j z af hz):p:=h
theorem qp {p:Prop} (h:p:=by
 rw[th,ay hg];have hj:j<n:=by have:=(sv.1 hx).1;omega
 have e1:(cur.toList.take (n*1))[j]?=some (.string x):=by rw[htk];simp[hx]
 rw[sW,if_pos af] at e1;simpa using e1):p:=h
theorem p_ {p:Prop} (h:p:=by
 obtain rfl:l1=k:=af
 go_wp2;go_ret;exact al.t ⟨HQ1.out,fun j n hz=>HQ.out j n bI hz⟩ HB.out):p:=h
theorem nU {p:Prop} (h:p:=by
 go_enter Tryz.func85,Tryz.ntmps85;go_wp2;refine wp_loop_rounds 1 ?_;rw[rounds_succ];go_wp2;go_ret;exact⟨rfl,rfl⟩):p:=h
theorem qW {p:Prop} (h:p:=by
 subst e;rw[HXt.out] at hs;obtain rfl:=sx hs;exact⟨⟨i4,x4,HG1.out,HG2.out⟩,.inl HEm.out⟩):p:=h
theorem nP {p:Prop} (h:p:=by
 obtain⟨gb,hgb⟩:∃gb,gb=wr.heap.size:=⟨_,rfl⟩;rw[<-hgb] at Br;have pr3:=ck3 Br;rw[hgb] at pr3;go_wp2;rw[<-hgb];clear pr3 hgb;have KV:=Bk;have GV:=Br;have BV:=HB;have TV:=HTp;clear Bk Br HB HTp;obtain⟨W,hW⟩:∃W,W=q0.w:=⟨_,rfl⟩;rw[<-hW] at KV GV BV TV ⊢;clear hW;go_loopw [6] (fun i wr=> ∃kq:Nat,kq<=vl/\i=.int .i64 kq/\Hid (∀(j:Nat) t,j<kq->p.zs[j]?=some t->rj c p t)/\Hid (Below W.heap.size W wr)) (fun i _=>vl - (intOf i).toNat);case atStart=>exact⟨0,by omega,rfl,fun _ _ h=>absurd h af,sB _ _⟩
 case round=>
  obtain⟨kq,hkq,rfl,HQ2,HBW⟩:=hrel;obtain⟨HB,Bk⟩:=iD;have Br:=upK GV HBW.out;have pr3:=ck3 Br;by_cases hlt2:kq<vl
  ·obtain⟨b2,o2,t,rfl,hb,hxt,hc,hsz⟩:=(TV.below HBW.out).at hlt2;have HXt:=aa hxt;clear hxt hsz;have hcase:(∃v,bm c t v)\/(∀v,¬bm c t v):=by
    by_cases h:∃v,bm c t v
    ·exact .inl h
    ·exact .inr (fun v hv=>h ⟨v,hv⟩)
   exact sb
  ·exact sa):p:=h
theorem jN {p:Prop} (h:p:=by
 go_wp2_with fail;refine ah an an ?_;repeat (go_big_quiet_step (first|(go_at_call 105;exact Calls.wide (HC0.out _))|fail))
 refine wpQuiet_nil ?_;rintro _ ⟨q2,rfl⟩;obtain⟨HB2,Ck⟩:=cd;have Cr:=upK Gr q2.b;clear hne0 HW HB HC0 k0 k1 k2 k3 k4 k5 r0 r1 r2 r3 r4 r5 tw Gk Gr Bk Br hc1 hb1;have HB:=HB2;clear HB2;have Bk:=Ck;clear Ck;have Br:=Cr;clear Cr;go_wp2;go_ret;refine al.f (fun h=>?_) HB.out;have h9:=(h.1 k p HXp.out).2.1 kq t HXt.out;exact HG.out h9.1):p:=h
theorem nO {p:Prop} (h:p:=by
 go_wp2_with fail;refine ah an an ?_;repeat (go_big_quiet_step (first|(go_at_call 122;exact Calls.wide (HC0.out _))|fail))
 refine wpQuiet_nil ?_;rintro _ ⟨q9,rfl⟩;have HB1:=upB HW q9.b;have Ck:=upK Gk q9.b;have Cr:=upK Gr q9.b;clear hne0 HW HB HC0 k0 k1 k2 k3 k4 k5 r0 r1 r2 r3 r4 r5 q0 q1 q2 q3 q4 q5 Gk Gr Bk Br d0 d1 d2 d3 d4 d5;have HB:=HB1;clear HB1;have Bk:=Ck;clear Ck;have Br:=Cr;clear Cr;go_wp2_with fail;refine⟨⟨kz+1,by omega,by go_num,fun j s hj hs=>?_,HBW.trans (q9.b.mono HBW.size)⟩,by simp[intOf];omega⟩;by_cases e:j=kz
 ·subst e;rw[HXq.out] at hs;obtain rfl:=sx hs;exact HPr.out
 ·exact HQ3.out j s af hs):p:=h
theorem nN {p:Prop} (h:p:=by
 go_wp2_with fail;refine ah an an ?_;repeat (go_big_quiet_step (first|(go_at_call 105;exact Calls.wide (HC0.out _))|fail))
 refine wpQuiet_nil ?_;rintro _ ⟨q2,rfl⟩;obtain⟨HB2,Ck⟩:=cd;have Cr:=upK Gr q2.b;clear hne0 HW HB HC0 k0 k1 k2 k3 k4 k5 r0 r1 r2 r3 r4 r5 tw Gk Gr Bk Br hc1 hb1;have HB:=HB2;clear HB2;have Bk:=Ck;clear Ck;have Br:=Cr;clear Cr;go_wp2_with fail;refine⟨⟨kq+1,by omega,by go_num,fun j s hj hs=>?_,HBW1.trans (q2.b.mono HBW1.size)⟩,by simp[intOf];omega⟩;by_cases e:j=kq
 ·exact qW
 ·exact HQ2.out j s af hs):p:=h
theorem nM {p:Prop} (h:p:=by
 go_wp2_with fail;refine ah an an ?_;repeat (go_big_quiet_step (first|(go_at_call 122;exact Calls.wide (HC0.out _))|fail))
 refine wpQuiet_nil ?_;rintro _ ⟨q9,rfl⟩;have HB1:=upB HW q9.b;have Ck:=upK Gk q9.b;have Cr:=upK Gr q9.b;clear hne0 HW HB HC0 k0 k1 k2 k3 k4 k5 r0 r1 r2 r3 r4 r5 q0 q1 q2 q3 q4 q5 Gk Gr Bk Br d0 d1 d2 d3 d4 d5;have HB:=HB1;clear HB1;have Bk:=Ck;clear Ck;have Br:=Cr;clear Cr;go_wp2;go_ret;exact al.f (fun h=>HPr.out ((h.1 k p HXp.out).2.2 kz pq hlt3 HXq.out)) HB.out):p:=h
theorem jM {p:Prop} (h:p:=by
 have hgl:=ae (HS.own.choose_spec.choose_spec.1.blk);refine⟨_,_,_,rfl,HVZ.out,sy _,by omega,HT.2.2.2.1,.inr ⟨rfl,by show w.heap.size<=_;omega,by omega,_,hG,fun j x hx=>?_⟩⟩;simp[hx]):p:=h
theorem nL {p:Prop} (h:p:=by
 obtain rfl:k=kz:=af
 go_wp2_with fail;refine⟨⟨k+1,by omega,by go_num,fun j z hj hz=>?_,HB.out,Bk.out⟩,by simp[intOf];omega⟩;by_cases e:j=k
 ·subst e;rw[HXp.out] at hz;obtain rfl:=sx hz;exact⟨HPa.out,HQb.out,fun j2 q2 hj2 hq2=>HQ3.out j2 q2 hj2 hq2⟩
 ·exact HQ.out j z af hz):p:=h
theorem fC {p:Prop} (h:p:=by
 rw[sK,bu hZl af,List.getElem?_replicate,if_pos hlt];rfl):p:=h
theorem o6 {p:Prop} (h:p:=by
 have q0:∀q:Wd wr,q.w.cell? ⟨b,o+kz*6,none⟩=some (.string pq.n):=fun q=>(q.cell (hb')).trans (d0);have q1:∀q:Wd wr,q.w.cell? ⟨b,o+kz*6+1,none⟩=some (.int .i64 pq.c):=fun q=>(q.cell (hb')).trans (d1);have q2:∀q:Wd wr,q.w.cell? ⟨b,o+kz*6+2,none⟩=some (.string pq.z):=fun q=>(q.cell (hb')).trans (d2);have q3:∀q:Wd wr,q.w.cell? ⟨b,o+kz*6+3,none⟩=some (.slice qa ql qc):=fun q=>(q.cell (hb')).trans (d3);have q4:∀q:Wd wr,q.w.cell? ⟨b,o+kz*6+4,none⟩=some (.string pq.d):=fun q=>(q.cell (hb')).trans (d4);have q5:∀q:Wd wr,q.w.cell? ⟨b,o+kz*6+5,none⟩=some (.int .i64 pq.p):=fun q=>(q.cell (hb')).trans (d5);have hne0:=Wd.ne wr;exact sw q0 (sw q1 (sw q2 (sw q3 (sw q4 (sw q5 hne0)))))):p:=h
theorem qV {p:Prop} (h:p:=by
 have Gk:Hid ((wr.alloc (.cells #[.string p.n,.int .i64 p.c,.string p.z,.slice va vl vc,.string p.d,.int .i64 2] 103)).heap[w.heap.size]?=some (.cells (clo6 (some ⟨b1,o1,none⟩) l1 y1 a2 l2 y2 a3 l3 y3 a4 l4 y4 (some ⟨b,o,none⟩) l5 y5 c.now) 36 (0,0))):=(sR _ _ _ (ae Bk.out)).trans (Bk.out);have Gr:Hid ((wr.alloc (.cells #[.string p.n,.int .i64 p.c,.string p.z,.slice va vl vc,.string p.d,.int .i64 2] 103)).heap[wr.heap.size]?=some (.cells #[.string p.n,.int .i64 p.c,.string p.z,.slice va vl vc,.string p.d,.int .i64 2] 103 (0,0))):=sH;have HW:Hid (Below w.heap.size w (wr.alloc (.cells #[.string p.n,.int .i64 p.c,.string p.z,.slice va vl vc,.string p.d,.int .i64 2] 103))):=(HB.trans ((aj _ _).mono HB.size));exact sw Gk (sw Gr HW)):p:=h
theorem qU {p:Prop} (h:p:=by
 have nw:=fun q:Wd (wr.alloc (.cells #[.string p.n,.int .i64 p.c,.string p.z,.slice va vl vc,.string p.d,.int .i64 2] 103))=>(q.cell hbnv).trans e5v;have hne0:=Wd.ne (wr.alloc (.cells #[.string p.n,.int .i64 p.c,.string p.z,.slice va vl vc,.string p.d,.int .i64 2] 103));have HC0:=aa (fun q:Wd (wr.alloc (.cells #[.string p.n,.int .i64 p.c,.string p.z,.slice va vl vc,.string p.d,.int .i64 2] 103))=>fp ⟨(some ⟨b1,o1,none⟩),l1,y1,a2,l2,y2,a3,l3,y3,a4,l4,y4,(some ⟨b,o,none⟩),l5,y5⟩ c.now c.ns p.d q.w (HR.n.below (HW.trans (q.b.mono HW.size))) HNR.out HJn.out HNn.out);exact sw nw (sw hne0 HC0)):p:=h
theorem gD {p:Prop} (h:p:=by
 have HE:=aa h;have v0:=h.v0;have v1:=h.v1;have v2:=h.v2;have v3:=h.v3;have v4:=h.v4;have v5:=h.v5;have v6:=h.v6;have v7:=h.v7;have v8:=h.v8;have v9:=h.v9;exact sw HE (sw v0 (sw v1 (sw v2 (sw v3 (sw v4 (sw v5 (sw v6 (sw v7 (sw v8 v9)))))))))):p:=h
theorem kV {p:Prop} (h:p:=by
 have Gk:=Bk;have Gv:=Bv;have HW:=HB;have k2:=fun q:Wd q1.w=>q.slot (o:=2) Gk.out rfl;have v0:=fun q:Wd q1.w=>q.slot (o:=0) Gv.out rfl;have v2:=fun q:Wd q1.w=>q.slot (o:=2) Gv.out rfl;have v5:=fun q:Wd q1.w=>q.slot (o:=5) Gv.out rfl;have v6:=fun q:Wd q1.w=>q.slot (o:=6) Gv.out rfl;exact sw Gk (sw Gv (sw HW (sw k2 (sw v0 (sw v2 (sw v5 v6))))))):p:=h
theorem iJ {p:Prop} (h:p:=by
 have v1w:=fun q:Wd w2=>(q.cell hbv).trans v1;have v3w:=fun q:Wd w2=>(q.cell hbv).trans v3;have v4w:=fun q:Wd w2=>(q.cell hbv).trans v4;have v5w:=fun q:Wd w2=>(q.cell hbv).trans v5;have hne0:=Wd.ne w2;exact sw v1w (sw v3w (sw v4w (sw v5w hne0)))):p:=h
theorem mU {p:Prop} (h:p:=by
 have hbnv:b1<(wr.alloc (.cells #[.string p.n,.int .i64 p.c,.string p.z,.slice va vl vc,.string p.d,.int .i64 2] 103)).heap.size:=by simp;omega
 have e5v:=(ai (aj wr (.cells #[.string p.n,.int .i64 p.c,.string p.z,.slice va vl vc,.string p.d,.int .i64 2] 103)) hbn).trans e5;exact sw hbnv e5v):p:=h
theorem iH {p:Prop} (h:p:=by
 have hnx1:=(sB _ _).grown hgrow (sy _) (fun k hk=>by cases hk);have HB:Hid (Below w.heap.size w w1):=hnx1;exact sw hnx1 HB):p:=h
theorem pS {p:Prop} (h:p:=by
 have p3:=fun q:Wd wr=>q.slot (o:=3) Gp.out rfl;have n6:=fun q:Wd wr=>q.slot (o:=6) Gn.out rfl;have tw:=fun q:Wd wr=>(q.cell hb).trans hc;have vw:=fun q:Wd wr=>(q.cell hbv).trans v0;have hne0:=Wd.ne wr;have HC0:=aa (fun q:Wd wr=>dt ⟨(some ⟨b1,o1,none⟩),l1,y1,a2,l2,y2,(some ⟨b3,o3,none⟩),l3,y3,a4,l4,y4,a5,l5,y5⟩ c t q.w (HR.below (HW.trans (q.b.mono HW.size))) HX.out HV.out HNE.out HJ.out HDb.out);exact sw p3 (sw n6 (sw tw (sw vw (sw hne0 HC0))))):p:=h
theorem pR {p:Prop} (h:p:=by
 have tw:=fun q:Wd q1.w=>(q.cell hb1).trans hc1;have vw:=fun q:Wd q1.w=>(q.cell hbv).trans v2;have nw:=fun q:Wd q1.w=>(q.cell hbn).trans n1;have hne0:=Wd.ne q1.w;have HC0:=aa (fun q:Wd q1.w=>dU ⟨(some ⟨b1,o1,none⟩),l1,y1,a2,l2,y2,(some ⟨b3,o3,none⟩),l3,y3,a4,l4,y4,(some ⟨b,o,none⟩),l5,y5⟩ c.now c.xs t q.w (HR.x.below (HW.trans (q.b.mono HW.size))) HX.out HG1.out HG2.out);exact sw tw (sw vw (sw nw (sw hne0 HC0)))):p:=h
theorem aY {p:Prop} (h:p:=by
 have Gk:=Bk;have Gr:=Br;have HW:=HB;exact sw Gk (sw Gr HW)):p:=h
theorem mS {p:Prop} (h:p:=by
 have Gk:=Bk;have Gv:=Bv;have HW:=HB;have k0:=fun q:Wd q1.w=>q.slot (o:=0) Gk.out rfl;have v2:=fun q:Wd q1.w=>q.slot (o:=2) Gv.out rfl;have v7:=fun q:Wd q1.w=>q.slot (o:=7) Gv.out rfl;exact sw Gk (sw Gv (sw HW (sw k0 (sw v2 v7))))):p:=h
theorem pP {p:Prop} (h:p:=by
 have h8:=@run_callFunc_extern Tryz.prog 110 _ Extern.ReflectliteType.typeOf Tryz.func110 an an an an;have h32:=@run_callFunc_extern Tryz.prog 204 _ rG Tryz.func204 an an an an;have tT:=ou;have cT:=gL;have mR:=dO;exact sw h8 (sw h32 (sw tT (sw cT mR)))):p:=h
theorem eT {p:Prop} (h:p:=by
 have tw:=fun q:Wd wr=>(q.cell hb).trans hc;have hne0:=Wd.ne wr;exact sw tw hne0):p:=h
theorem fv {p:Prop} (h:p:=by
 have tw:=fun q:Wd q1.w=>(q.cell hb1).trans hc1;have hne0:=Wd.ne q1.w;exact sw tw hne0):p:=h
theorem iE {p:Prop} (h:p:=by
 have HB2:=upB HW q0.b;have Ck:=upK Gk q0.b;have Cr:=upK Gr q0.b;have CHTp:=aa ((HTp.out).below q0.b);exact sw HB2 (sw Ck (sw Cr CHTp))):p:=h
theorem pN {p:Prop} (h:p:=by
 have yw:=fun q:Wd w1=>(q.cell hbv).trans hcv;have hne0:=Wd.ne w1;have HC0:=aa (fun q:Wd w1=>db ⟨a1,l1,y1,a2,l2,y2,(some ⟨b,o,none⟩),l3,y3,(some ⟨b4,o4,none⟩),l4,y4,a5,l5,y5⟩ c.now c.ks v.k q.w (HR.k.below (HW.trans (q.b.mono HW.size))) HKS.out HG1.out HG2.out);exact sw yw (sw hne0 HC0)):p:=h
theorem pM {p:Prop} (h:p:=by
 have Gk:=Bk;have Gv:=Bv;have HW:=HB;have k0:=fun q:Wd wr=>q.slot (o:=0) Gk.out rfl;have k1:=fun q:Wd wr=>q.slot (o:=1) Gk.out rfl;have k2:=fun q:Wd wr=>q.slot (o:=2) Gk.out rfl;have k3:=fun q:Wd wr=>q.slot (o:=3) Gk.out rfl;have k4:=fun q:Wd wr=>q.slot (o:=4) Gk.out rfl;have k5:=fun q:Wd wr=>q.slot (o:=5) Gk.out rfl;exact sw Gk (sw Gv (sw HW (sw k0 (sw k1 (sw k2 (sw k3 (sw k4 k5)))))))):p:=h
theorem pG {p:Prop} (h:p:=by
 have hne0:=Wd.ne w1;have HC0:=aa (fun q:Wd w1=>db ⟨a1,l1,y1,a2,l2,y2,(some ⟨b,o,none⟩),l3,y3,a4,l4,y4,a5,l5,y5⟩ c.now c.ks v.k q.w (HR.k.below (HW.trans (q.b.mono HW.size))) HKS.out HG1.out HG2.out);exact sw hne0 HC0):p:=h
theorem kS {p:Prop} (h:p:=by
 have hc1:=(q1.cell hb).trans hc;have hb1:=sG hb q1.b.size;have HBW1:=upB HBW q1.b;exact sw hc1 (sw hb1 HBW1)):p:=h
theorem mO {p:Prop} (h:p:=by
 have HT:=aa hvr;have hvl2:vl<=1048576:=by have:=HF.out k v hv;rw[hvr.1] at this;exact this
 have hvz:=hvr.1;have HVZ:=aa hvz;exact sw HT (sw hvl2 (sw hvz HVZ))):p:=h
theorem dC {p:Prop} (h:p:=by
 have Ck:=upK Gk q1.b;have Cr:=upK Gr q1.b;exact sw Ck Cr):p:=h
theorem kQ {p:Prop} (h:p:=by
 have HG1:=aa g1;have HG2:=aa g2;have hi41:decide ((i4:Int)<0)=false:=aT
 exact sw HG1 (sw HG2 hi41)):p:=h
end Go.Proofs.YtdfgbboadbnodaaGreatDoor
namespace Go.Proofs.YtdfgbboadbnodaaGreatDoor
open Go.RowKit
namespace Rc
open Mk

def ph (c:Cl) (t:ByteArray):Prop:=∃(i:Nat) (k:Kd),c.ks[i]?=some k/\k.n=t
def SV (c:Cl) (v:Vd):Prop:=ph c v.k/\(v.m=⟨#[]⟩\/∃(i:Nat) (x:Xd),c.xs[i]?=some x/\x.n=v.m/\x.v=v.n)
def SX (c:Cl) (x:Xd):Prop:=ph c x.k/\(x.v=⟨#[]⟩\/∃(j:Nat) (v:Vd),c.vs[j]?=some v/\v.n=x.v/\v.m=x.n/\x.z<=v.c/\v.k=x.k/\v.x=x.x)
def kF (c:Cl):Prop:=(∀(j:Nat) z,c.vs[j]?=some z->SV c z)/\(∀(j:Nat) z,c.xs[j]?=some z->SX c z)

theorem jE (d:Ad) (c:Cl) (w:World) (hr:aL w d c.raw) (hks:aG Kd.n c.ks) (hxs:aG Xd.n c.xs) (hvs:aG Vd.n c.vs):
  Calls Tryz.prog 101 #[.agg #[.slice d.a1 d.l1 d.c1,.slice d.a2 d.l2 d.c2,.slice d.a3 d.l3 d.c3,.slice d.a4 d.l4 d.c4,.slice d.a5 d.l5 d.c5,.int .i64 c.now]] w (al (kF c) w):=by
 obtain⟨a1,l1,y1,a2,l2,y2,a3,l3,y3,a4,l4,y4,a5,l5,y5⟩:=d;dsimp only;obtain⟨HR,hl1,hm1,hl2,hm2,hl3,hm3,hl4,hm4,hl5,hm5⟩:=o7;clear hr;have HKS:=aa hks;have HXS:=aa hxs;have HVS:=aa hvs;clear hks hxs hvs;go_enter Tryz.func101,Tryz.ntmps101;go_wp2;go_loopw [3] (fun i wr=> ∃k:Nat,k<=l3/\i=.int .i64 k/\Hid (∀(j:Nat) z,j<k->c.vs[j]?=some z->SV c z)/\Hid (Below w.heap.size w wr)/\Hid (wr.heap[w.heap.size]?=some (.cells (clo6 a1 l1 y1 a2 l2 y2 a3 l3 y3 a4 l4 y4 a5 l5 y5 c.now) 36 (0,0)))) (fun i _=>l3 - (intOf i).toNat);case atStart=>exact⟨0,by omega,rfl,fun _ _ h=>absurd h af,aj _ _,sH⟩
 case round=>
  obtain⟨k,hk,rfl,HQ,HB,Bk⟩:=hrel;have pk:=ck2 Bk;by_cases hlt:k<l3
  ·obtain⟨b,o,v,rfl,hb,hx,hat⟩:=bk (HR.v.below HB.out) hlt;obtain⟨va,vl,vc,hvr,z0,z2,z3,z5,c0,c1,c2,c3,c4,c5,c6,c7⟩:=aE hat;have HXv:=aa hx;have HTv:=aa hvr;have HZv0:=aa z0;have HZv2:=aa z2;have HZv3:=aa z3;have HZv5:=aa z5;clear hat hx z0 z2 z3 z5 hvr;obtain⟨k0,k1,k2,k3,k4,k5⟩:=cs6 Bk;have ltk_0:=ae Bk.out;go_wp2_with fail;refine (dV ⟨a1,l1,y1,a2,l2,y2,(some ⟨b,o,none⟩),l3,y3,a4,l4,y4,a5,l5,y5⟩ c.now c.xs v.m _ (HR.x.below (HB.trans ((aj _ _).mono HB.size)))).mono ?_;rintro e w1 ⟨hb2,hf⟩;clear k0 k1 k2 k3 k4 k5 ltk_0;obtain⟨HA0,hbx⟩:=aJ hb2;replace Bk:=upK Bk hbx;have Br:=aa HA0;replace HB:=upB HB hbx;clear hb2 hbx HA0;clear pk hb c0 c1 c2 c3 c4 c5 c6 c7;by_cases hkh:ph c v.k;rotate_left
   ·have HKH:=aa hkh;clear hkh;obtain⟨r,hre⟩:∃r:Int,e=.returned (.int .i64 r):=by rcases hf with ⟨j,y,_,_,h⟩|⟨_,h⟩ <;> exact⟨_,h⟩
    subst hre;clear hf;obtain⟨Gk,Gr,HW⟩:=aY;obtain⟨k0,k1,k2,k3,k4,k5⟩:=sl6 Gk;obtain⟨r0,r1,r2,r3,r4,r5,r6,r7⟩:=sl8 Gr;have hne0:=Wd.ne w1;have HC0:=aa (fun q:Wd w1=>fV ⟨a1,l1,y1,a2,l2,y2,(some ⟨b,o,none⟩),l3,y3,a4,l4,y4,a5,l5,y5⟩ c.now c.ks v.k q.w (HR.k.below (HW.trans (q.b.mono HW.size))) (fun j y h1 h2=>HKH.out ⟨j,y,h1,h2⟩));go_wp2_with fail;refine ah an an ?_;repeat (go_big_quiet_step (first|(go_at_call 121;exact Calls.wide (HC0.out _))|fail))
    refine wpQuiet_nil ?_;rintro _ ⟨q1,rfl⟩;have HB2:=upB HW q1.b;obtain⟨Ck,Cr⟩:=dC;clear hne0 HW HB HC0 k0 k1 k2 k3 k4 k5 r0 r1 r2 r3 r4 r5 r6 r7 Gk Gr Bk Br;have HB:=HB2;clear HB2;have Bk:=Ck;clear Ck;have Br:=Cr;clear Cr;go_wp2;go_ret;exact al.f (fun h=>HKH.out (h.1 k v HXv.out).1) HB.out
   obtain⟨i2,kd2,g1,g2⟩:=hkh;have HG1:=aa g1;have HG2:=aa g2;have hi20:¬((i2:Int)<0):=af
   have hi21:decide ((i2:Int)<0)=false:=aT
   clear g1 g2;by_cases he:v.m=⟨#[]⟩
   ·have hq:=cH he;have HEm:=aa he;clear he;obtain⟨r,hre⟩:∃r:Int,e=.returned (.int .i64 r):=by rcases hf with ⟨j,y,_,_,h⟩|⟨_,h⟩ <;> exact⟨_,h⟩
    subst hre;clear hf;obtain⟨Gk,Gr,HW⟩:=aY;obtain⟨k0,k1,k2,k3,k4,k5⟩:=sl6 Gk;obtain⟨r0,r1,r2,r3,r4,r5,r6,r7⟩:=sl8 Gr;obtain⟨hne0,HC0⟩:=pG;go_wp2_with fail;refine ah an an ?_;repeat (go_big_quiet_step (first|(go_at_call 121;exact Calls.wide (HC0.out _))|fail))
    refine wpQuiet_nil ?_;rintro _ ⟨q1,rfl⟩;have HB2:=upB HW q1.b;obtain⟨Ck,Cr⟩:=dC;clear hne0 HW HB HC0 k0 k1 k2 k3 k4 k5 r0 r1 r2 r3 r4 r5 r6 r7 Gk Gr Bk Br;have HB:=HB2;clear HB2;have Bk:=Ck;clear Ck;have Br:=Cr;clear Cr;go_wp2_with fail;refine⟨⟨k+1,by omega,by go_num,fun j z hj hz=>?_,HB.out,Bk.out⟩,by simp[intOf];omega⟩;by_cases e:j=k
    ·subst e;rw[HXv.out] at hz;obtain rfl:=sx hz;exact⟨⟨i2,kd2,HG1.out,HG2.out⟩,.inl HEm.out⟩
    ·exact HQ.out j z af hz
   have hq:=aZ he;have HEm:=aa he;clear he;rcases hf with ⟨j4,y,h1,h2,rfl⟩|⟨hh,rfl⟩;rotate_left
   ·have HH:=aa hh;clear hh;obtain⟨Gk,Gr,HW⟩:=aY;obtain⟨k0,k1,k2,k3,k4,k5⟩:=sl6 Gk;obtain⟨r0,r1,r2,r3,r4,r5,r6,r7⟩:=sl8 Gr;obtain⟨hne0,HC0⟩:=pG;go_wp2_with fail;refine ah an an ?_;repeat (go_big_quiet_step (first|(go_at_call 121;exact Calls.wide (HC0.out _))|fail))
    refine wpQuiet_nil ?_;rintro _ ⟨q1,rfl⟩;have HB2:=upB HW q1.b;obtain⟨Ck,Cr⟩:=dC;clear hne0 HW HB HC0 k0 k1 k2 k3 k4 k5 r0 r1 r2 r3 r4 r5 r6 r7 Gk Gr Bk Br;have HB:=HB2;clear HB2;have Bk:=Ck;clear Ck;have Br:=Cr;clear Cr;go_wp2;go_ret;refine al.f (fun h=>?_) HB.out;rcases (h.1 k v HXv.out).2 with h2|⟨i,y,h2,h3,_⟩
    ·exact HEm.out h2
    ·exact HH.out i y h2 h3
   have hl4':j4<l4:=by have h3:=(sv.1 h1).1;omega
   obtain⟨b4,o4,y',rfl,hb4,hy',hat⟩:=cD HR.x hl4';rw[h1] at hy';obtain rfl:=sx hy';obtain⟨z0,z2,z4,c0,c1,c2,c3,c4⟩:=aU hat;have HJ:=aa h1;have HN:=aa h2;have hcv:=(ai HB.out hb4).trans c4;have hbv:=sG hb4 HB.size;have hj0:¬((j4:Int)<0):=af
   have hj1:decide ((j4:Int)<0)=false:=aT
   clear hy' hat z0 z2 z4 c0 c1 c2 c3 c4 h1 h2;by_cases hvn:y.v=v.n
   ·have hq2:=ba hvn;have HVN:=aa hvn;clear hvn;obtain⟨Gk,Gr,HW⟩:=aY;obtain⟨k0,k1,k2,k3,k4,k5⟩:=sl6 Gk;obtain⟨r0,r1,r2,r3,r4,r5,r6,r7⟩:=sl8 Gr;obtain⟨yw,hne0,HC0⟩:=pN;go_wp2_with fail;refine ah an an ?_;repeat (go_big_quiet_step (first|(go_at_call 121;exact Calls.wide (HC0.out _))|fail))
    refine wpQuiet_nil ?_;rintro _ ⟨q1,rfl⟩;have HB2:=upB HW q1.b;obtain⟨Ck,Cr⟩:=dC;clear hne0 HW HB HC0 k0 k1 k2 k3 k4 k5 r0 r1 r2 r3 r4 r5 r6 r7 yw Gk Gr Bk Br hcv hbv;have HB:=HB2;clear HB2;have Bk:=Ck;clear Ck;have Br:=Cr;clear Cr;go_wp2_with fail;refine⟨⟨k+1,by omega,by go_num,fun j z hj hz=>?_,HB.out,Bk.out⟩,by simp[intOf];omega⟩;by_cases e:j=k
    ·subst e;rw[HXv.out] at hz;obtain rfl:=sx hz;exact⟨⟨i2,kd2,HG1.out,HG2.out⟩,.inr ⟨j4,y,HJ.out,HN.out,HVN.out⟩⟩
    ·exact HQ.out j z af hz
   ·have hq2:=bz hvn;have HVN:=aa hvn;clear hvn;obtain⟨Gk,Gr,HW⟩:=aY;obtain⟨k0,k1,k2,k3,k4,k5⟩:=sl6 Gk;obtain⟨r0,r1,r2,r3,r4,r5,r6,r7⟩:=sl8 Gr;obtain⟨yw,hne0,HC0⟩:=pN;go_wp2_with fail;refine ah an an ?_;repeat (go_big_quiet_step (first|(go_at_call 121;exact Calls.wide (HC0.out _))|fail))
    refine wpQuiet_nil ?_;rintro _ ⟨q1,rfl⟩;have HB2:=upB HW q1.b;obtain⟨Ck,Cr⟩:=dC;clear hne0 HW HB HC0 k0 k1 k2 k3 k4 k5 r0 r1 r2 r3 r4 r5 r6 r7 yw Gk Gr Bk Br hcv hbv;have HB:=HB2;clear HB2;have Bk:=Ck;clear Ck;have Br:=Cr;clear Cr;go_wp2;go_ret;refine al.f (fun h=>?_) HB.out;rcases (h.1 k v HXv.out).2 with h2|⟨i,y2,h2,h3,h4⟩
    ·exact HEm.out h2
    ·obtain⟨_,rfl⟩:=HXS.inj h2 HJ.out (h3.trans HN.symm);exact HVN.out h4
  ·obtain rfl:l3=k:=af
   have HQ1:Hid (∀(j:Nat) z,c.vs[j]?=some z->SV c z):=fun j z hz=>HQ.out j z bI hz;clear HQ;have kc:=ck3 Bk;go_wp2;go_loopw [6] (fun i wr=> ∃k:Nat,k<=l4/\i=.int .i64 k/\Hid (∀(j:Nat) z,j<k->c.xs[j]?=some z->SX c z)/\Hid (Below w.heap.size w wr)/\Hid (wr.heap[w.heap.size]?=some (.cells (clo6 a1 l1 y1 a2 l2 y2 a3 l3 y3 a4 l4 y4 a5 l5 y5 c.now) 36 (0,0)))) (fun i _=>l4 - (intOf i).toNat);case atStart=>exact⟨0,by omega,rfl,fun _ _ h=>absurd h af,HB.out,Bk.out⟩
   case round=>
    obtain⟨k,hk,rfl,HQ,HB,Bk⟩:=hrel;have pk:=ck3 Bk;by_cases hlt:k<l4
    ·obtain⟨b,o,x,rfl,hb,hx,hat⟩:=cD (HR.x.below HB.out) hlt;obtain⟨z0,z2,z4,c0,c1,c2,c3,c4⟩:=aU hat;have HXx:=aa hx;have HZx0:=aa z0;have HZx2:=aa z2;have HZx4:=aa z4;clear hat hx z0 z2 z4;obtain⟨k0,k1,k2,k3,k4,k5⟩:=cs6 Bk;have ltk_0:=ae Bk.out;go_wp2_with fail;refine (fo ⟨a1,l1,y1,a2,l2,y2,a3,l3,y3,(some ⟨b,o,none⟩),l4,y4,a5,l5,y5⟩ c.now c.vs x.v _ (HR.v.below (HB.trans ((aj _ _).mono HB.size)))).mono ?_;rintro e w1 ⟨hb2,hf⟩;clear k0 k1 k2 k3 k4 k5 ltk_0;obtain⟨HA0,hbx⟩:=aJ hb2;replace Bk:=upK Bk hbx;have Br:=aa HA0;replace HB:=upB HB hbx;clear hb2 hbx HA0;clear pk hb c0 c1 c2 c3 c4;by_cases hkh:ph c x.k;rotate_left
     ·have HKH:=aa hkh;clear hkh;obtain⟨r,hre⟩:∃r:Int,e=.returned (.int .i64 r):=by rcases hf with ⟨j,y,_,_,h⟩|⟨_,h⟩ <;> exact⟨_,h⟩
      subst hre;clear hf;obtain⟨k0,k1,k2,k3,k4,k5⟩:=cs6 Bk;have ltk_1:=ae Bk.out;obtain⟨r0,r1,r2,r3,r4⟩:=cs5 Br;have ltr_1:=ae Br.out;go_wp2_with fail;refine (fV ⟨a1,l1,y1,a2,l2,y2,a3,l3,y3,(some ⟨b,o,none⟩),l4,y4,a5,l5,y5⟩ c.now c.ks x.k _ (HR.k.below HB.out) (fun j y h1 h2=>HKH.out ⟨j,y,h1,h2⟩)).mono ?_;rintro e w2 ⟨rfl,hb3⟩;clear k0 k1 k2 k3 k4 k5 ltk_1 r0 r1 r2 r3 r4 ltr_1;replace Bk:=upK Bk hb3;replace Br:=upK Br hb3;replace HB:=upB HB hb3;clear hb3;go_wp2;go_ret;exact al.f (fun h=>HKH.out (h.2 k x HXx.out).1) HB.out
     obtain⟨i2,kd2,g1,g2⟩:=hkh;have HG1:=aa g1;have HG2:=aa g2;have hi20:¬((i2:Int)<0):=af
     have hi21:decide ((i2:Int)<0)=false:=aT
     clear g1 g2;by_cases he:x.v=⟨#[]⟩
     ·have hq:=cH he;have HEm:=aa he;clear he;obtain⟨r,hre⟩:∃r:Int,e=.returned (.int .i64 r):=by rcases hf with ⟨j,y,_,_,h⟩|⟨_,h⟩ <;> exact⟨_,h⟩
      subst hre;clear hf;obtain⟨k0,k1,k2,k3,k4,k5⟩:=cs6 Bk;have ltk_1:=ae Bk.out;obtain⟨r0,r1,r2,r3,r4⟩:=cs5 Br;have ltr_1:=ae Br.out;go_wp2_with fail;refine (db ⟨a1,l1,y1,a2,l2,y2,a3,l3,y3,(some ⟨b,o,none⟩),l4,y4,a5,l5,y5⟩ c.now c.ks x.k _ (HR.k.below HB.out) HKS.out HG1.out HG2.out).mono ?_;rintro e w2 ⟨rfl,hb3⟩;clear k0 k1 k2 k3 k4 k5 ltk_1 r0 r1 r2 r3 r4 ltr_1;replace Bk:=upK Bk hb3;replace Br:=upK Br hb3;replace HB:=upB HB hb3;clear hb3;obtain⟨k0,k1,k2,k3,k4,k5⟩:=cs6 Bk;have ltk_2:=ae Bk.out;obtain⟨r0,r1,r2,r3,r4⟩:=cs5 Br;have ltr_2:=ae Br.out;go_wp2_with fail;refine⟨⟨k+1,by omega,by go_num,fun j z hj hz=>?_,HB.out,Bk.out⟩,by simp[intOf];omega⟩;by_cases e:j=k
      ·subst e;rw[HXx.out] at hz;obtain rfl:=sx hz;exact⟨⟨i2,kd2,HG1.out,HG2.out⟩,.inl HEm.out⟩
      ·exact HQ.out j z af hz
     have hq:=aZ he;have HEm:=aa he;clear he;rcases hf with ⟨j3,y,h1,h2,rfl⟩|⟨hh,rfl⟩;rotate_left
     ·have HH:=aa hh;clear hh;obtain⟨k0,k1,k2,k3,k4,k5⟩:=cs6 Bk;have ltk_1:=ae Bk.out;obtain⟨r0,r1,r2,r3,r4⟩:=cs5 Br;have ltr_1:=ae Br.out;go_wp2_with fail;refine (db ⟨a1,l1,y1,a2,l2,y2,a3,l3,y3,(some ⟨b,o,none⟩),l4,y4,a5,l5,y5⟩ c.now c.ks x.k _ (HR.k.below HB.out) HKS.out HG1.out HG2.out).mono ?_;rintro e w2 ⟨rfl,hb3⟩;clear k0 k1 k2 k3 k4 k5 ltk_1 r0 r1 r2 r3 r4 ltr_1;replace Bk:=upK Bk hb3;replace Br:=upK Br hb3;replace HB:=upB HB hb3;clear hb3;have pr:=ck4 Br;obtain⟨Gk,Gr,HW⟩:=aY;have k2:=fun q:Wd w2=>q.slot (o:=2) Gk.out rfl;obtain⟨r0,r1,r2,r3,r4⟩:=sl5 Gr;have hne0:=Wd.ne w2;go_wp2_with fail;refine ah an an ?_;repeat (go_big_quiet_step (first|fail))
      refine wpQuiet_nil ?_;rintro _ ⟨q1,rfl⟩;have HB3:=upB HW q1.b;obtain⟨Ck,Cr⟩:=dC;clear hne0 HW HB k2 r0 r1 r2 r3 r4 Gk Gr Bk Br pr;have HB:=HB3;clear HB3;have Bk:=Ck;clear Ck;have Br:=Cr;clear Cr;go_wp2;go_ret;refine al.f (fun h=>?_) HB.out;rcases (h.2 k x HXx.out).2 with h2|⟨i,y,h2,h3,_⟩
      ·exact HEm.out h2
      ·exact HH.out i y h2 h3
     have hl3':j3<l3:=by have h3:=(sv.1 h1).1;omega
     obtain⟨b3,o3,y',rfl,hb3,hy',hat⟩:=bk HR.v hl3';rw[h1] at hy';obtain rfl:=sx hy';obtain⟨va,vl,vc,hvr,z0,z2,z3,z5,c0,c1,c2,c3,c4,c5,c6,c7⟩:=aE hat;have HJ:=aa h1;have HN:=aa h2;have hj0:¬((j3:Int)<0):=af
     have hj1:decide ((j3:Int)<0)=false:=aT
     have HC1:=aa c1;have HC3:=aa c3;have HC4:=aa c4;have HC5:=aa c5;have HB3:=aa hb3;clear hy' hat hvr z0 z2 z3 z5 c0 c1 c2 c3 c4 c5 c6 c7 h1 h2 hb3;obtain⟨k0,k1,k2,k3,k4,k5⟩:=cs6 Bk;have ltk_1:=ae Bk.out;obtain⟨r0,r1,r2,r3,r4⟩:=cs5 Br;have ltr_1:=ae Br.out;go_wp2_with fail;refine (db ⟨a1,l1,y1,a2,l2,y2,(some ⟨b3,o3,none⟩),l3,y3,(some ⟨b,o,none⟩),l4,y4,a5,l5,y5⟩ c.now c.ks x.k _ (HR.k.below HB.out) HKS.out HG1.out HG2.out).mono ?_;rintro e w2 ⟨rfl,hb3⟩;clear k0 k1 k2 k3 k4 k5 ltk_1 r0 r1 r2 r3 r4 ltr_1;replace Bk:=upK Bk hb3;replace Br:=upK Br hb3;replace HB:=upB HB hb3;clear hb3;have pr:=ck4 Br;have hbv:=sG HB3.out HB.size;have v1:=(ai HB.out HB3.out).trans HC1.out;have v3:=(ai HB.out HB3.out).trans HC3.out;have v4:=(ai HB.out HB3.out).trans HC4.out;have v5:=(ai HB.out HB3.out).trans HC5.out;clear HC1 HC3 HC4 HC5 HB3;by_cases hno:y.m=x.n;rotate_left
     ·have HNo:=aa hno;clear hno;have n1:=bz HNo.out;obtain⟨Gk,Gr,HW⟩:=aY;have k2:=fun q:Wd w2=>q.slot (o:=2) Gk.out rfl;obtain⟨r0,r1,r2,r3,r4⟩:=sl5 Gr;obtain⟨v1w,v3w,v4w,v5w,hne0⟩:=iJ;go_wp2_with fail;refine ah an an ?_;repeat (go_big_quiet_step (first|fail))
      refine wpQuiet_nil ?_;rintro _ ⟨q1,rfl⟩;have HB3:=upB HW q1.b;obtain⟨Ck,Cr⟩:=dC;clear hne0 HW HB k2 r0 r1 r2 r3 r4 v1w v3w v4w v5w Gk Gr Bk Br pr v1 v3 v4 v5 hbv;have HB:=HB3;clear HB3;have Bk:=Ck;clear Ck;have Br:=Cr;clear Cr;go_wp2;go_ret;refine al.f (fun h=>?_) HB.out;rcases (h.2 k x HXx.out).2 with h2|⟨i,y2,h2,h3,h4⟩
      ·exact HEm.out h2
      ·obtain⟨_,rfl⟩:=HVS.inj h2 HJ.out (h3.trans HN.symm);exact HNo.out h4.1
     have HY1:=aa hno;have q1:=ba hno;clear hno;by_cases hno:x.z<=y.c;rotate_left
     ·have HNo:=aa hno;clear hno;have n1:y.c<x.z:=by have:=HNo.out;omega
      obtain⟨Gk,Gr,HW⟩:=aY;have k2:=fun q:Wd w2=>q.slot (o:=2) Gk.out rfl;obtain⟨r0,r1,r2,r3,r4⟩:=sl5 Gr;obtain⟨v1w,v3w,v4w,v5w,hne0⟩:=iJ;go_wp2_with fail;refine ah an an ?_;repeat (go_big_quiet_step (first|fail))
      refine wpQuiet_nil ?_;rintro _ ⟨q1,rfl⟩;have HB3:=upB HW q1.b;obtain⟨Ck,Cr⟩:=dC;clear hne0 HW HB k2 r0 r1 r2 r3 r4 v1w v3w v4w v5w Gk Gr Bk Br pr v1 v3 v4 v5 hbv;have HB:=HB3;clear HB3;have Bk:=Ck;clear Ck;have Br:=Cr;clear Cr;go_wp2;go_ret;refine al.f (fun h=>?_) HB.out;rcases (h.2 k x HXx.out).2 with h2|⟨i,y2,h2,h3,h4⟩
      ·exact HEm.out h2
      ·obtain⟨_,rfl⟩:=HVS.inj h2 HJ.out (h3.trans HN.symm);have h5:=h4.2.1;have h6:=HNo.out;omega
     have HY2:=aa hno;have q2:decide (y.c<x.z)=false:=by simp;omega
     clear hno;by_cases hno:y.k=x.k;rotate_left
     ·have HNo:=aa hno;clear hno;have n1:=bz HNo.out;obtain⟨Gk,Gr,HW⟩:=aY;have k2:=fun q:Wd w2=>q.slot (o:=2) Gk.out rfl;obtain⟨r0,r1,r2,r3,r4⟩:=sl5 Gr;obtain⟨v1w,v3w,v4w,v5w,hne0⟩:=iJ;go_wp2_with fail;refine ah an an ?_;repeat (go_big_quiet_step (first|fail))
      refine wpQuiet_nil ?_;rintro _ ⟨q1,rfl⟩;have HB3:=upB HW q1.b;obtain⟨Ck,Cr⟩:=dC;clear hne0 HW HB k2 r0 r1 r2 r3 r4 v1w v3w v4w v5w Gk Gr Bk Br pr v1 v3 v4 v5 hbv;have HB:=HB3;clear HB3;have Bk:=Ck;clear Ck;have Br:=Cr;clear Cr;go_wp2;go_ret;refine al.f (fun h=>?_) HB.out;rcases (h.2 k x HXx.out).2 with h2|⟨i,y2,h2,h3,h4⟩
      ·exact HEm.out h2
      ·obtain⟨_,rfl⟩:=HVS.inj h2 HJ.out (h3.trans HN.symm);exact HNo.out h4.2.2.1
     have HY3:=aa hno;have q3:=ba hno;clear hno;by_cases hno:y.x=x.x;rotate_left
     ·have HNo:=aa hno;clear hno;have n1:(y.x==x.x)=false:=by simpa using HNo.out
      obtain⟨Gk,Gr,HW⟩:=aY;have k2:=fun q:Wd w2=>q.slot (o:=2) Gk.out rfl;obtain⟨r0,r1,r2,r3,r4⟩:=sl5 Gr;obtain⟨v1w,v3w,v4w,v5w,hne0⟩:=iJ;go_wp2_with fail;refine ah an an ?_;repeat (go_big_quiet_step (first|fail))
      refine wpQuiet_nil ?_;rintro _ ⟨q1,rfl⟩;have HB3:=upB HW q1.b;obtain⟨Ck,Cr⟩:=dC;clear hne0 HW HB k2 r0 r1 r2 r3 r4 v1w v3w v4w v5w Gk Gr Bk Br pr v1 v3 v4 v5 hbv;have HB:=HB3;clear HB3;have Bk:=Ck;clear Ck;have Br:=Cr;clear Cr;go_wp2;go_ret;refine al.f (fun h=>?_) HB.out;rcases (h.2 k x HXx.out).2 with h2|⟨i,y2,h2,h3,h4⟩
      ·exact HEm.out h2
      ·obtain⟨_,rfl⟩:=HVS.inj h2 HJ.out (h3.trans HN.symm);exact HNo.out h4.2.2.2
     have HY4:=aa hno;have q4:(y.x==x.x)=true:=by simpa using hno
     clear hno;obtain⟨Gk,Gr,HW⟩:=aY;have k2:=fun q:Wd w2=>q.slot (o:=2) Gk.out rfl;obtain⟨r0,r1,r2,r3,r4⟩:=sl5 Gr;obtain⟨v1w,v3w,v4w,v5w,hne0⟩:=iJ;go_wp2_with fail;refine ah an an ?_;repeat (go_big_quiet_step (first|fail))
     refine wpQuiet_nil ?_;rintro _ ⟨qz,rfl⟩;have HB3:=upB HW qz.b;have Ck:=upK Gk qz.b;have Cr:=upK Gr qz.b;clear hne0 HW HB k2 r0 r1 r2 r3 r4 v1w v3w v4w v5w Gk Gr Bk Br pr v1 v3 v4 v5 hbv;have HB:=HB3;clear HB3;have Bk:=Ck;clear Ck;have Br:=Cr;clear Cr;clear q1 q2 q3 q4;go_wp2_with fail;refine⟨⟨k+1,by omega,by go_num,fun j z hj hz=>?_,HB.out,Bk.out⟩,by simp[intOf];omega⟩;by_cases e:j=k
     ·subst e;rw[HXx.out] at hz;obtain rfl:=sx hz;exact⟨⟨i2,kd2,HG1.out,HG2.out⟩,.inr ⟨j3,y,HJ.out,HN.out,HY1.out,HY2.out,HY3.out,HY4.out⟩⟩
     ·exact HQ.out j z af hz
    ·obtain rfl:l4=k:=af
     have HQ2:Hid (∀(j:Nat) z,c.xs[j]?=some z->SX c z):=fun j z hz=>HQ.out j z bI hz;exact kW

def PSa (c:Cl) (p:Pd):Prop:=p.d=⟨#[]⟩\/∃(i:Nat) (n:Nd),c.ns[i]?=some n/\n.n=p.d/\(p.z=⟨#[]⟩\/n.z=p.z)
def rj (c:Cl) (p:Pd) (t:ByteArray):Prop:=(∃(i:Nat) (x:Xd),c.xs[i]?=some x/\x.n=t)/\(p.d=⟨#[]⟩\/∃(v:Vd) (i:Nat) (n:Nd),bm c t v/\c.ns[i]?=some n/\n.n=p.d/\v.z=n.z)
def PSb (c:Cl) (p:Pd):Prop:=∀(j:Nat) t,p.zs[j]?=some t->rj c p t
def PSc (c:Cl) (k:Nat) (p:Pd):Prop:=∀(j:Nat) q,j<k->c.ps[j]?=some q->gu c q p
def PS (c:Cl) (k:Nat) (p:Pd):Prop:=PSa c p/\PSb c p/\PSc c k p
def gT (c:Cl):Prop:=(∀(k:Nat) p,c.ps[k]?=some p->PS c k p)/\∀(j:Nat) n,c.ns[j]?=some n->cpuOf n.n c.ps<=n.c

theorem ie (d:Ad) (c:Cl) (w:World) (hr:aL w d c.raw) (hn:aG Nd.n c.ns) (hx:aG Xd.n c.xs) (hv:aG Vd.n c.vs) (hne:∀(j:Nat) v,c.vs[j]?=some v->¬v.n=⟨#[]⟩) (hps8:c.ps.length<=8) (hpc:∀(j:Nat) p,c.ps[j]?=some p->0<=p.c/\p.c<=1000000):
  Calls Tryz.prog 102 #[.agg #[.slice d.a1 d.l1 d.c1,.slice d.a2 d.l2 d.c2,.slice d.a3 d.l3 d.c3,.slice d.a4 d.l4 d.c4,.slice d.a5 d.l5 d.c5,.int .i64 c.now]] w (al (gT c) w):=by
 obtain⟨a1,l1,y1,a2,l2,y2,a3,l3,y3,a4,l4,y4,a5,l5,y5⟩:=d;dsimp only;obtain⟨HR,hl1,hm1,hl3⟩:=mN;obtain⟨hl5,hm5⟩:=iI;clear hr;have HNR:=aa hn;obtain⟨HX,HV,HNE⟩:=eR;have HL5:=aa hps8;have HPC:=aa hpc;clear hn hx hv hne hps8 hpc;go_enter Tryz.func102,Tryz.ntmps102;go_wp2;go_loopw [3] (fun i wr=> ∃k:Nat,k<=l5/\i=.int .i64 k/\Hid (∀(j:Nat) z,j<k->c.ps[j]?=some z->PS c j z)/\Hid (Below w.heap.size w wr)/\Hid (wr.heap[w.heap.size]?=some (.cells (clo6 a1 l1 y1 a2 l2 y2 a3 l3 y3 a4 l4 y4 a5 l5 y5 c.now) 36 (0,0)))) (fun i _=>l5 - (intOf i).toNat);case atStart=>exact⟨0,by omega,rfl,fun _ _ h=>absurd h af,aj _ _,sH⟩
 case round=>
  obtain⟨k,hk,rfl,HQ,HB,Bk⟩:=hrel;have pk:=ck4 Bk;by_cases hlt:k<l5
  ·obtain⟨b,o,p,rfl,hb,hx,hat⟩:=bR (HR.p.below HB.out) hlt;obtain⟨va,vl,vc,hvr,z0,z2,z4,c0,c1,c2,c3,c4,c5⟩:=aO hat;have HXp:=aa hx;have HTp:=aa hvr;clear hat hx z0 z2 z4 hvr;have hvl:=HTp.1;have hvc:=sC HTp.2.1 HTp.2.2.1;have HVL:=aa hvl;clear hvl;obtain⟨k0,k1,k2,k3,k4,k5⟩:=cs6 Bk;have ltk_0:=ae Bk.out;go_wp2_with fail;refine (dW ⟨a1,l1,y1,a2,l2,y2,a3,l3,y3,a4,l4,y4,(some ⟨b,o,none⟩),l5,y5⟩ c.now c.ns p.d _ (HR.n.below (HB.trans ((aj _ _).mono HB.size)))).mono ?_;rintro e w1 ⟨hb2,hf⟩;clear k0 k1 k2 k3 k4 k5 ltk_0;obtain⟨HA0,hbx⟩:=aJ hb2;replace Bk:=upK Bk hbx;have Br:=aa HA0;replace HTp:=aa (HTp.below hbx);replace HB:=upB HB hbx;clear hb2 hbx HA0;clear pk hb c0 c1 c2 c3 c4 c5;by_cases he:p.d=⟨#[]⟩
   ·have hq:=cH he;have HEm:=aa he;clear he;obtain⟨r5,hre⟩:∃r:Int,e=.returned (.int .i64 r):=by rcases hf with ⟨j,y,_,_,h⟩|⟨_,h⟩ <;> exact⟨_,h⟩
    subst hre;clear hf;obtain⟨Gk,Gr,HW⟩:=aY;have k0:=fun q:Wd w1=>q.slot (o:=0) Gk.out rfl;obtain⟨r0,r1,r2,r3,r4,r5⟩:=sl6 Gr;have hne0:=Wd.ne w1;go_wp2_with fail;refine ah an an ?_;repeat (go_big_quiet_step (first|fail))
    refine wpQuiet_nil ?_;rintro _ ⟨q0,rfl⟩;obtain⟨HB2,Ck,Cr,CHTp⟩:=iE;clear hne0 HW HB k0 r0 r1 r2 r3 r4 r5 Gk Gr Bk Br HTp;have HB:=HB2;clear HB2;have HTp:=CHTp;clear CHTp;have Bk:=Ck;clear Ck;have Br:=Cr;clear Cr;have HPa:Hid (PSa c p):=.inl HEm.out;obtain⟨gb,hgb⟩:∃gb,gb=wr.heap.size:=⟨_,rfl⟩;rw[<-hgb] at Br;have pr3:=ck3 Br;rw[hgb] at pr3;go_wp2;rw[<-hgb];clear pr3 hgb;have KV:=Bk;have GV:=Br;have BV:=HB;have TV:=HTp;clear Bk Br HB HTp;obtain⟨W,hW⟩:∃W,W=q0.w:=⟨_,rfl⟩;rw[<-hW] at KV GV BV TV ⊢;clear hW;go_loopw [6] (fun i wr=> ∃kq:Nat,kq<=vl/\i=.int .i64 kq/\Hid (∀(j:Nat) t,j<kq->p.zs[j]?=some t->rj c p t)/\Hid (Below W.heap.size W wr)) (fun i _=>vl - (intOf i).toNat);case atStart=>exact⟨0,by omega,rfl,fun _ _ h=>absurd h af,sB _ _⟩
    case round=>
     obtain⟨kq,hkq,rfl,HQ2,HBW⟩:=hrel;obtain⟨HB,Bk⟩:=iD;have Br:=upK GV HBW.out;have pr3:=ck3 Br;by_cases hlt2:kq<vl
     ·obtain⟨b2,o2,t,rfl,hb,hxt,hc,hsz⟩:=(TV.below HBW.out).at hlt2;have HXt:=aa hxt;clear hxt hsz;have hcase:(∃v,bm c t v)\/(∀v,¬bm c t v):=by
       exact qm
      rcases hcase with ⟨v,hbd⟩|hbd
      ·obtain⟨j3,hj3⟩:=hbd.at;have hl3':j3<l3:=by have h1:=(sv.1 hj3).1;omega
       obtain⟨b3,o3,v',rfl,hb3,hv',hat⟩:=bk HR.v hl3';rw[hj3] at hv';obtain rfl:=sx hv';obtain⟨xa,xl,xc,hvr,z0,z2,z3,z5,d0,d1,d2,d3,d4,d5,d6,d7⟩:=aE hat;have HJ:=aa hj3;have HD:=aa hbd;have HC2:=aa d2;have HB3:=aa hb3;have hj31:decide ((j3:Int)<0)=false:=aT
       clear hv' hat hvr z0 z2 z3 z5 d0 d1 d2 d3 d4 d5 d6 d7 hj3 hbd hb3;obtain⟨Gk,Gr,HW⟩:=aY;obtain⟨k0,k1,k2,k3,k4,k5⟩:=sl6 Gk;have r3:=fun q:Wd wr=>q.slot (o:=3) Gr.out rfl;obtain⟨tw,hne0⟩:=eT;have HC0:=aa (fun q:Wd wr=>dt ⟨a1,l1,y1,a2,l2,y2,(some ⟨b3,o3,none⟩),l3,y3,a4,l4,y4,(some ⟨b,o,none⟩),l5,y5⟩ c t q.w (HR.below (HW.trans (q.b.mono HW.size))) HX.out HV.out HNE.out HJ.out HD.out);go_wp2_with fail;refine ah an an ?_;repeat (go_big_quiet_step (first|(go_at_call 81;exact Calls.wide (HC0.out _))|fail))
       refine wpQuiet_nil ?_;rintro _ ⟨q1,rfl⟩;obtain⟨HB1,Ck⟩:=cf;have Cr:=upK Gr q1.b;clear hne0 HW HB HC0 k0 k1 k2 k3 k4 k5 r3 tw Gk Gr Bk Br pr3;have HB:=HB1;clear HB1;have Bk:=Ck;clear Ck;have Br:=Cr;clear Cr;obtain⟨hc1,hb1,HBW1⟩:=kS;clear hc hb HBW;by_cases hg:∃(i:Nat) (x:Xd),c.xs[i]?=some x/\x.n=t;rotate_left
       ·have HG:=aa hg;clear hg;obtain⟨Gk,Gr,HW⟩:=aY;obtain⟨k0,k1,k2,k3,k4,k5⟩:=sl6 Gk;obtain⟨r0,r1,r2,r3,r4,r5⟩:=sl6 Gr;obtain⟨tw,hne0⟩:=fv;have HC0:=aa (fun q:Wd q1.w=>dp ⟨a1,l1,y1,a2,l2,y2,(some ⟨b3,o3,none⟩),l3,y3,a4,l4,y4,(some ⟨b,o,none⟩),l5,y5⟩ c.now c.xs t q.w (HR.x.below (HW.trans (q.b.mono HW.size))) (fun i x h1 h2=>HG.out ⟨i,x,h1,h2⟩));exact rv
       obtain⟨i4,x4,g1,g2⟩:=hg;obtain⟨HG1,HG2,hi41⟩:=kQ;clear g1 g2;obtain⟨Gk,Gr,HW⟩:=aY;obtain⟨k0,k1,k2,k3,k4,k5⟩:=sl6 Gk;obtain⟨r0,r1,r2,r3,r4,r5⟩:=sl6 Gr;obtain⟨tw,hne0⟩:=fv;have HC0:=aa (fun q:Wd q1.w=>dU ⟨a1,l1,y1,a2,l2,y2,(some ⟨b3,o3,none⟩),l3,y3,a4,l4,y4,(some ⟨b,o,none⟩),l5,y5⟩ c.now c.xs t q.w (HR.x.below (HW.trans (q.b.mono HW.size))) HX.out HG1.out HG2.out);exact nN
      ·have HD:=aa hbd;clear hbd;obtain⟨Gk,Gr,HW⟩:=aY;obtain⟨k0,k1,k2,k3,k4,k5⟩:=sl6 Gk;have r3:=fun q:Wd wr=>q.slot (o:=3) Gr.out rfl;obtain⟨tw,hne0⟩:=eT;have HC0:=aa (fun q:Wd wr=>dL ⟨a1,l1,y1,a2,l2,y2,a3,l3,y3,a4,l4,y4,(some ⟨b,o,none⟩),l5,y5⟩ c t q.w (HR.below (HW.trans (q.b.mono HW.size))) HX.out HV.out HNE.out HD.out);go_wp2_with fail;refine ah an an ?_;repeat (go_big_quiet_step (first|(go_at_call 81;exact Calls.wide (HC0.out _))|fail))
       refine wpQuiet_nil ?_;rintro _ ⟨q1,rfl⟩;obtain⟨HB1,Ck⟩:=cf;have Cr:=upK Gr q1.b;clear hne0 HW HB HC0 k0 k1 k2 k3 k4 k5 r3 tw Gk Gr Bk Br pr3;have HB:=HB1;clear HB1;have Bk:=Ck;clear Ck;have Br:=Cr;clear Cr;obtain⟨hc1,hb1,HBW1⟩:=kS;clear hc hb HBW;by_cases hg:∃(i:Nat) (x:Xd),c.xs[i]?=some x/\x.n=t;rotate_left
       ·have HG:=aa hg;clear hg;obtain⟨Gk,Gr,HW⟩:=aY;obtain⟨k0,k1,k2,k3,k4,k5⟩:=sl6 Gk;obtain⟨r0,r1,r2,r3,r4,r5⟩:=sl6 Gr;obtain⟨tw,hne0⟩:=fv;have HC0:=aa (fun q:Wd q1.w=>dp ⟨a1,l1,y1,a2,l2,y2,a3,l3,y3,a4,l4,y4,(some ⟨b,o,none⟩),l5,y5⟩ c.now c.xs t q.w (HR.x.below (HW.trans (q.b.mono HW.size))) (fun i x h1 h2=>HG.out ⟨i,x,h1,h2⟩));exact rv
       obtain⟨i4,x4,g1,g2⟩:=hg;obtain⟨HG1,HG2,hi41⟩:=kQ;clear g1 g2;obtain⟨Gk,Gr,HW⟩:=aY;obtain⟨k0,k1,k2,k3,k4,k5⟩:=sl6 Gk;obtain⟨r0,r1,r2,r3,r4,r5⟩:=sl6 Gr;obtain⟨tw,hne0⟩:=fv;have HC0:=aa (fun q:Wd q1.w=>dU ⟨a1,l1,y1,a2,l2,y2,a3,l3,y3,a4,l4,y4,(some ⟨b,o,none⟩),l5,y5⟩ c.now c.xs t q.w (HR.x.below (HW.trans (q.b.mono HW.size))) HX.out HG1.out HG2.out);exact nN
     ·obtain rfl:vl=kq:=af
      have HQb:Hid (PSb c p):=fun j t ht=>HQ2.out j t po ht;clear HQ2;have TV2:=aa (TV.below HBW.out);have KV2:=Bk;have GV2:=Br;have BV2:=HB;clear KV GV BV TV Bk Br HB HBW;obtain⟨W2,hW⟩:∃W2,W2=wr:=⟨_,rfl⟩;rw[<-hW] at KV2 GV2 BV2 TV2;go_wp2;clear pr3;rw[<-hW];clear hW;go_loopw [8] (fun i wr=> ∃kz:Nat,kz<=k/\i=.int .i64 kz/\Hid (∀(j:Nat) q,j<kz->c.ps[j]?=some q->gu c q p)/\Hid (Below W2.heap.size W2 wr)) (fun i _=>k - (intOf i).toNat);case atStart=>exact⟨0,by omega,rfl,fun _ _ h=>absurd h af,sB _ _⟩
      case round=>
       obtain⟨kz,hkz,rfl,HQ3,HBW⟩:=hrel;have HB:=aa (BV2.trans (HBW.mono BV2.size));have Bk:=upK KV2 HBW.out;have Br:=upK GV2 HBW.out;have HTp:=aa (TV2.below HBW.out);by_cases hlt3:kz<k
       ·obtain⟨b',o',pq,e',hb',hqq,hatq⟩:=bR (HR.p.below HB.out) (show kz<l5 by omega);cases e';obtain⟨qa,ql,qc,hqr,z0,z2,z4,d0,d1,d2,d3,d4,d5⟩:=aO hatq;have HXq:=aa hqq;have HTq:=aa hqr;clear hatq hqq hqr z0 z2 z4;by_cases hpr:gu c pq p
        ·have HPr:=aa hpr;clear hpr;obtain⟨Gk,Gr,HW⟩:=aY;obtain⟨k0,k1,k2,k3,k4,k5⟩:=sl6 Gk;obtain⟨r0,r1,r2,r3,r4,r5⟩:=sl6 Gr;obtain⟨q0,q1,q2,q3,q4,q5,hne0⟩:=o6;have HC0:=aa (fun qw:Wd wr=>(dq ⟨a1,l1,y1,a2,l2,y2,a3,l3,y3,a4,l4,y4,(some ⟨b,o,none⟩),l5,y5⟩ c pq p qa ql qc va vl vc qw.w (HR.below (HW.trans (qw.b.mono HW.size))) HX.out HV.out HNE.out (HTq.below qw.b) (HTp.below qw.b)).mono (fun _ _ h=>al.yes h HPr.out));exact nO
        ·have HPr:=aa hpr;clear hpr;obtain⟨Gk,Gr,HW⟩:=aY;obtain⟨k0,k1,k2,k3,k4,k5⟩:=sl6 Gk;obtain⟨r0,r1,r2,r3,r4,r5⟩:=sl6 Gr;obtain⟨q0,q1,q2,q3,q4,q5,hne0⟩:=o6;have HC0:=aa (fun qw:Wd wr=>(dq ⟨a1,l1,y1,a2,l2,y2,a3,l3,y3,a4,l4,y4,(some ⟨b,o,none⟩),l5,y5⟩ c pq p qa ql qc va vl vc qw.w (HR.below (HW.trans (qw.b.mono HW.size))) HX.out HV.out HNE.out (HTq.below qw.b) (HTp.below qw.b)).mono (fun _ _ h=>al.no h HPr.out));exact nM
       ·exact nL
   have hq:=aZ he;have HEm:=aa he;clear he;rcases hf with ⟨j1,n,h1,h2,rfl⟩|⟨hh,rfl⟩;rotate_left
   ·have HH:=aa hh;clear hh;obtain⟨Gk,Gr,HW⟩:=aY;have k0:=fun q:Wd w1=>q.slot (o:=0) Gk.out rfl;obtain⟨r0,r1,r2,r3,r4,r5⟩:=sl6 Gr;have hne0:=Wd.ne w1;go_wp2_with fail;refine ah an an ?_;repeat (go_big_quiet_step (first|fail))
    refine wpQuiet_nil ?_;rintro _ ⟨q0,rfl⟩;obtain⟨HB2,Ck,Cr,CHTp⟩:=iE;clear hne0 HW HB k0 r0 r1 r2 r3 r4 r5 Gk Gr Bk Br HTp;have HB:=HB2;clear HB2;have HTp:=CHTp;clear CHTp;have Bk:=Ck;clear Ck;have Br:=Cr;clear Cr;go_wp2;go_ret;refine al.f (fun h=>?_) HB.out;rcases (h.1 k p HXp.out).1 with h2|⟨i,n,h2,h3,_⟩
    ·exact HEm.out h2
    ·exact HH.out i n h2 h3
   have hl1':j1<l1:=by have h3:=(sv.1 h1).1;omega
   obtain⟨b1,o1,n',rfl,hb1n,hn',hat⟩:=bq HR.n hl1';rw[h1] at hn';obtain rfl:=sx hn';obtain⟨na,nl,nc,hnr,z0,z1,d0,d1,d2,d3,d4,d5,d6⟩:=aK hat;have HJn:=aa h1;have HNn:=aa h2;have HCn:=aa d1;have HBn:=aa hb1n;have hj11:decide ((j1:Int)<0)=false:=aT
   have hbn:=sG hb1n HB.size;have n1:=(ai HB.out hb1n).trans d1;clear hn' hat hnr z0 z1 d0 d1 d2 d3 d4 d5 d6 h1 h2 hb1n;by_cases hz0:p.z=⟨#[]⟩
   ·have hq2:=cH hz0;have HPa:Hid (PSa c p):=.inr ⟨j1,n,HJn.out,HNn.out,.inl hz0⟩;clear hz0;obtain⟨Gk,Gr,HW⟩:=aY;have k0:=fun q:Wd w1=>q.slot (o:=0) Gk.out rfl;obtain⟨r0,r1,r2,r3,r4,r5⟩:=sl6 Gr;have nw:=fun q:Wd w1=>(q.cell hbn).trans n1;have hne0:=Wd.ne w1;go_wp2_with fail;refine ah an an ?_;repeat (go_big_quiet_step (first|fail))
    refine wpQuiet_nil ?_;rintro _ ⟨q0,rfl⟩;obtain⟨HB2,Ck,Cr,CHTp⟩:=iE;clear hne0 HW HB k0 r0 r1 r2 r3 r4 r5 nw Gk Gr Bk Br HTp hbn n1;have HB:=HB2;clear HB2;have HTp:=CHTp;clear CHTp;have Bk:=Ck;clear Ck;have Br:=Cr;clear Cr;clear hq2;exact nP
   have hq2:=aZ hz0;by_cases hz1:n.z=p.z
   ·have hq3:=ba hz1;have HPa:Hid (PSa c p):=.inr ⟨j1,n,HJn.out,HNn.out,.inr hz1⟩;clear hz0 hz1;obtain⟨Gk,Gr,HW⟩:=aY;have k0:=fun q:Wd w1=>q.slot (o:=0) Gk.out rfl;obtain⟨r0,r1,r2,r3,r4,r5⟩:=sl6 Gr;have nw:=fun q:Wd w1=>(q.cell hbn).trans n1;have hne0:=Wd.ne w1;go_wp2_with fail;refine ah an an ?_;repeat (go_big_quiet_step (first|fail))
    refine wpQuiet_nil ?_;rintro _ ⟨q0,rfl⟩;obtain⟨HB2,Ck,Cr,CHTp⟩:=iE;clear hne0 HW HB k0 r0 r1 r2 r3 r4 r5 nw Gk Gr Bk Br HTp hbn n1;have HB:=HB2;clear HB2;have HTp:=CHTp;clear CHTp;have Bk:=Ck;clear Ck;have Br:=Cr;clear Cr;clear hq2 hq3;exact nP
   ·have hq3:=bz hz1;have HZ0:=aa hz0;have HZ1:=aa hz1;clear hz0 hz1;obtain⟨Gk,Gr,HW⟩:=aY;have k0:=fun q:Wd w1=>q.slot (o:=0) Gk.out rfl;obtain⟨r0,r1,r2,r3,r4,r5⟩:=sl6 Gr;have nw:=fun q:Wd w1=>(q.cell hbn).trans n1;have hne0:=Wd.ne w1;go_wp2_with fail;refine ah an an ?_;repeat (go_big_quiet_step (first|fail))
    refine wpQuiet_nil ?_;rintro _ ⟨q0,rfl⟩;obtain⟨HB2,Ck,Cr,CHTp⟩:=iE;clear hne0 HW HB k0 r0 r1 r2 r3 r4 r5 nw Gk Gr Bk Br HTp hbn n1;have HB:=HB2;clear HB2;have HTp:=CHTp;clear CHTp;have Bk:=Ck;clear Ck;have Br:=Cr;clear Cr;go_wp2;go_ret;refine al.f (fun h=>?_) HB.out;rcases (h.1 k p HXp.out).1 with h2|⟨i,n',h2,h3,h4⟩
    ·exact HEm.out h2
    ·obtain⟨_,rfl⟩:=HNR.inj h2 HJn.out (h3.trans HNn.symm);rcases h4 with h4|h4
     ·exact HZ0.out h4
     ·exact HZ1.out h4
  ·obtain rfl:l5=k:=af
   have HQ1:Hid (∀(k:Nat) p,c.ps[k]?=some p->PS c k p):=fun j z hz=>HQ.out j z bI hz;clear HQ;go_wp2;clear pk;go_loopw [9] (fun i wr=> ∃k:Nat,k<=l1/\i=.int .i64 k/\Hid (∀(j:Nat) n,j<k->c.ns[j]?=some n->cpuOf n.n c.ps<=n.c)/\Hid (Below w.heap.size w wr)/\Hid (wr.heap[w.heap.size]?=some (.cells (clo6 a1 l1 y1 a2 l2 y2 a3 l3 y3 a4 l4 y4 a5 l5 y5 c.now) 36 (0,0)))) (fun i _=>l1 - (intOf i).toNat);case atStart=>exact⟨0,by omega,rfl,fun _ _ h=>absurd h af,HB.out,Bk.out⟩
   case round=>
    obtain⟨k,hk,rfl,HQ,HB,Bk⟩:=hrel;have pk:=ck0 Bk;by_cases hlt:k<l1
    ·obtain⟨b,o,n,rfl,hb,hx,hat⟩:=bq (HR.n.below HB.out) hlt;obtain⟨va,vl,vc,hvr,z0,z1,c0,c1,c2,c3,c4,c5,c6⟩:=aK hat;have HXn:=aa hx;clear hat hx z0 z1 hvr;have Gk:=Bk;have HW:=HB;obtain⟨k0,k1,k2,k3,k4,k5⟩:=sl6 Gk;have n0w:=fun q:Wd wr=>(q.cell hb).trans c0;have n2w:=fun q:Wd wr=>(q.cell hb).trans c2;have hne0:=Wd.ne wr;have HC0:=aa (fun q:Wd wr=>lM ⟨(some ⟨b,o,none⟩),l1,y1,a2,l2,y2,a3,l3,y3,a4,l4,y4,a5,l5,y5⟩ c.now c.ps n.n q.w (HR.p.below (HW.trans (q.b.mono HW.size))) HL5.out HPC.out);go_wp2_with fail;refine ah an an ?_;repeat (go_big_quiet_step (first|(go_at_call 123;exact Calls.wide (HC0.out _))|fail))
     refine wpQuiet_nil ?_;rintro _ ⟨q1,rfl⟩;obtain⟨HB1,Ck⟩:=cf;clear hne0 HW HB HC0 k0 k1 k2 k3 k4 k5 n0w n2w Gk Bk pk c0 c1 c2 c3 c4 c5 c6 hb;have HB:=HB1;clear HB1;have Bk:=Ck;clear Ck;by_cases hq:cpuOf n.n c.ps<=n.c
     ·exact qt
     ·have HCq:=aa hq;go_wp2;go_ret;exact al.f (fun h=>by have h1:cpuOf n.n c.ps<=n.c:=h.2 k n HXn.out;have h2:=HCq.out;omega) HB.out
    ·exact p_

def mj (c:Cl):Prop:=(∀(j:Nat) z,c.vs[j]?=some z->AQ1 c z)/\∀(j:Nat) n,c.ns[j]?=some n->onOf n.n c.vs<=n.s

theorem fR (d:Ad) (c:Cl) (w:World) (hr:aL w d c.raw) (hn:aG Nd.n c.ns) (hvs8:c.vs.length<=8):
  Calls Tryz.prog 103 #[.agg #[.slice d.a1 d.l1 d.c1,.slice d.a2 d.l2 d.c2,.slice d.a3 d.l3 d.c3,.slice d.a4 d.l4 d.c4,.slice d.a5 d.l5 d.c5,.int .i64 c.now]] w (al (mj c) w):=by
 obtain⟨a1,l1,y1,a2,l2,y2,a3,l3,y3,a4,l4,y4,a5,l5,y5⟩:=d;dsimp only;obtain⟨HR,hl1,hm1,hl3⟩:=mN;have hm3:l3<=9223372036854775807:=sC hr.v.2.1 hr.v.2.2.1;clear hr;have HNR:=aa hn;have HL3:=aa hvs8;clear hn hvs8;go_enter Tryz.func103,Tryz.ntmps103;go_wp2;go_loopw [3] (fun i wr=> ∃k:Nat,k<=l3/\i=.int .i64 k/\Hid (∀(j:Nat) z,j<k->c.vs[j]?=some z->AQ1 c z)/\Hid (Below w.heap.size w wr)/\Hid (wr.heap[w.heap.size]?=some (.cells (clo6 a1 l1 y1 a2 l2 y2 a3 l3 y3 a4 l4 y4 a5 l5 y5 c.now) 36 (0,0)))) (fun i _=>l3 - (intOf i).toNat);case atStart=>exact⟨0,by omega,rfl,fun _ _ h=>absurd h af,aj _ _,sH⟩
 case round=>
  obtain⟨k,hk,rfl,HQ,HB,Bk⟩:=hrel;have pk:=ck2 Bk;by_cases hlt:k<l3
  ·obtain⟨b,o,v,rfl,hb,hx,hat⟩:=bk (HR.v.below HB.out) hlt;obtain⟨va,vl,vc,hvr,z0,z2,z3,z5,c0,c1,c2,c3,c4,c5,c6,c7⟩:=aE hat;have HXv:=aa hx;have HTv:=aa hvr;clear hat hx z0 z2 z3 z5 hvr;have hvl:=HTv.1;have hvc:=sC HTv.2.1 HTv.2.2.1;have HVL:=aa hvl;clear hvl;have KV:Hid ((wr.alloc (.cells (vov v va vl vc) 101)).heap[w.heap.size]?=some (.cells (clo6 a1 l1 y1 a2 l2 y2 (some ⟨b,o,none⟩) l3 y3 a4 l4 y4 a5 l5 y5 c.now) 36 (0,0))):=(sR wr (.cells (vov v va vl vc) 101) _ (ae Bk.out)).trans Bk.out;obtain⟨GV,BV⟩:=pH;have TT:=aa (HTv.below (aj wr (.cells (vov v va vl vc) 101)));obtain⟨W,hW⟩:∃W,W=wr.alloc (.cells (vov v va vl vc) 101):=⟨_,rfl⟩;obtain⟨gb,hgb⟩:∃gb,gb=wr.heap.size:=⟨_,rfl⟩;rw[<-hW] at KV GV BV TT;rw[<-hgb] at GV;go_wp2;rw[<-hW,<-hgb];clear hW hgb HB Bk HTv c0 c1 c2 c3 c4 c5 c6 c7 hb pk;go_loopw [5] (fun i wr=> ∃kq:Nat,kq<=vl/\i=.int .i64 kq/\Hid (∀(j:Nat) t,j<kq->v.zs[j]?=some t->∃(i:Nat) (n:Nd),c.ns[i]?=some n/\n.n=t/\n.z=v.z)/\Hid (Below W.heap.size W wr)) (fun i _=>vl - (intOf i).toNat);case atStart=>exact⟨0,by omega,rfl,fun _ _ h=>absurd h af,sB _ _⟩
   case round=>
    obtain⟨kq,hkq,rfl,HQ2,HBW⟩:=hrel;obtain⟨HB,Bk⟩:=iD;have Bv:=upK GV HBW.out;have pv:=ck7 Bv;by_cases hlt2:kq<vl
    ·obtain⟨b2,o2,t,rfl,hb,hx,hc,hsz⟩:=(TT.below HBW.out).at hlt2;have HXt:=aa hx;clear hx hsz;by_cases hnn:∃(i:Nat) (n:Nd),c.ns[i]?=some n/\n.n=t;rotate_left
     ·have HH:=aa hnn;clear hnn;obtain⟨Gk,Gv,HW,k0,k1,k2,k3,k4,k5⟩:=pM;have v7:=fun q:Wd wr=>q.slot (o:=7) Gv.out rfl;obtain⟨tw,hne0⟩:=eT;have HC0:=aa (fun q:Wd wr=>lK ⟨a1,l1,y1,a2,l2,y2,(some ⟨b,o,none⟩),l3,y3,a4,l4,y4,a5,l5,y5⟩ c.now c.ns t q.w (HR.n.below (HW.trans (q.b.mono HW.size))) (fun i n h1 h2=>HH.out ⟨i,n,h1,h2⟩));go_wp2_with fail;refine ah an an ?_;repeat (go_big_quiet_step (first|(go_at_call 51;exact Calls.wide (HC0.out _))|fail))
      refine wpQuiet_nil ?_;rintro _ ⟨q1,rfl⟩;obtain⟨HB1,Ck⟩:=cf;have Cv:=upK Gv q1.b;clear hne0 HW HB HC0 k0 k1 k2 k3 k4 k5 v7 tw Gk Gv Bk Bv pv;have HB:=HB1;clear HB1;have Bk:=Ck;clear Ck;have Bv:=Cv;clear Cv;obtain⟨Gk,Gv,HW,k0,v2,v7⟩:=mS;have hne0:=Wd.ne q1.w;go_wp2_with fail;refine ah an an ?_;repeat (go_big_quiet_step (first|fail))
      refine wpQuiet_nil ?_;rintro _ ⟨q2,rfl⟩;obtain⟨HB2,Ck⟩:=cd;have Cv:=upK Gv q2.b;clear hne0 HW HB k0 v2 v7 Gk Gv Bk Bv;have HB:=HB2;clear HB2;have Bk:=Ck;clear Ck;have Bv:=Cv;clear Cv;go_wp2;go_ret;refine al.f (fun h=>?_) HB.out;obtain⟨i,n,h2,h3,_⟩:=(h.1 k v HXv.out) kq t HXt.out;exact HH.out ⟨i,n,h2,h3⟩
     obtain⟨j1,n,h1,h2⟩:=hnn;have hl1':j1<l1:=by have h3:=(sv.1 h1).1;omega
     obtain⟨b1,o1,n',rfl,hb1n,hn',hat⟩:=bq HR.n hl1';rw[h1] at hn';obtain rfl:=sx hn';obtain⟨na,nl,nc,hnr,z0,z1,d0,d1,d2,d3,d4,d5,d6⟩:=aK hat;have HJn:=aa h1;have HNn:=aa h2;have HCn:=aa d1;have HBn:=aa hb1n;have hj11:decide ((j1:Int)<0)=false:=aT
     clear hn' hat hnr z0 z1 d0 d1 d2 d3 d4 d5 d6 h1 h2 hb1n;have Gk:=Bk;have Gv:=Bv;have HW:=HB;obtain⟨k0,k1,k2,k3,k4,k5⟩:=sl6 Gk;have v7:=fun q:Wd wr=>q.slot (o:=7) Gv.out rfl;obtain⟨tw,hne0⟩:=eT;have HC0:=aa (fun q:Wd wr=>fp ⟨(some ⟨b1,o1,none⟩),l1,y1,a2,l2,y2,(some ⟨b,o,none⟩),l3,y3,a4,l4,y4,a5,l5,y5⟩ c.now c.ns t q.w (HR.n.below (HW.trans (q.b.mono HW.size))) HNR.out HJn.out HNn.out);go_wp2_with fail;refine ah an an ?_;repeat (go_big_quiet_step (first|(go_at_call 51;exact Calls.wide (HC0.out _))|fail))
     refine wpQuiet_nil ?_;rintro _ ⟨q1,rfl⟩;obtain⟨HB1,Ck⟩:=cf;have Cv:=upK Gv q1.b;clear hne0 HW HB HC0 k0 k1 k2 k3 k4 k5 v7 tw Gk Gv Bk Bv pv hb hc;have HB:=HB1;clear HB1;have Bk:=Ck;clear Ck;have Bv:=Cv;clear Cv;have HBW1:=upB HBW q1.b;have hbn:=sG HBn.out HB.size;have n1:=(ai HB.out HBn.out).trans HCn.out;clear HBW;by_cases hz:n.z=v.z
     ·have q8:=ba hz;have HZ:=aa hz;clear hz;obtain⟨Gk,Gv,HW,k0,v2,v7⟩:=mS;have nw:=fun q:Wd q1.w=>(q.cell hbn).trans n1;have hne0:=Wd.ne q1.w;go_wp2_with fail;refine ah an an ?_;repeat (go_big_quiet_step (first|fail))
      refine wpQuiet_nil ?_;rintro _ ⟨q2,rfl⟩;obtain⟨HB2,Ck⟩:=cd;have Cv:=upK Gv q2.b;clear hne0 HW HB k0 v2 v7 nw Gk Gv Bk Bv hbn n1;have HB:=HB2;clear HB2;have Bk:=Ck;clear Ck;have Bv:=Cv;clear Cv;clear q8;go_wp2_with fail;refine⟨⟨kq+1,by omega,by go_num,fun j s hj hs=>?_,HBW1.trans (q2.b.mono HBW1.size)⟩,by simp[intOf];omega⟩;by_cases e:j=kq
      ·subst e;rw[HXt.out] at hs;obtain rfl:=sx hs;exact⟨j1,n,HJn.out,HNn.out,HZ.out⟩
      ·exact HQ2.out j s af hs
     ·have q8:=bz hz;have HZ:=aa hz;clear hz;obtain⟨Gk,Gv,HW,k0,v2,v7⟩:=mS;have nw:=fun q:Wd q1.w=>(q.cell hbn).trans n1;have hne0:=Wd.ne q1.w;go_wp2_with fail;refine ah an an ?_;repeat (go_big_quiet_step (first|fail))
      refine wpQuiet_nil ?_;rintro _ ⟨q2,rfl⟩;obtain⟨HB2,Ck⟩:=cd;have Cv:=upK Gv q2.b;clear hne0 HW HB k0 v2 v7 nw Gk Gv Bk Bv hbn n1;have HB:=HB2;clear HB2;have Bk:=Ck;clear Ck;have Bv:=Cv;clear Cv;go_wp2;go_ret;refine al.f (fun h=>?_) HB.out;obtain⟨i,m2,e1,e2,e3⟩:=(h.1 k v HXv.out) kq t HXt.out;obtain⟨_,rfl⟩:=HNR.inj e1 HJn.out (e2.trans HNn.symm);exact HZ.out e3
    ·exact qD
  ·obtain rfl:l3=k:=af
   have HQ1:Hid (∀(j:Nat) z,c.vs[j]?=some z->AQ1 c z):=fun j z hz=>HQ.out j z bI hz;clear HQ;go_wp2;clear pk;go_loopw [7] (fun i wr=> ∃k:Nat,k<=l1/\i=.int .i64 k/\Hid (∀(j:Nat) n,j<k->c.ns[j]?=some n->onOf n.n c.vs<=n.s)/\Hid (Below w.heap.size w wr)/\Hid (wr.heap[w.heap.size]?=some (.cells (clo6 a1 l1 y1 a2 l2 y2 a3 l3 y3 a4 l4 y4 a5 l5 y5 c.now) 36 (0,0)))) (fun i _=>l1 - (intOf i).toNat);case atStart=>exact⟨0,by omega,rfl,fun _ _ h=>absurd h af,HB.out,Bk.out⟩
   case round=>
    obtain⟨k,hk,rfl,HQ,HB,Bk⟩:=hrel;have pk:=ck0 Bk;by_cases hlt:k<l1
    ·obtain⟨b,o,n,rfl,hb,hx,hat⟩:=bq (HR.n.below HB.out) hlt;obtain⟨va,vl,vc,hvr,z0,z1,c0,c1,c2,c3,c4,c5,c6⟩:=aK hat;have HXn:=aa hx;clear hat hx z0 z1 hvr;have Gk:=Bk;have HW:=HB;obtain⟨k0,k1,k2,k3,k4,k5⟩:=sl6 Gk;have n0w:=fun q:Wd wr=>(q.cell hb).trans c0;have n2w:=fun q:Wd wr=>(q.cell hb).trans c3;have hne0:=Wd.ne wr;have HC0:=aa (fun q:Wd wr=>oW ⟨(some ⟨b,o,none⟩),l1,y1,a2,l2,y2,a3,l3,y3,a4,l4,y4,a5,l5,y5⟩ c.now c.vs n.n q.w (HR.v.below (HW.trans (q.b.mono HW.size))) HL3.out);go_wp2_with fail;refine ah an an ?_;repeat (go_big_quiet_step (first|(go_at_call 124;exact Calls.wide (HC0.out _))|fail))
     refine wpQuiet_nil ?_;rintro _ ⟨q1,rfl⟩;obtain⟨HB1,Ck⟩:=cf;clear hne0 HW HB HC0 k0 k1 k2 k3 k4 k5 n0w n2w Gk Bk pk c0 c1 c2 c3 c4 c5 c6 hb;have HB:=HB1;clear HB1;have Bk:=Ck;clear Ck;by_cases hq:onOf n.n c.vs<=n.s
     ·exact qt
     ·have HCq:=aa hq;go_wp2;go_ret;exact al.f (fun h=>by have h1:onOf n.n c.vs<=n.s:=h.2 k n HXn.out;have h2:=HCq.out;omega) HB.out
    ·exact p_

end Rc
end Go.Proofs.YtdfgbboadbnodaaGreatDoor

namespace Go.Proofs.YtdfgbboadbnodaaGreatDoor
open Go.RowKit

theorem rF {p:Prop} (h:p:=by refine Obl.plain rfl ?_;intro ac wg K hsz hW hf hK;clear hsz;simp[looksOf,Op.operands,slotFact,sM] at hf;go_simp;refine hK _ _ (sB _ _) ?_;first|with_reducible rfl|(simp;done)|rfl):p:=h
theorem Grow.fX {P:Program} {ops:Array Oper} {Q:Exit->Act->World->Prop} {W:World} {a0:Act} {back:Option Oper} {o:Oper} {rest:List Oper} {known:List (Tmp×Fact)} {t:Tmp} {c:Value} (h:Grow P ops Q W a0 back rest ((t,fun v _=>v=c) ::known)) (hd:o.dst=some t:=by rfl) (ho:Obl P ops Q W a0 known o (fun v _=>v=c):=by exact rF):Grow P ops Q W a0 back (o ::rest) known:=Grow.aV c hd ho h

theorem rE {p:Prop} (h:p:=by intro hB;refine Obl.plain rfl ?_;intro ac wg K hsz hW hf hK;clear hsz;have gd:=(hW.block _ (ae hB)).trans hB;clear hB;simp[looksOf,Op.operands,slotFact,sM] at hf;(first|(obtain⟨k0,k1,k2,k3,k4,k5⟩:=cs6 gd)|(obtain⟨k0,k1,k2,k3,k4,k5,k6,k7⟩:=cs8 gd)|(obtain⟨k0,k1,k2,k3,k4,k5,k6⟩:=cs7 gd)|(obtain⟨k0,k1,k2,k3,k4,k5,k6,k7,k8⟩:=cs9 gd)|(obtain⟨k0,k1⟩:=cs2 gd)|(obtain⟨k0,k1,k2,k3⟩:=cs4 gd)|(obtain⟨k0,k1,k2,k3,k4⟩:=cs5 gd));clear gd;go_simp;refine hK _ _ (sB _ _) ?_;first|with_reducible rfl|(simp;done)|rfl):p:=h
theorem Grow.fW {P:Program} {ops:Array Oper} {Q:Exit->Act->World->Prop} {W:World} {a0:Act} {back:Option Oper} {o:Oper} {rest:List Oper} {known:List (Tmp×Fact)} {t:Tmp} {c:Value} {b:Nat} {cs:Array Value} {T:TypeId} {f:Nat×Nat} (hB:W.heap[b]?=some (.cells cs T f)) (h:Grow P ops Q W a0 back rest ((t,fun v _=>v=c) ::known)) (hd:o.dst=some t:=by rfl) (ho:W.heap[b]?=some (.cells cs T f)->Obl P ops Q W a0 known o (fun v _=>v=c):=by exact rE):Grow P ops Q W a0 back (o ::rest) known:=Grow.aV c hd (ho hB) h

end Go.Proofs.YtdfgbboadbnodaaGreatDoor

namespace Go.Proofs.YtdfgbboadbnodaaGreatDoor
open Go.RowKit
namespace Rc
open Mk

def gV (W:World):Fact:=fun v w=> ∃g,v=.pointer (some ⟨g,0,none⟩)/\W.heap.size<=g/\w.heap[g]?=some (.cells #[.string ⟨#[]⟩,.string ⟨#[]⟩,.int .i64 0,.int .i64 0,.int .i64 0,.bool false,.slice none 0 0] 56 (0,0))
theorem gV.mono (W:World):Fact.bP (gV W):=by
 rintro v w w' ⟨g,h1,h2,h3⟩ hb;exact⟨g,h1,h2,(hb.block g (ae h3)).trans h3⟩
theorem rz {w:World} {g:Nat} {v0 v1 v2 v3 v4 v5 v6:Value} (h:w.heap[g]?=some (.cells #[.string ⟨#[]⟩,.string ⟨#[]⟩,.int .i64 0,.int .i64 0,.int .i64 0,.bool false,.slice none 0 0] 56 (0,0))):
  (((((((w.setCell ⟨g,0,none⟩ (v0)).setCell ⟨g,1,none⟩ (v1)).setCell ⟨g,2,none⟩ (v2)).setCell ⟨g,3,none⟩ (v3)).setCell ⟨g,4,none⟩ (v4)).setCell ⟨g,5,none⟩ (v5)).setCell ⟨g,6,none⟩ (v6)).heap[g]?=some (.cells #[v0,v1,v2,v3,v4,v5,v6] 56 (0,0)):=by
 have:=aD (i:=6) (aD (i:=5) (aD (i:=4) (aD (i:=3) (aD (i:=2) (aD (i:=1) (aD (i:=0) h v0) v1) v2) v3) v4) v5) v6;simpa using this
theorem jC {W w:World} {g:Nat} {v0 v1 v2 v3 v4 v5 v6:Value} (hg:W.heap.size<=g) (h:Below W.heap.size W w):Below W.heap.size W (((((((w.setCell ⟨g,0,none⟩ (v0)).setCell ⟨g,1,none⟩ (v1)).setCell ⟨g,2,none⟩ (v2)).setCell ⟨g,3,none⟩ (v3)).setCell ⟨g,4,none⟩ (v4)).setCell ⟨g,5,none⟩ (v5)).setCell ⟨g,6,none⟩ (v6)):=
 ag hg (ag hg (ag hg (ag hg (ag hg (ag hg (ag hg h))))))
def rQ (c:Cl) (p:Pd) (n:Nd):Prop:=∀(j:Nat) t,p.zs[j]?=some t->∃v,bm c t v/\InL n.zs v.n

theorem ik (d:Ad) (c:Cl) (p:Pd) (pa:Option Addr) (pl pc:Nat) (j1:Nat) (n:Nd) (w:World) (hr:aL w d c.raw) (hn:aG Nd.n c.ns) (hx:aG Xd.n c.xs) (hv:aG Vd.n c.vs) (hne:∀(j:Nat) v,c.vs[j]?=some v->¬v.n=⟨#[]⟩) (hp:ar w pa pl pc p.zs) (hj1:c.ns[j1]?=some n) (hnn:n.n=p.d) (hbd:∀(j:Nat) t,p.zs[j]?=some t->∃v,bm c t v):
  Calls Tryz.prog 53 #[.agg #[.slice d.a1 d.l1 d.c1,.slice d.a2 d.l2 d.c2,.slice d.a3 d.l3 d.c3,.slice d.a4 d.l4 d.c4,.slice d.a5 d.l5 d.c5,.int .i64 c.now],.agg #[.string p.n,.int .i64 p.c,.string p.z,.slice pa pl pc,.string p.d,.int .i64 p.p]] w (al (rQ c p n) w):=by
 obtain⟨a1,l1,y1,a2,l2,y2,a3,l3,y3,a4,l4,y4,a5,l5,y5⟩:=d;dsimp only;have HR:=aa hr;have hl1:c.ns.length=l1:=kP
 have hl3:c.vs.length=l3:=iA
 clear hr;have HNR:=aa hn;obtain⟨HX,HV,HNE⟩:=eR;have HP:=aa hp;have HBD:=aa hbd;have hlc:=sC hp.2.1 hp.2.2.1;have hzl:=hp.1;have hl1':j1<l1:=by have h3:=(sv.1 hj1).1;omega
 obtain⟨b1,o1,n',rfl,hb1n,hn',hat⟩:=bq HR.n hl1';rw[hj1] at hn';obtain rfl:=sx hn';obtain⟨na,nl,nc,hnr,z0,z1,d0,d1,d2,d3,d4,d5,d6⟩:=aK hat;have HJn:=aa hj1;have HNn:=aa hnn;have HTn:=aa hnr;have HBn:=aa hb1n;have HD:Hid (w.cell? ⟨b1,o1+j1*7,none⟩=some (.string n.n)/\w.cell? ⟨b1,o1+j1*7+1,none⟩=some (.string n.z)/\w.cell? ⟨b1,o1+j1*7+2,none⟩=some (.int .i64 n.c)/\w.cell? ⟨b1,o1+j1*7+3,none⟩=some (.int .i64 n.s)/\w.cell? ⟨b1,o1+j1*7+4,none⟩=some (.int .i64 n.u)/\w.cell? ⟨b1,o1+j1*7+5,none⟩=some (.bool n.d)/\w.cell? ⟨b1,o1+j1*7+6,none⟩=some (.slice na nl nc)):=⟨d0,d1,d2,d3,d4,d5,d6⟩;clear hn' hat hnr z0 z1 d0 d1 d2 d3 d4 d5 d6 hj1 hnn hb1n hn hx hv hne hp hbd;obtain⟨W,hW0⟩:∃W,W=(w.alloc (.cells (clo6 (some ⟨b1,o1,none⟩) l1 y1 a2 l2 y2 a3 l3 y3 a4 l4 y4 a5 l5 y5 c.now) 36)).alloc (.cells (pov p pa pl pc) 103):=⟨_,rfl⟩;have GK:Hid (W.heap[w.heap.size]?=some (.cells (clo6 (some ⟨b1,o1,none⟩) l1 y1 a2 l2 y2 a3 l3 y3 a4 l4 y4 a5 l5 y5 c.now) 36 (0,0))):=by rw[hW0];exact cY _ _ _
 have GP:Hid (W.heap[w.heap.size+1]?=some (.cells (pov p pa pl pc) 103 (0,0))):=by rw[hW0];exact bB _ _ _
 have BW:Hid (Below w.heap.size w W):=by rw[hW0];exact aB _ _ _
 go_enter Tryz.func53,Tryz.ntmps53;go_wp2_with fail;rw[<-hW0];clear hW0;rename_i K0 hK0;refine bw an rfl rfl an ?_;refine Grow.fX ?_;refine Grow.fW GK.out ?_;refine Grow.fW GK.out ?_;refine Grow.fX ?_;refine Grow.fW GP.out ?_;refine' Grow.aV (.int .i64 j1) rfl ?_ ?_
 ·refine Obl.plain rfl ?_;intro ac wg K hsz hW hf hK;clear hsz;have e9:=hf 9 ak;simp[slotFact,sM] at e9;have e11:=hf 11 ak;simp[slotFact,sM] at e11;clear hf;go_simp;refine (fp ⟨(some ⟨b1,o1,none⟩),l1,y1,a2,l2,y2,a3,l3,y3,a4,l4,y4,a5,l5,y5⟩ c.now c.ns p.d _ (HR.n.below (BW.trans (hW.mono BW.size))) HNR.out HJn.out HNn.out).mono ?_;rintro e w5 ⟨rfl,hb5⟩;exact hK _ _ hb5 rfl
 refine Grow.fX ?_;refine' Grow.aV _ rfl ?_ ?_;rotate_left 1
 ·refine Obl.plain rfl ?_;intro ac wg K hsz hW hf hK;clear hsz;have e13:=hf 13 ak;simp[slotFact,sM] at e13;clear hf;have hBg:=BW.trans (hW.mono BW.size);obtain⟨d0,d1,d2,d3,d4,d5,d6⟩:=HD.out;have g0:=(ai hBg HBn.out).trans d0;have g1:=(ai hBg HBn.out).trans d1;have g2:=(ai hBg HBn.out).trans d2;have g3:=(ai hBg HBn.out).trans d3;have g4:=(ai hBg HBn.out).trans d4;have g5:=(ai hBg HBn.out).trans d5;have g6:=(ai hBg HBn.out).trans d6;clear d0 d1 d2 d3 d4 d5 d6 hBg;exact eW
 refine Grow.step (gV W) rfl (gV.mono W) ?_ ?_
 ·exact k_
 refine Grow.done ?_;intro q wz hW hf;simp only[List.forall_mem_cons] at hf;obtain⟨⟨g5,h5,hbW,hgb⟩,h14,-⟩:=hf;have r0:=ck0 hgb;have r1:=ck1 hgb;have r2:=ck2 hgb;have r3:=ck3 hgb;have r4:=ck4 hgb;have r5:=ck5 hgb;have r6:=ck6 hgb;have f0:=aq hgb 0;have f1:=aq hgb 1;have f2:=aq hgb 2;have f3:=aq hgb 3;have f4:=aq hgb 4;have f5:=aq hgb 5;have f6:=aq hgb 6;have GN:=aa (rz (v0:=.string n.n) (v1:=.string n.z) (v2:=.int .i64 n.c) (v3:=.int .i64 n.s) (v4:=.int .i64 n.u) (v5:=.bool n.d) (v6:=.slice na nl nc) hgb);have BN:=aa (jC (v0:=.string n.n) (v1:=.string n.z) (v2:=.int .i64 n.c) (v3:=.int .i64 n.s) (v4:=.int .i64 n.u) (v5:=.bool n.d) (v6:=.slice na nl nc) hbW hW);clear hgb hW;intro K hK;rw[if_pos (by rfl)];simp only[aR,List.foldr,Act.put,List.setIfInBounds_toArray,List.set_cons_zero,List.set_cons_succ,h5,h14];simp only[List.getLast];go_simp;refine hK _ _ ?_;refine hK0 _ _ ?_;clear hK hK0 K K0;generalize (((((((wz.setCell ⟨g5,0,none⟩ (.string n.n)).setCell ⟨g5,1,none⟩ (.string n.z)).setCell ⟨g5,2,none⟩ (.int .i64 n.c)).setCell ⟨g5,3,none⟩ (.int .i64 n.s)).setCell ⟨g5,4,none⟩ (.int .i64 n.u)).setCell ⟨g5,5,none⟩ (.bool n.d)).setCell ⟨g5,6,none⟩ (.slice na nl nc))=Y at GN BN ⊢;clear r0 f0 r1 f1 r2 f2 r3 f3 r4 f4 r5 f5 r6 f6;have KV:=upK GK BN.out;have PVv:=upK GP BN.out;have BV:=aa (BW.trans (BN.mono BW.size));clear GK GP BW BN hbW;have pp:=ck3 PVv;go_wp2;clear pp;go_loopw [6] (fun i wr=> ∃k:Nat,k<=pl/\i=.int .i64 k/\Hid (∀(j:Nat) t,j<k->p.zs[j]?=some t->∃v,bm c t v/\InL n.zs v.n)/\Hid (Below Y.heap.size Y wr)) (fun i _=>pl - (intOf i).toNat);case atStart=>exact⟨0,by omega,rfl,fun _ _ h=>absurd h af,sB _ _⟩
 case round=>
  obtain⟨k,hk,rfl,HQ,HBY⟩:=hrel;have HB:=aa (BV.trans (HBY.mono BV.size));have Bk:=upK KV HBY.out;have Bp:=upK PVv HBY.out;have Bn:=upK GN HBY.out;have pp:=ck3 Bp;by_cases hlt:k<pl
  ·obtain⟨b,o,t,rfl,hb,hxt,hc,hsz⟩:=(HP.below HB.out).at hlt;have HXt:=aa hxt;clear hxt hsz;obtain⟨v,hbd⟩:=HBD.out k t HXt.out;obtain⟨j3,hj3⟩:=hbd.at;have hl3':j3<l3:=by have h1:=(sv.1 hj3).1;omega
   obtain⟨b3,o3,v',rfl,hb3,hv',hat⟩:=bk HR.v hl3';rw[hj3] at hv';obtain rfl:=sx hv';obtain⟨xa,xl,xc,hvr,z0,z2,z3,z5,d0,d1,d2,d3,d4,d5,d6,d7⟩:=aE hat;have HJ:=aa hj3;have HDb:=aa hbd;have hbv:=sG hb3 HB.size;have v0:=(ai HB.out hb3).trans d0;clear hv' hat hvr z0 z2 z3 z5 d0 d1 d2 d3 d4 d5 d6 d7 hj3 hbd hb3;by_cases hin:InL n.zs v.n
   ·have HIn:=aa hin;clear hin;have Gk:=Bk;have Gp:=Bp;have Gn:=Bn;have HW:=HB;obtain⟨k0,k1,k2,k3,k4,k5⟩:=sl6 Gk;obtain⟨p3,n6,tw,vw,hne0,HC0⟩:=pS;have HC1:=aa (fun q:Wd wr=>(cq na nl nc n.zs v.n q.w (HTn.below (HW.trans (q.b.mono HW.size)))).mono (fun _ _ h=>al.yes h HIn.out));go_wp2_with fail;refine ah an an ?_;repeat (go_big_quiet_step (first|(go_at_call 81;exact Calls.wide (HC0.out _))|(go_at_call 80;exact Calls.wide (HC1.out _))|fail))
    refine wpQuiet_nil ?_;rintro _ ⟨q2,rfl⟩;have HB1:=upB HW q2.b;have Ck:=upK Gk q2.b;have Cp:=upK Gp q2.b;have Cn:=upK Gn q2.b;clear hne0 HW HB HC0 HC1 k0 k1 k2 k3 k4 k5 p3 n6 tw vw Gk Gp Gn Bk Bp Bn pp hb hc hbv v0;have HB:=HB1;clear HB1;have Bk:=Ck;clear Ck;have Bp:=Cp;clear Cp;have Bn:=Cn;clear Cn;go_wp2_with fail;refine⟨⟨k+1,by omega,by go_num,fun j s hj hs=>?_,HBY.trans (q2.b.mono HBY.size)⟩,by simp[intOf];omega⟩;by_cases e:j=k
    ·subst e;rw[HXt.out] at hs;obtain rfl:=sx hs;exact⟨v,HDb.out,HIn.out⟩
    ·exact HQ.out j s af hs
   ·have HIn:=aa hin;clear hin;have Gk:=Bk;have Gp:=Bp;have Gn:=Bn;have HW:=HB;obtain⟨k0,k1,k2,k3,k4,k5⟩:=sl6 Gk;obtain⟨p3,n6,tw,vw,hne0,HC0⟩:=pS;have HC1:=aa (fun q:Wd wr=>(cq na nl nc n.zs v.n q.w (HTn.below (HW.trans (q.b.mono HW.size)))).mono (fun _ _ h=>al.no h HIn.out));go_wp2_with fail;refine ah an an ?_;repeat (go_big_quiet_step (first|(go_at_call 81;exact Calls.wide (HC0.out _))|(go_at_call 80;exact Calls.wide (HC1.out _))|fail))
    refine wpQuiet_nil ?_;rintro _ ⟨q2,rfl⟩;have HB1:=upB HW q2.b;have Ck:=upK Gk q2.b;have Cp:=upK Gp q2.b;have Cn:=upK Gn q2.b;clear hne0 HW HB HC0 HC1 k0 k1 k2 k3 k4 k5 p3 n6 tw vw Gk Gp Gn Bk Bp Bn pp hb hc hbv v0;have HB:=HB1;clear HB1;have Bk:=Ck;clear Ck;have Bp:=Cp;clear Cp;have Bn:=Cn;clear Cn;go_wp2;go_ret;refine al.f (fun h=>?_) HB.out;obtain⟨v2,e1,e2⟩:=h k t HXt.out;obtain rfl:=bm.inj HX.out HV.out HDb.out e1;exact HIn.out e2
  ·exact pX

theorem gC (d:Ad) (c:Cl) (w:World) (hr:aL w d c.raw) (hn:aG Nd.n c.ns) (hx:aG Xd.n c.xs) (hv:aG Vd.n c.vs) (hne:∀(j:Nat) v,c.vs[j]?=some v->¬v.n=⟨#[]⟩) (hrun:∀(j:Nat) p,c.ps[j]?=some p->p.p=2->(∃(i:Nat) (n:Nd),c.ns[i]?=some n/\n.n=p.d)/\∀(j:Nat) t,p.zs[j]?=some t->∃v,bm c t v):
  Calls Tryz.prog 104 #[.agg #[.slice d.a1 d.l1 d.c1,.slice d.a2 d.l2 d.c2,.slice d.a3 d.l3 d.c3,.slice d.a4 d.l4 d.c4,.slice d.a5 d.l5 d.c5,.int .i64 c.now]] w (al (fO c) w):=by
 obtain⟨a1,l1,y1,a2,l2,y2,a3,l3,y3,a4,l4,y4,a5,l5,y5⟩:=d;dsimp only;obtain⟨HR,hl1,hm1,hl3⟩:=mN;obtain⟨hl5,hm5⟩:=iI;clear hr;have HNR:=aa hn;obtain⟨HX,HV,HNE⟩:=eR;have HRun:=aa hrun;clear hn hx hv hne hrun;go_enter Tryz.func104,Tryz.ntmps104;go_wp2;go_loopw [3] (fun i wr=> ∃k:Nat,k<=l1/\i=.int .i64 k/\Hid (∀(j:Nat) z,j<k->c.ns[j]?=some z->mi c z)/\Hid (Below w.heap.size w wr)/\Hid (wr.heap[w.heap.size]?=some (.cells (clo6 a1 l1 y1 a2 l2 y2 a3 l3 y3 a4 l4 y4 a5 l5 y5 c.now) 36 (0,0)))) (fun i _=>l1 - (intOf i).toNat);case atStart=>exact⟨0,by omega,rfl,fun _ _ h=>absurd h af,aj _ _,sH⟩
 case round=>
  obtain⟨k,hk,rfl,HQ,HB,Bk⟩:=hrel;have pk:=ck0 Bk;by_cases hlt:k<l1
  ·obtain⟨b,o,n,rfl,hb,hx,hat⟩:=bq (HR.n.below HB.out) hlt;obtain⟨va,vl,vc,hvr,z0,z1,c0,c1,c2,c3,c4,c5,c6⟩:=aK hat;have HXn:=aa hx;have HTn:=aa hvr;clear hat hx z0 z1 hvr;have hvl:=HTn.1;have hvc:=sC HTn.2.1 HTn.2.2.1;have HVL:=aa hvl;clear hvl;have KV:Hid ((wr.alloc (.cells #[.string n.n,.string n.z,.int .i64 n.c,.int .i64 n.s,.int .i64 n.u,.bool n.d,.slice va vl vc] 56)).heap[w.heap.size]?=some (.cells (clo6 (some ⟨b,o,none⟩) l1 y1 a2 l2 y2 a3 l3 y3 a4 l4 y4 a5 l5 y5 c.now) 36 (0,0))):=(sR wr (.cells #[.string n.n,.string n.z,.int .i64 n.c,.int .i64 n.s,.int .i64 n.u,.bool n.d,.slice va vl vc] 56) _ (ae Bk.out)).trans Bk.out;have GV:Hid ((wr.alloc (.cells #[.string n.n,.string n.z,.int .i64 n.c,.int .i64 n.s,.int .i64 n.u,.bool n.d,.slice va vl vc] 56)).heap[wr.heap.size]?=some (.cells #[.string n.n,.string n.z,.int .i64 n.c,.int .i64 n.s,.int .i64 n.u,.bool n.d,.slice va vl vc] 56 (0,0))):=sH;have BV:=aa (HB.trans ((aj wr (.cells #[.string n.n,.string n.z,.int .i64 n.c,.int .i64 n.s,.int .i64 n.u,.bool n.d,.slice va vl vc] 56)).mono HB.size));have TT:=aa (HTn.below (aj wr (.cells #[.string n.n,.string n.z,.int .i64 n.c,.int .i64 n.s,.int .i64 n.u,.bool n.d,.slice va vl vc] 56)));obtain⟨W,hW⟩:∃W,W=wr.alloc (.cells #[.string n.n,.string n.z,.int .i64 n.c,.int .i64 n.s,.int .i64 n.u,.bool n.d,.slice va vl vc] 56):=⟨_,rfl⟩;obtain⟨gb,hgb⟩:∃gb,gb=wr.heap.size:=⟨_,rfl⟩;rw[<-hW] at KV GV BV TT;rw[<-hgb] at GV;go_wp2;rw[<-hW,<-hgb];clear hW hgb HB Bk HTn c0 c1 c2 c3 c4 c5 c6 hb pk;go_loopw [5] (fun i wr=> ∃kq:Nat,kq<=vl/\i=.int .i64 kq/\Hid (∀(j:Nat) t,j<kq->n.zs[j]?=some t->∃(i:Nat) (v:Vd),c.vs[i]?=some v/\v.n=t/\(n.d=true\/InL v.zs n.n))/\Hid (Below W.heap.size W wr)) (fun i _=>vl - (intOf i).toNat);case atStart=>exact⟨0,by omega,rfl,fun _ _ h=>absurd h af,sB _ _⟩
   case round=>
    obtain⟨kq,hkq,rfl,HQ2,HBW⟩:=hrel;obtain⟨HB,Bk⟩:=iD;have Bv:=upK GV HBW.out;have pv:=ck6 Bv;by_cases hlt2:kq<vl
    ·obtain⟨b2,o2,t,rfl,hb,hx,hc,hsz⟩:=(TT.below HBW.out).at hlt2;have HXt:=aa hx;clear hx hsz;by_cases hnn:∃(i:Nat) (v:Vd),c.vs[i]?=some v/\v.n=t;rotate_left
     ·have HH:=aa hnn;clear hnn;obtain⟨Gk,Gv,HW,k0,k1,k2,k3,k4,k5⟩:=pM;have v6:=fun q:Wd wr=>q.slot (o:=6) Gv.out rfl;obtain⟨tw,hne0⟩:=eT;have HC0:=aa (fun q:Wd wr=>fU ⟨(some ⟨b,o,none⟩),l1,y1,a2,l2,y2,a3,l3,y3,a4,l4,y4,a5,l5,y5⟩ c.now c.vs t q.w (HR.v.below (HW.trans (q.b.mono HW.size))) (fun i v h1 h2=>HH.out ⟨i,v,h1,h2⟩));go_wp2_with fail;refine ah an an ?_;repeat (go_big_quiet_step (first|(go_at_call 106;exact Calls.wide (HC0.out _))|fail))
      refine wpQuiet_nil ?_;rintro _ ⟨q1,rfl⟩;obtain⟨HB1,Ck⟩:=cf;have Cv:=upK Gv q1.b;clear hne0 HW HB HC0 k0 k1 k2 k3 k4 k5 v6 tw Gk Gv Bk Bv pv;have HB:=HB1;clear HB1;have Bk:=Ck;clear Ck;have Bv:=Cv;clear Cv;obtain⟨Gk,Gv,HW,k2,v0,v2,v5,v6⟩:=kV;have hne0:=Wd.ne q1.w;go_wp2_with fail;refine ah an an ?_;repeat (go_big_quiet_step (first|fail))
      refine wpQuiet_nil ?_;rintro _ ⟨q2,rfl⟩;obtain⟨HB2,Ck⟩:=cd;have Cv:=upK Gv q2.b;clear hne0 HW HB k2 v0 v2 v5 v6 Gk Gv Bk Bv;have HB:=HB2;clear HB2;have Bk:=Ck;clear Ck;have Bv:=Cv;clear Cv;go_wp2;go_ret;refine al.f (fun h=>?_) HB.out;obtain⟨i,v,h2,h3,_⟩:=(h.1 k n HXn.out) kq t HXt.out;exact HH.out ⟨i,v,h2,h3⟩
     obtain⟨j3,v,h1,h2⟩:=hnn;have hl3':j3<l3:=by have h3:=(sv.1 h1).1;omega
     obtain⟨b3,o3,v',rfl,hb3,hv',hat⟩:=bk HR.v hl3';rw[h1] at hv';obtain rfl:=sx hv';obtain⟨xa,xl,xc,hvr,z0,z2,z3,z5,d0,d1,d2,d3,d4,d5,d6,d7⟩:=aE hat;have HJ:=aa h1;have HNv:=aa h2;have HTx:=aa hvr;have HC7:=aa d7;have HB3:=aa hb3;have hj31:decide ((j3:Int)<0)=false:=aT
     clear hv' hat hvr z0 z2 z3 z5 d0 d1 d2 d3 d4 d5 d6 d7 h1 h2 hb3;have Gk:=Bk;have Gv:=Bv;have HW:=HB;obtain⟨k0,k1,k2,k3,k4,k5⟩:=sl6 Gk;have v6:=fun q:Wd wr=>q.slot (o:=6) Gv.out rfl;obtain⟨tw,hne0⟩:=eT;have HC0:=aa (fun q:Wd wr=>ia ⟨(some ⟨b,o,none⟩),l1,y1,a2,l2,y2,(some ⟨b3,o3,none⟩),l3,y3,a4,l4,y4,a5,l5,y5⟩ c.now c.vs t q.w (HR.v.below (HW.trans (q.b.mono HW.size))) HV.out HJ.out HNv.out);go_wp2_with fail;refine ah an an ?_;repeat (go_big_quiet_step (first|(go_at_call 106;exact Calls.wide (HC0.out _))|fail))
     refine wpQuiet_nil ?_;rintro _ ⟨q1,rfl⟩;obtain⟨HB1,Ck⟩:=cf;have Cv:=upK Gv q1.b;clear hne0 HW HB HC0 k0 k1 k2 k3 k4 k5 v6 tw Gk Gv Bk Bv pv hb hc;have HB:=HB1;clear HB1;have Bk:=Ck;clear Ck;have Bv:=Cv;clear Cv;have HBW1:=upB HBW q1.b;have hbv:=sG HB3.out HB.size;have v7:=(ai HB.out HB3.out).trans HC7.out;clear HBW;rcases tE n.d with hd|hd
     ·have HDd:=aa hd;clear hd;have Bv2:Hid (q1.w.heap[gb]?=some (.cells #[.string n.n,.string n.z,.int .i64 n.c,.int .i64 n.s,.int .i64 n.u,.bool true,.slice (some ⟨b2,o2,none⟩) vl vc] 56 (0,0))):=by have:=Bv.out;rw[HDd.out] at this;exact this
      clear Bv;have Bv:=Bv2;clear Bv2;obtain⟨Gk,Gv,HW,k2,v0,v2,v5,v6⟩:=kV;have vw:=fun q:Wd q1.w=>(q.cell hbv).trans v7;have hne0:=Wd.ne q1.w;go_wp2_with fail;refine ah an an ?_;repeat (go_big_quiet_step (first|fail))
      refine wpQuiet_nil ?_;rintro _ ⟨q2,rfl⟩;obtain⟨HB2,Ck⟩:=cd;have Cv:=upK Gv q2.b;clear hne0 HW HB k2 v0 v2 v5 v6 vw Gk Gv Bk Bv hbv v7;have HB:=HB2;clear HB2;have Bk:=Ck;clear Ck;have Bv:=Cv;clear Cv;go_wp2_with fail;refine⟨⟨kq+1,by omega,by go_num,fun j s hj hs=>?_,HBW1.trans (q2.b.mono HBW1.size)⟩,by simp[intOf];omega⟩;by_cases e:j=kq
      ·subst e;rw[HXt.out] at hs;obtain rfl:=sx hs;exact⟨j3,v,HJ.out,HNv.out,.inl HDd.out⟩
      ·exact HQ2.out j s af hs
     ·have HDd:=aa hd;clear hd;have Bv2:Hid (q1.w.heap[gb]?=some (.cells #[.string n.n,.string n.z,.int .i64 n.c,.int .i64 n.s,.int .i64 n.u,.bool false,.slice (some ⟨b2,o2,none⟩) vl vc] 56 (0,0))):=by have:=Bv.out;rw[HDd.out] at this;exact this
      clear Bv;have Bv:=Bv2;clear Bv2;by_cases hin:InL v.zs n.n
      ·have HIn:=aa hin;clear hin;obtain⟨Gk,Gv,HW,k2,v0,v2,v5,v6⟩:=kV;have vw:=fun q:Wd q1.w=>(q.cell hbv).trans v7;have hne0:=Wd.ne q1.w;have HC0:=aa (fun q:Wd q1.w=>(cq xa xl xc v.zs n.n q.w (HTx.below (HW.trans (q.b.mono HW.size)))).mono (fun _ _ h=>al.yes h HIn.out));go_wp2_with fail;refine ah an an ?_;repeat (go_big_quiet_step (first|(go_at_call 80;exact Calls.wide (HC0.out _))|fail))
       refine wpQuiet_nil ?_;rintro _ ⟨q2,rfl⟩;obtain⟨HB2,Ck⟩:=cd;have Cv:=upK Gv q2.b;clear hne0 HW HB HC0 k2 v0 v2 v5 v6 vw Gk Gv Bk Bv hbv v7;have HB:=HB2;clear HB2;have Bk:=Ck;clear Ck;have Bv:=Cv;clear Cv;go_wp2_with fail;refine⟨⟨kq+1,by omega,by go_num,fun j s hj hs=>?_,HBW1.trans (q2.b.mono HBW1.size)⟩,by simp[intOf];omega⟩;by_cases e:j=kq
       ·subst e;rw[HXt.out] at hs;obtain rfl:=sx hs;exact⟨j3,v,HJ.out,HNv.out,.inr HIn.out⟩
       ·exact HQ2.out j s af hs
      ·have HIn:=aa hin;clear hin;obtain⟨Gk,Gv,HW,k2,v0,v2,v5,v6⟩:=kV;have vw:=fun q:Wd q1.w=>(q.cell hbv).trans v7;have hne0:=Wd.ne q1.w;have HC0:=aa (fun q:Wd q1.w=>(cq xa xl xc v.zs n.n q.w (HTx.below (HW.trans (q.b.mono HW.size)))).mono (fun _ _ h=>al.no h HIn.out));go_wp2_with fail;refine ah an an ?_;repeat (go_big_quiet_step (first|(go_at_call 80;exact Calls.wide (HC0.out _))|fail))
       refine wpQuiet_nil ?_;rintro _ ⟨q2,rfl⟩;obtain⟨HB2,Ck⟩:=cd;have Cv:=upK Gv q2.b;clear hne0 HW HB HC0 k2 v0 v2 v5 v6 vw Gk Gv Bk Bv hbv v7;have HB:=HB2;clear HB2;have Bk:=Ck;clear Ck;have Bv:=Cv;clear Cv;go_wp2;go_ret;refine al.f (fun h=>?_) HB.out;obtain⟨i,v2,e1,e2,e3⟩:=(h.1 k n HXn.out) kq t HXt.out;obtain⟨_,rfl⟩:=HV.inj e1 HJ.out (e2.trans HNv.symm);rcases e3 with e3|e3
       ·rw[HDd.out] at e3;cases e3
       ·exact HIn.out e3
    ·obtain rfl:vl=kq:=af
     go_wp2_with fail;refine⟨⟨k+1,by omega,by go_num,fun j z hj hz=>?_,HB.out,Bk.out⟩,by simp[intOf];omega⟩;by_cases e:j=k
     ·subst e;rw[HXn.out] at hz;exact nB
     ·exact HQ.out j z af hz
  ·obtain rfl:l1=k:=af
   have HQ1:Hid (∀(j:Nat) z,c.ns[j]?=some z->mi c z):=fun j z hz=>HQ.out j z bI hz;clear HQ;go_wp2;clear pk;go_loopw [7] (fun i wr=> ∃k:Nat,k<=l5/\i=.int .i64 k/\Hid (∀(j:Nat) z,j<k->c.ps[j]?=some z->MQ2 c z)/\Hid (Below w.heap.size w wr)/\Hid (wr.heap[w.heap.size]?=some (.cells (clo6 a1 l1 y1 a2 l2 y2 a3 l3 y3 a4 l4 y4 a5 l5 y5 c.now) 36 (0,0)))) (fun i _=>l5 - (intOf i).toNat);case atStart=>exact⟨0,by omega,rfl,fun _ _ h=>absurd h af,HB.out,Bk.out⟩
   case round=>
    obtain⟨k,hk,rfl,HQ,HB,Bk⟩:=hrel;have pk:=ck4 Bk;by_cases hlt:k<l5
    ·obtain⟨b,o,p,rfl,hb,hx,hat⟩:=bR (HR.p.below HB.out) hlt;obtain⟨va,vl,vc,hvr,z0,z2,z4,c0,c1,c2,c3,c4,c5⟩:=aO hat;have HXp:=aa hx;have HTp:=aa hvr;clear hat hx z0 z2 z4 hvr;by_cases hp2:p.p=2;rotate_left
     ·have HP2:=aa hp2;have hp3:(p.p==2)=false:=by simpa using hp2
      have Gk:Hid ((wr.alloc (.cells #[.string p.n,.int .i64 p.c,.string p.z,.slice va vl vc,.string p.d,.int .i64 p.p] 103)).heap[w.heap.size]?=some (.cells (clo6 a1 l1 y1 a2 l2 y2 a3 l3 y3 a4 l4 y4 (some ⟨b,o,none⟩) l5 y5 c.now) 36 (0,0))):=(sR _ _ _ (ae Bk.out)).trans (Bk.out);have Gr:Hid ((wr.alloc (.cells #[.string p.n,.int .i64 p.c,.string p.z,.slice va vl vc,.string p.d,.int .i64 p.p] 103)).heap[wr.heap.size]?=some (.cells #[.string p.n,.int .i64 p.c,.string p.z,.slice va vl vc,.string p.d,.int .i64 p.p] 103 (0,0))):=sH;have HW:Hid (Below w.heap.size w (wr.alloc (.cells #[.string p.n,.int .i64 p.c,.string p.z,.slice va vl vc,.string p.d,.int .i64 p.p] 103))):=(HB.trans ((aj _ _).mono HB.size));obtain⟨k0,k1,k2,k3,k4,k5⟩:=sl6 Gk;obtain⟨r0,r1,r2,r3,r4,r5⟩:=sl6 Gr;have hne0:=Wd.ne (wr.alloc (.cells #[.string p.n,.int .i64 p.c,.string p.z,.slice va vl vc,.string p.d,.int .i64 p.p] 103));go_wp2_with fail;refine ah an an ?_;repeat (go_big_quiet_step (first|fail))
      refine wpQuiet_nil ?_;rintro _ ⟨q1,rfl⟩;obtain⟨HB1,Ck⟩:=cf;clear hne0 HW HB k0 k1 k2 k3 k4 k5 r0 r1 r2 r3 r4 r5 Gk Gr Bk pk hb c0 c1 c2 c3 c4 c5;have HB:=HB1;clear HB1;have Bk:=Ck;clear Ck;clear hp2 hp3;go_wp2_with fail;refine⟨⟨k+1,by omega,by go_num,fun j z hj hz=>?_,HB.out,Bk.out⟩,by simp[intOf];omega⟩;exact pW
     have HP2:=aa hp2;obtain⟨⟨j1,n,h1,h2⟩,hbd⟩:=HRun.out k p HXp.out hp2;rw[hp2] at c5;clear hp2;have HBD:=aa hbd;have hl1':j1<l1:=by have h3:=(sv.1 h1).1;omega
     obtain⟨b1,o1,n',rfl,hb1n,hn',hat⟩:=bq HR.n hl1';rw[h1] at hn';obtain rfl:=sx hn';obtain⟨na,nl,nc,hnr,z0,z1,d0,d1,d2,d3,d4,d5,d6⟩:=aK hat;have HJn:=aa h1;have HNn:=aa h2;have e5:=(ai HB.out hb1n).trans d5;have hbn:=sG hb1n HB.size;clear hn' hat hnr z0 z1 d0 d1 d2 d3 d4 d5 d6 h1 h2 hb1n hbd;rcases tE n.d with hd|hd
     ·have HDd:=aa hd;rw[hd] at e5;clear hd;obtain⟨hbnv,e5v⟩:=mU;obtain⟨Gk,Gr,HW⟩:=qV;obtain⟨k0,k1,k2,k3,k4,k5⟩:=sl6 Gk;obtain⟨r0,r1,r2,r3,r4,r5⟩:=sl6 Gr;obtain⟨nw,hne0,HC0⟩:=qU;go_wp2_with fail;refine ah an an ?_;repeat (go_big_quiet_step (first|(go_at_call 51;exact Calls.wide (HC0.out _))|fail))
      refine wpQuiet_nil ?_;rintro _ ⟨q1,rfl⟩;obtain⟨HB1,Ck⟩:=cf;clear hne0 HW HB HC0 k0 k1 k2 k3 k4 k5 r0 r1 r2 r3 r4 r5 nw Gk Gr Bk pk hb hbn e5 hbnv e5v c0 c1 c2 c3 c4 c5;have HB:=HB1;clear HB1;have Bk:=Ck;clear Ck;go_wp2;go_ret;refine al.f (fun h=>?_) HB.out;obtain⟨i,m,e1,e2,e3,_⟩:=(h.2 k p HXp.out) HP2.out;obtain⟨_,rfl⟩:=HNR.inj e1 HJn.out (e2.trans HNn.symm);rw[HDd.out] at e3;cases e3
     ·by_cases hal:rQ c p n
      ·have HAl:=aa hal;clear hal;have HDd:=aa hd;rw[hd] at e5;clear hd;obtain⟨hbnv,e5v⟩:=mU;have HCA:Hid (∀q:Wd (wr.alloc (.cells #[.string p.n,.int .i64 p.c,.string p.z,.slice va vl vc,.string p.d,.int .i64 2] 103)),Calls Tryz.prog 53 #[.agg #[.slice (some ⟨b1,o1,none⟩) l1 y1,.slice a2 l2 y2,.slice a3 l3 y3,.slice a4 l4 y4,.slice (some ⟨b,o,none⟩) l5 y5,.int .i64 c.now],.agg #[.string p.n,.int .i64 p.c,.string p.z,.slice va vl vc,.string p.d,.int .i64 2]] q.w fun e w'=>e=.returned (.bool true)/\Below q.w.heap.size q.w w'):=by
        intro q;have h0:=(ik ⟨(some ⟨b1,o1,none⟩),l1,y1,a2,l2,y2,a3,l3,y3,a4,l4,y4,(some ⟨b,o,none⟩),l5,y5⟩ c p va vl vc j1 n q.w (HR.below (HB.trans (((aj wr _).trans (q.b.mono aT)).mono HB.size))) HNR.out HX.out HV.out HNE.out (HTp.below ((aj wr _).trans (q.b.mono aT))) HJn.out HNn.out HBD.out).mono (fun _ _ h=>al.yes h HAl.out);rw[HP2.out] at h0;exact h0
       obtain⟨Gk,Gr,HW⟩:=qV;obtain⟨k0,k1,k2,k3,k4,k5⟩:=sl6 Gk;obtain⟨r0,r1,r2,r3,r4,r5⟩:=sl6 Gr;obtain⟨nw,hne0,HC0⟩:=qU;have HC1:=aa (fun q:Wd (wr.alloc (.cells #[.string p.n,.int .i64 p.c,.string p.z,.slice va vl vc,.string p.d,.int .i64 2] 103))=>HCA.out q);go_wp2_with fail;refine ah an an ?_;repeat (go_big_quiet_step (first|(go_at_call 51;exact Calls.wide (HC0.out _))|(go_at_call 53;exact Calls.wide (HC1.out _))|fail))
       refine wpQuiet_nil ?_;rintro _ ⟨q1,rfl⟩;obtain⟨HB1,Ck⟩:=cf;clear hne0 HW HB HC0 HC1 k0 k1 k2 k3 k4 k5 r0 r1 r2 r3 r4 r5 nw Gk Gr Bk pk hb hbn e5 hbnv e5v c0 c1 c2 c3 c4 c5;have HB:=HB1;clear HB1;have Bk:=Ck;clear Ck;go_wp2_with fail;refine⟨⟨k+1,by omega,by go_num,fun j z hj hz=>?_,HB.out,Bk.out⟩,by simp[intOf];omega⟩;by_cases e:j=k
       ·subst e;rw[HXp.out] at hz;obtain rfl:=sx hz;exact fun _=>⟨j1,n,HJn.out,HNn.out,HDd.out,HAl.out⟩
       ·exact HQ.out j z af hz
      ·have HAl:=aa hal;clear hal;have HDd:=aa hd;rw[hd] at e5;clear hd;obtain⟨hbnv,e5v⟩:=mU;have HCA:Hid (∀q:Wd (wr.alloc (.cells #[.string p.n,.int .i64 p.c,.string p.z,.slice va vl vc,.string p.d,.int .i64 2] 103)),Calls Tryz.prog 53 #[.agg #[.slice (some ⟨b1,o1,none⟩) l1 y1,.slice a2 l2 y2,.slice a3 l3 y3,.slice a4 l4 y4,.slice (some ⟨b,o,none⟩) l5 y5,.int .i64 c.now],.agg #[.string p.n,.int .i64 p.c,.string p.z,.slice va vl vc,.string p.d,.int .i64 2]] q.w fun e w'=>e=.returned (.bool false)/\Below q.w.heap.size q.w w'):=by
        intro q;have h0:=(ik ⟨(some ⟨b1,o1,none⟩),l1,y1,a2,l2,y2,a3,l3,y3,a4,l4,y4,(some ⟨b,o,none⟩),l5,y5⟩ c p va vl vc j1 n q.w (HR.below (HB.trans (((aj wr _).trans (q.b.mono aT)).mono HB.size))) HNR.out HX.out HV.out HNE.out (HTp.below ((aj wr _).trans (q.b.mono aT))) HJn.out HNn.out HBD.out).mono (fun _ _ h=>al.no h HAl.out);rw[HP2.out] at h0;exact h0
       obtain⟨Gk,Gr,HW⟩:=qV;obtain⟨k0,k1,k2,k3,k4,k5⟩:=sl6 Gk;obtain⟨r0,r1,r2,r3,r4,r5⟩:=sl6 Gr;obtain⟨nw,hne0,HC0⟩:=qU;have HC1:=aa (fun q:Wd (wr.alloc (.cells #[.string p.n,.int .i64 p.c,.string p.z,.slice va vl vc,.string p.d,.int .i64 2] 103))=>HCA.out q);go_wp2_with fail;refine ah an an ?_;repeat (go_big_quiet_step (first|(go_at_call 51;exact Calls.wide (HC0.out _))|(go_at_call 53;exact Calls.wide (HC1.out _))|fail))
       refine wpQuiet_nil ?_;rintro _ ⟨q1,rfl⟩;obtain⟨HB1,Ck⟩:=cf;clear hne0 HW HB HC0 HC1 k0 k1 k2 k3 k4 k5 r0 r1 r2 r3 r4 r5 nw Gk Gr Bk pk hb hbn e5 hbnv e5v c0 c1 c2 c3 c4 c5;have HB:=HB1;clear HB1;have Bk:=Ck;clear Ck;go_wp2;go_ret;refine al.f (fun h=>?_) HB.out;obtain⟨i,m,e1,e2,e3,e4⟩:=(h.2 k p HXp.out) HP2.out;obtain⟨_,rfl⟩:=HNR.inj e1 HJn.out (e2.trans HNn.symm);exact HAl.out e4
    ·obtain rfl:l5=k:=af
     go_wp2;go_ret;exact al.t ⟨HQ1.out,fun j z hz=>HQ.out j z bI hz⟩ HB.out

theorem dv {α:Type} {nm:α->ByteArray} {xs:List α} {t:ByteArray} (h:aG nm xs):hit nm xs t=true↔∃(i:Nat) (x:α),xs[i]?=some x/\nm x=t:=by
 constructor
 ·intro e;obtain⟨x,h1,h2⟩:=er e;exact⟨_,x,h1,h2⟩
 ·rintro⟨i,x,h1,h2⟩;exact (cx h h1 h2).2
theorem gq {c:Cl} (h:cM c):kG c↔kF c:=by
 have hk:=h.2.1.2.2;have hv:=h.2.2.1.2.2;have hx:=h.2.2.2.1.2.2;constructor
 ·rintro⟨h1,h2⟩;refine⟨fun j v e=>?_,fun j x e=>?_⟩
  ·obtain⟨a,b⟩:=h1 j v e;refine⟨(dv hk).1 a,b.imp id ?_⟩;rintro⟨i,j',x,v',e1,e2,e3,e4,e5,e6,_⟩;exact⟨i,x,e1,e2,e5⟩
  ·obtain⟨a,b⟩:=h2 j x e;refine⟨(dv hk).1 a,b.imp id ?_⟩;rintro⟨i,j',x',v',e1,e2,e3,e4,e5,e6,e7,e8,e9⟩;obtain⟨_,rfl⟩:=hx.inj e1 e e2;exact⟨j',v',e3,e4,e6,e7,e8,e9⟩
 ·rintro⟨h1,h2⟩;refine⟨fun j v e=>?_,fun j x e=>?_⟩
  ·obtain⟨a,b⟩:=h1 j v e;refine⟨(dv hk).2 a,b.imp id ?_⟩;rintro⟨i,x,e1,e2,e3⟩;have hne:¬x.v=⟨#[]⟩:=fun q=>h.ne j v e (e3.symm.trans q);obtain⟨_,b2⟩:=h2 i x e1;rcases b2 with b2|⟨j',v',f1,f2,f3,f4,f5,f6⟩
   ·exact absurd b2 hne
   obtain⟨_,rfl⟩:=hv.inj f1 e (f2.trans e3);exact⟨i,j,x,v',e1,e2,e,rfl,e3,rfl,f4,f5,f6⟩
  ·obtain⟨a,b⟩:=h2 j x e;refine⟨(dv hk).2 a,b.imp id ?_⟩;rintro⟨j',v,e1,e2,e3,e4,e5,e6⟩;exact⟨j,j',x,v,e,rfl,e1,e2,rfl,e3,e4,e5,e6⟩
theorem fF {c:Cl} (h:cM c) (hb:kF c):gU c↔gT c:=by
 have hn:=h.1.2.2;have hv:=h.2.2.1.2.2;have hx:=h.2.2.2.1.2.2;have one:(∀(j:Nat) z,c.vs[j]?=some z->PQ3 c z)↔∀(k:Nat) p,c.ps[k]?=some p->PSc c k p:=by
  constructor
  ·intro h3 k p hp j q hj hq;by_cases e1:q.d=⟨#[]⟩
   ·exact .inl e1
   by_cases e2:p.d=⟨#[]⟩
   ·exact .inr (.inl e2)
   by_cases e3:q.d=p.d
   ·exact .inr (.inr (.inl e3))
   refine .inr (.inr (.inr fun i t ht v hbd hs hin=>e3 ?_));obtain⟨i1,j1,x,f1,f2,f3,f4⟩:=hbd;have hxv:¬x.v=⟨#[]⟩:=fun z=>h.ne j1 v f3 (f4.trans z);have hvm:v.m=t:=by
    rcases (hb.2 i1 x f1).2 with z|⟨j2,v2,g1,g2,g3,_⟩
    ·exact absurd z hxv
    ·obtain⟨_,rfl⟩:=hv.inj g1 f3 (g2.trans f4.symm);rw[g3,f2]
   have ht0:¬v.m=⟨#[]⟩:=fun z=>by
    have h1:=(h.2.2.2.1.2.1 i1 x f1).1.1;rw[f2,<-hvm,z] at h1;exact absurd h1 ak
   have:=h3 j1 v f3 hs ht0;rw[hvm] at this;exact this j k q p hq hp e1 e2 ⟨i,ht⟩ hin
  ·intro h3 j v hj hs hm i1 i2 p q hp hq d1 d2 in1 in2;obtain⟨i4,x,f1,f2,f3⟩:=(hb.1 j v hj).2.resolve_left hm;have hbd:bm c v.m v:=⟨i4,j,x,f1,f2,hj,f3.symm⟩;rcases Nat.lt_trichotomy i1 i2 with k|k|k
   ·obtain⟨r,hr⟩:=in1;rcases h3 i2 q hq i1 p k hp with z|z|z|z
    ·exact absurd z d1
    ·exact absurd z d2
    ·exact z
    ·exact absurd in2 (z r v.m hr v hbd hs)
   ·subst k;rw[hp] at hq;rw[sx hq]
   ·obtain⟨r,hr⟩:=in2;rcases h3 i1 p hp i2 q k hq with z|z|z|z
    ·exact absurd z d2
    ·exact absurd z d1
    ·exact z.symm
    ·exact absurd in1 (z r v.m hr v hbd hs)
 constructor
 ·rintro⟨h1,h2,h3⟩;refine⟨fun k p hp=>⟨?_,?_,one.1 h3 k p hp⟩,h2⟩
  ·rcases (h1 k p hp).2 with z|⟨i,n,e1,e2,e3,e4⟩
   ·exact .inl z
   ·exact .inr ⟨i,n,e1,e2,e3.imp id Eq.symm⟩
  ·intro j t ht;refine⟨(dv hx).1 ((h1 k p hp).1 j t ht),?_⟩;rcases (h1 k p hp).2 with z|⟨i,n,e1,e2,e3,e4⟩
   ·exact .inl z
   ·obtain⟨v,f1,f2⟩:=e4 j t ht;exact .inr ⟨v,i,n,f1,e1,e2,f2⟩
 ·rintro⟨h1,h2⟩;refine⟨fun k p hp=>⟨fun j t ht=>(dv hx).2 ((h1 k p hp).2.1 j t ht).1,?_⟩,h2,one.2 (fun k p hp=>(h1 k p hp).2.2)⟩;rcases (h1 k p hp).1 with z|⟨i,n,e1,e2,e3⟩
  ·exact .inl z
  by_cases z:p.d=⟨#[]⟩
  ·exact .inl z
  refine .inr ⟨i,n,e1,e2,e3.imp id Eq.symm,fun j t ht=>?_⟩;obtain⟨v,i',n',f1,f2,f3,f4⟩:=((h1 k p hp).2.1 j t ht).2.resolve_left z;obtain⟨_,rfl⟩:=hn.inj f2 e1 (f3.trans e2.symm);exact⟨v,f1,f4⟩
theorem running {c:Cl} (h:cM c) (hp:gT c) (j:Nat) (p:Pd) (hj:c.ps[j]?=some p) (h2:p.p=2):(∃(i:Nat) (n:Nd),c.ns[i]?=some n/\n.n=p.d)/\∀(j:Nat) t,p.zs[j]?=some t->∃v,bm c t v:=by
 have hd:¬p.d=⟨#[]⟩:=fun e=>by
  have h1:=(h.2.2.2.2.2.1 j p hj).2.2.2.2;rcases h1 with ⟨h3,_⟩|⟨_,h3⟩
  ·rw[h2] at h3;cases h3
  ·have h4:=h3.1;rw[e] at h4;exact absurd h4 ak
 obtain⟨a,b,_⟩:=hp.1 j p hj;obtain⟨i,n,e1,e2,_⟩:=a.resolve_left hd;refine⟨⟨i,n,e1,e2⟩,fun k t ht=>?_⟩;obtain⟨v,_,_,e3,_⟩:=(b k t ht).2.resolve_left hd;exact⟨v,e3⟩

theorem jB (d:Ad) (c:Cl) (w:World) (hr:aL w d c.raw):
  Calls Tryz.prog 79 #[.agg #[.slice d.a1 d.l1 d.c1,.slice d.a2 d.l2 d.c2,.slice d.a3 d.l3 d.c3,.slice d.a4 d.l4 d.c4,.slice d.a5 d.l5 d.c5,.int .i64 c.now]] w (al (bV c) w):=by
 obtain⟨HR,HB⟩:=eS;clear hr;go_enter Tryz.func79,Tryz.ntmps79;go_wp2_with fail;refine (gi c.now _).mono ?_;rintro e w1 ⟨r,rfl,hi,hw⟩;have hb:Below (w.alloc (.cells (clv d c.now) 36)).heap.size (w.alloc (.cells (clv d c.now) 36)) w1:=by first|(rw[hw];exact sB _ _)|(rw[<-hw];exact sB _ _)
 clear hw;obtain⟨HA0,hbx⟩:=aJ hb;have Bk:=aa HA0;replace HB:=upB HB hbx;clear hb hbx HA0;have HI1:=aa hi;clear hi;cases r
 ·exact nf
 obtain⟨k0,k1,k2,k3,k4,k5⟩:=cs6 Bk;go_wp2_with fail;refine (lN d c _ (HR.below HB.out)).mono ?_;rintro e w2 ⟨r,rfl,hi,hb⟩;clear k0 k1 k2 k3 k4 k5;replace Bk:=upK Bk hb;replace HB:=upB HB hb;clear hb;have HI2:=aa hi;clear hi;cases r
 ·exact ni
 have HOK:=aa (HI2.1 bA);obtain⟨k0,k1,k2,k3,k4,k5⟩:=cs6 Bk;go_wp2_with fail;refine (jE d c _ (HR.below HB.out) HOK.2.1.2.2 HOK.2.2.2.1.2.2 HOK.2.2.1.2.2).mono ?_;rintro e w3 ⟨r,rfl,hi,hb⟩;clear k0 k1 k2 k3 k4 k5;replace Bk:=upK Bk hb;replace HB:=upB HB hb;clear hb;have HI3:=aa hi;clear hi;cases r
 ·obtain⟨k0,k1,k2,k3,k4,k5⟩:=cs6 Bk;go_wp2;go_ret;exact al.f (fun h=>by have:=HI3.2 ((gq HOK.out).1 h.2.2.1);cases this) HB.out
 have HBd:=aa (HI3.1 bA);obtain⟨k0,k1,k2,k3,k4,k5⟩:=cs6 Bk;go_wp2_with fail;refine (ie d c _ (HR.below HB.out) HOK.1.2.2 HOK.2.2.2.1.2.2 HOK.2.2.1.2.2 HOK.ne (by have:=HOK.2.2.2.2.1;omega) HOK.su).mono ?_;rintro e w4 ⟨r,rfl,hi,hb⟩;clear k0 k1 k2 k3 k4 k5;replace Bk:=upK Bk hb;replace HB:=upB HB hb;clear hb;have HI4:=aa hi;clear hi;cases r
 ·obtain⟨k0,k1,k2,k3,k4,k5⟩:=cs6 Bk;go_wp2;go_ret;exact al.f (fun h=>by have:=HI4.2 ((fF HOK.out HBd.out).1 h.2.2.2.1);cases this) HB.out
 have HPl:=aa (HI4.1 bA);obtain⟨k0,k1,k2,k3,k4,k5⟩:=cs6 Bk;go_wp2_with fail;refine (fR d c _ (HR.below HB.out) HOK.1.2.2 (by have:=HOK.2.2.1.1;omega)).mono ?_;rintro e w5 ⟨r,rfl,hi,hb⟩;clear k0 k1 k2 k3 k4 k5;replace Bk:=upK Bk hb;replace HB:=upB HB hb;clear hb;have HI5:=aa hi;clear hi;cases r
 ·exact pU
 obtain⟨k0,k1,k2,k3,k4,k5⟩:=cs6 Bk;go_wp2_with fail;refine (gC d c _ (HR.below HB.out) HOK.1.2.2 HOK.2.2.2.1.2.2 HOK.2.2.1.2.2 HOK.ne (running HOK.out HPl.out)).mono ?_;rintro e w6 ⟨r,rfl,hi,hb⟩;clear k0 k1 k2 k3 k4 k5;replace Bk:=upK Bk hb;replace HB:=upB HB hb;clear hb;have HI6:=aa hi;clear hi;cases r
 ·exact nZ
 go_wp2;go_ret;exact al.t ⟨HI1.1 bA,HOK.out,(gq HOK.out).2 HBd.out,(fF HOK.out HBd.out).2 HPl.out,HI5.1 bA,HI6.1 bA⟩ HB.out

end Rc
end Go.Proofs.YtdfgbboadbnodaaGreatDoor

namespace Go.Proofs.YtdfgbboadbnodaaGreatDoor
open Go.RowKit Go.Extern.Stop Go.Stop Go.Extern
namespace Rc

structure Ers (w:World) (E:Nat->Addr):Prop where
 v0:w.cell? ⟨1,0,none⟩=some (.iface 195 (.pointer (some (E 0))))
 v1:w.cell? ⟨9,0,none⟩=some (.iface 195 (.pointer (some (E 1))))
 v2:w.cell? ⟨3,0,none⟩=some (.iface 195 (.pointer (some (E 2))))
 v3:w.cell? ⟨4,0,none⟩=some (.iface 195 (.pointer (some (E 3))))
 v4:w.cell? ⟨6,0,none⟩=some (.iface 195 (.pointer (some (E 4))))
 v5:w.cell? ⟨7,0,none⟩=some (.iface 195 (.pointer (some (E 5))))
 v6:w.cell? ⟨5,0,none⟩=some (.iface 195 (.pointer (some (E 6))))
 v7:w.cell? ⟨8,0,none⟩=some (.iface 195 (.pointer (some (E 7))))
 v8:w.cell? ⟨0,0,none⟩=some (.iface 195 (.pointer (some (E 8))))
 v9:w.cell? ⟨2,0,none⟩=some (.iface 195 (.pointer (some (E 9))))
 blk:∀i,i<10->∃cs T,w.heap[(E i).block]?=some (.cells cs T (0,0))
 inj:∀i j,i<10->j<10->E i=E j->i=j
theorem bg {w:World} {b o:Nat} {v:Value} (h:w.cell? ⟨b,o,none⟩=some v):b<w.heap.size:=World.block_lt_of_cell? w _ h
theorem Ers.below {w w':World} {E:Nat->Addr} (h:Ers w E) (hb:Below w.heap.size w w'):Ers w' E:=
 ⟨(ai hb (bg h.v0)).trans h.v0,(ai hb (bg h.v1)).trans h.v1,(ai hb (bg h.v2)).trans h.v2,(ai hb (bg h.v3)).trans h.v3,(ai hb (bg h.v4)).trans h.v4,(ai hb (bg h.v5)).trans h.v5,(ai hb (bg h.v6)).trans h.v6,(ai hb (bg h.v7)).trans h.v7,(ai hb (bg h.v8)).trans h.v8,(ai hb (bg h.v9)).trans h.v9,fun i hi=>by
  obtain⟨cs,T,h1⟩:=h.blk i hi;exact⟨cs,T,(hb.block _ (ae h1)).trans h1⟩,h.inj⟩
theorem Ers.ens {w:World} {E:Nat->Addr} (h:Ers w E):ens w:=⟨_,_,h.v2⟩

theorem ou (v:Value) (w:World):(Extern.ReflectliteType.typeOf #[.iface 195 v]).run Tryz.prog w=.ok (.iface 165 (.agg #[.pointer (some ⟨10,195,none⟩)])) w:=by kernel_rfl
def rG:Array Value->Sem Value:=Extern.ReflectliteType.method fun t=>do Rtype.noPackHeld "Comparable" t;pure (.bool (<-typeInfo t).comparable)
theorem gL (w:World):(rG #[.agg #[.pointer (some ⟨10,195,none⟩)]]).run Tryz.prog w=.ok (.bool true) w:=by kernel_rfl
theorem dO (v:Value) (w:World):(Go.method 343 165 v "Comparable").run Tryz.prog w=.ok (204,v) w:=by kernel_rfl
theorem ow:(Tryz.prog.info? 195).map (·.comparable)=some true:=by kernel_rfl
theorem ov:(Tryz.prog.info? 231).map (·.size)=some 1:=by kernel_rfl
theorem rB (v:Value) (xT:TypeId) (w:World):(Instr.typeAssert (.iface 195 v) xT 167 true).run Tryz.prog w=.ok (.tuple #[.nilIface,.bool false]) w:=run_typeAssert_lacksB Tryz.underlying167 (by kernel_rfl) (by kernel_rfl) v xT w
theorem lR (v:Value) (xT:TypeId) (w:World):(Instr.typeAssert (.iface 195 v) xT 170 true).run Tryz.prog w=.ok (.tuple #[.nilIface,.bool false]) w:=run_typeAssert_lacksB Tryz.underlying170 (by kernel_rfl) (by kernel_rfl) v xT w
theorem jS (v:Value) (xT:TypeId) (w:World):(Instr.typeAssert (.iface 195 v) xT 172 true).run Tryz.prog w=.ok (.tuple #[.nilIface,.bool false]) w:=run_typeAssert_lacksB Tryz.underlying172 (by kernel_rfl) (by kernel_rfl) v xT w

theorem cG (a:Addr) (w:World)  :
  Calls Tryz.prog 85 #[.iface 195 (.pointer (some (a))),.iface 195 (.pointer (some (a)))] w fun e w'=>e=.returned (.bool true)/\w'=w:=by
 obtain⟨i,hi,hcmp⟩:=sF.1 ow;obtain⟨j,hj,hjs⟩:=sF.1 ov;obtain⟨h8,h32,tT,cT,mR⟩:=pP;have heq:=run_eql_iface_ptr_same (P:=Tryz.prog) w a Tryz.underlying70 Tryz.underlying195 hi hcmp hj;exact nU

theorem ot (a b:Addr) (ca cb:Array Value) (ta tb:TypeId) (w:World) (hne:a≠b) (ha:w.heap[a.block]?=some (.cells ca ta (0,0))) (hb:w.heap[b.block]?=some (.cells cb tb (0,0))):
  Calls Tryz.prog 85 #[.iface 195 (.pointer (some (a))),.iface 195 (.pointer (some (b)))] w fun e w'=>e=.returned (.bool false)/\w'=w:=by
 obtain⟨i,hi,hcmp⟩:=sF.1 ow;obtain⟨j,hj,hjs⟩:=sF.1 ov;obtain⟨h8,h32,tT,cT,mR⟩:=pP;have nE:=rB;have uE:=lR;have vE:=jS;have heq:=run_eql_iface_ptr_other (P:=Tryz.prog) w Tryz.underlying70 Tryz.underlying195 hi hcmp hj (by rw[hjs];decide) hne ha hb;exact nU

theorem au {w:World} {E:Nat->Addr} (h:Ers w E) (i j:Nat) (hi:i<10) (hj:j<10) (hne:¬i=j):
  Calls Tryz.prog 85 #[.iface 195 (.pointer (some (E i))),.iface 195 (.pointer (some (E j)))] w fun e w'=>e=.returned (.bool false)/\w'=w:=by
 obtain⟨ca,ta,h1⟩:=h.blk i hi;obtain⟨cb,tb,h2⟩:=h.blk j hj;exact ot (E i) (E j) ca cb ta tb w (fun e=>hne (h.inj i j hi hj e)) h1 h2

def cL:Nat->Int
 | 0=>2
 | 1=>1
 | 2=>6
 | 3=>7
 | 4=>9
 | 5=>11
 | 6=>7
 | 7=>11
 | 8=>10
 | 9=>3
 | _=>0

theorem r_ (E:Nat->Addr) (w:World) (h:Ers w E):Calls Tryz.prog 60 #[.iface 195 (.pointer (some (E 0)))] w fun e w'=>e=.returned (.int .i64 2)/\w'=w:=by
 obtain⟨HE,v0,v1,v2,v3,v4,v5,v6,v7,v8,v9⟩:=gD;clear h;go_enter Tryz.func60,Tryz.ntmps60;go_wp2_with fail;refine (cG (E 0) _).mono ?_;exact ec

theorem rZ (E:Nat->Addr) (w:World) (h:Ers w E):Calls Tryz.prog 60 #[.iface 195 (.pointer (some (E 1)))] w fun e w'=>e=.returned (.int .i64 1)/\w'=w:=by
 obtain⟨HE,v0,v1,v2,v3,v4,v5,v6,v7,v8,v9⟩:=gD;clear h;go_enter Tryz.func60,Tryz.ntmps60;go_wp2_with fail;refine (au HE.out 1 0 ak ak ak).mono ?_;rintro e w' ⟨rfl,rfl⟩;go_wp2_with fail;refine (au HE.out 1 9 ak ak ak).mono ?_;rintro e w' ⟨rfl,rfl⟩;go_wp2_with fail;refine (au HE.out 1 2 ak ak ak).mono ?_;rintro e w' ⟨rfl,rfl⟩;go_wp2_with fail;refine (au HE.out 1 3 ak ak ak).mono ?_;rintro e w' ⟨rfl,rfl⟩;go_wp2_with fail;refine (au HE.out 1 6 ak ak ak).mono ?_;rintro e w' ⟨rfl,rfl⟩;go_wp2_with fail;refine (au HE.out 1 4 ak ak ak).mono ?_;rintro e w' ⟨rfl,rfl⟩;go_wp2_with fail;refine (au HE.out 1 5 ak ak ak).mono ?_;rintro e w' ⟨rfl,rfl⟩;go_wp2_with fail;refine (au HE.out 1 7 ak ak ak).mono ?_;rintro e w' ⟨rfl,rfl⟩;go_wp2_with fail;refine (au HE.out 1 8 ak ak ak).mono ?_;exact ec

theorem rY (E:Nat->Addr) (w:World) (h:Ers w E):Calls Tryz.prog 60 #[.iface 195 (.pointer (some (E 2)))] w fun e w'=>e=.returned (.int .i64 6)/\w'=w:=by
 obtain⟨HE,v0,v1,v2,v3,v4,v5,v6,v7,v8,v9⟩:=gD;clear h;go_enter Tryz.func60,Tryz.ntmps60;go_wp2_with fail;refine (au HE.out 2 0 ak ak ak).mono ?_;rintro e w' ⟨rfl,rfl⟩;go_wp2_with fail;refine (au HE.out 2 9 ak ak ak).mono ?_;rintro e w' ⟨rfl,rfl⟩;go_wp2_with fail;refine (cG (E 2) _).mono ?_;exact ec

theorem rX (E:Nat->Addr) (w:World) (h:Ers w E):Calls Tryz.prog 60 #[.iface 195 (.pointer (some (E 3)))] w fun e w'=>e=.returned (.int .i64 7)/\w'=w:=by
 obtain⟨HE,v0,v1,v2,v3,v4,v5,v6,v7,v8,v9⟩:=gD;clear h;go_enter Tryz.func60,Tryz.ntmps60;go_wp2_with fail;refine (au HE.out 3 0 ak ak ak).mono ?_;rintro e w' ⟨rfl,rfl⟩;go_wp2_with fail;refine (au HE.out 3 9 ak ak ak).mono ?_;rintro e w' ⟨rfl,rfl⟩;go_wp2_with fail;refine (au HE.out 3 2 ak ak ak).mono ?_;rintro e w' ⟨rfl,rfl⟩;go_wp2_with fail;refine (cG (E 3) _).mono ?_;exact ec

theorem rW (E:Nat->Addr) (w:World) (h:Ers w E):Calls Tryz.prog 60 #[.iface 195 (.pointer (some (E 4)))] w fun e w'=>e=.returned (.int .i64 9)/\w'=w:=by
 obtain⟨HE,v0,v1,v2,v3,v4,v5,v6,v7,v8,v9⟩:=gD;clear h;go_enter Tryz.func60,Tryz.ntmps60;go_wp2_with fail;refine (au HE.out 4 0 ak ak ak).mono ?_;rintro e w' ⟨rfl,rfl⟩;go_wp2_with fail;refine (au HE.out 4 9 ak ak ak).mono ?_;rintro e w' ⟨rfl,rfl⟩;go_wp2_with fail;refine (au HE.out 4 2 ak ak ak).mono ?_;rintro e w' ⟨rfl,rfl⟩;go_wp2_with fail;refine (au HE.out 4 3 ak ak ak).mono ?_;rintro e w' ⟨rfl,rfl⟩;go_wp2_with fail;refine (au HE.out 4 6 ak ak ak).mono ?_;rintro e w' ⟨rfl,rfl⟩;go_wp2_with fail;refine (cG (E 4) _).mono ?_;exact ec

theorem rV (E:Nat->Addr) (w:World) (h:Ers w E):Calls Tryz.prog 60 #[.iface 195 (.pointer (some (E 5)))] w fun e w'=>e=.returned (.int .i64 11)/\w'=w:=by
 obtain⟨HE,v0,v1,v2,v3,v4,v5,v6,v7,v8,v9⟩:=gD;clear h;go_enter Tryz.func60,Tryz.ntmps60;go_wp2_with fail;refine (au HE.out 5 0 ak ak ak).mono ?_;rintro e w' ⟨rfl,rfl⟩;go_wp2_with fail;refine (au HE.out 5 9 ak ak ak).mono ?_;rintro e w' ⟨rfl,rfl⟩;go_wp2_with fail;refine (au HE.out 5 2 ak ak ak).mono ?_;rintro e w' ⟨rfl,rfl⟩;go_wp2_with fail;refine (au HE.out 5 3 ak ak ak).mono ?_;rintro e w' ⟨rfl,rfl⟩;go_wp2_with fail;refine (au HE.out 5 6 ak ak ak).mono ?_;rintro e w' ⟨rfl,rfl⟩;go_wp2_with fail;refine (au HE.out 5 4 ak ak ak).mono ?_;rintro e w' ⟨rfl,rfl⟩;go_wp2_with fail;refine (cG (E 5) _).mono ?_;exact ec

theorem rU (E:Nat->Addr) (w:World) (h:Ers w E):Calls Tryz.prog 60 #[.iface 195 (.pointer (some (E 6)))] w fun e w'=>e=.returned (.int .i64 7)/\w'=w:=by
 obtain⟨HE,v0,v1,v2,v3,v4,v5,v6,v7,v8,v9⟩:=gD;clear h;go_enter Tryz.func60,Tryz.ntmps60;go_wp2_with fail;refine (au HE.out 6 0 ak ak ak).mono ?_;rintro e w' ⟨rfl,rfl⟩;go_wp2_with fail;refine (au HE.out 6 9 ak ak ak).mono ?_;rintro e w' ⟨rfl,rfl⟩;go_wp2_with fail;refine (au HE.out 6 2 ak ak ak).mono ?_;rintro e w' ⟨rfl,rfl⟩;go_wp2_with fail;refine (au HE.out 6 3 ak ak ak).mono ?_;rintro e w' ⟨rfl,rfl⟩;go_wp2_with fail;refine (cG (E 6) _).mono ?_;exact ec

theorem rT (E:Nat->Addr) (w:World) (h:Ers w E):Calls Tryz.prog 60 #[.iface 195 (.pointer (some (E 7)))] w fun e w'=>e=.returned (.int .i64 11)/\w'=w:=by
 obtain⟨HE,v0,v1,v2,v3,v4,v5,v6,v7,v8,v9⟩:=gD;clear h;go_enter Tryz.func60,Tryz.ntmps60;go_wp2_with fail;refine (au HE.out 7 0 ak ak ak).mono ?_;rintro e w' ⟨rfl,rfl⟩;go_wp2_with fail;refine (au HE.out 7 9 ak ak ak).mono ?_;rintro e w' ⟨rfl,rfl⟩;go_wp2_with fail;refine (au HE.out 7 2 ak ak ak).mono ?_;rintro e w' ⟨rfl,rfl⟩;go_wp2_with fail;refine (au HE.out 7 3 ak ak ak).mono ?_;rintro e w' ⟨rfl,rfl⟩;go_wp2_with fail;refine (au HE.out 7 6 ak ak ak).mono ?_;rintro e w' ⟨rfl,rfl⟩;go_wp2_with fail;refine (au HE.out 7 4 ak ak ak).mono ?_;rintro e w' ⟨rfl,rfl⟩;go_wp2_with fail;refine (au HE.out 7 5 ak ak ak).mono ?_;rintro e w' ⟨rfl,rfl⟩;go_wp2_with fail;refine (cG (E 7) _).mono ?_;exact ec

theorem rS (E:Nat->Addr) (w:World) (h:Ers w E):Calls Tryz.prog 60 #[.iface 195 (.pointer (some (E 8)))] w fun e w'=>e=.returned (.int .i64 10)/\w'=w:=by
 obtain⟨HE,v0,v1,v2,v3,v4,v5,v6,v7,v8,v9⟩:=gD;clear h;go_enter Tryz.func60,Tryz.ntmps60;go_wp2_with fail;refine (au HE.out 8 0 ak ak ak).mono ?_;rintro e w' ⟨rfl,rfl⟩;go_wp2_with fail;refine (au HE.out 8 9 ak ak ak).mono ?_;rintro e w' ⟨rfl,rfl⟩;go_wp2_with fail;refine (au HE.out 8 2 ak ak ak).mono ?_;rintro e w' ⟨rfl,rfl⟩;go_wp2_with fail;refine (au HE.out 8 3 ak ak ak).mono ?_;rintro e w' ⟨rfl,rfl⟩;go_wp2_with fail;refine (au HE.out 8 6 ak ak ak).mono ?_;rintro e w' ⟨rfl,rfl⟩;go_wp2_with fail;refine (au HE.out 8 4 ak ak ak).mono ?_;rintro e w' ⟨rfl,rfl⟩;go_wp2_with fail;refine (au HE.out 8 5 ak ak ak).mono ?_;rintro e w' ⟨rfl,rfl⟩;go_wp2_with fail;refine (au HE.out 8 7 ak ak ak).mono ?_;rintro e w' ⟨rfl,rfl⟩;go_wp2_with fail;refine (cG (E 8) _).mono ?_;exact ec

theorem hE (E:Nat->Addr) (i:Nat) (w:World) (h:Ers w E) (hi:i<9):Calls Tryz.prog 60 #[.iface 195 (.pointer (some (E i)))] w fun e w'=>e=.returned (.int .i64 (cL i))/\w'=w:=by
 match i,hi with
 | 0,_=>exact r_ E w h
 | 1,_=>exact rZ E w h
 | 2,_=>exact rY E w h
 | 3,_=>exact rX E w h
 | 4,_=>exact rW E w h
 | 5,_=>exact rV E w h
 | 6,_=>exact rU E w h
 | 7,_=>exact rT E w h
 | 8,_=>exact rS E w h

theorem eQ (E:Nat->Addr) (i:Nat) (cc:Int) (hcc:cc=cL i) (w:World) (h:Ers w E) (hi:i<9):Calls Tryz.prog 31 #[.iface 195 (.pointer (some (E i)))] w fun e w'=>e=.returned (.agg #[.slice none 0 0,.slice none 0 0,.slice none 0 0,.slice none 0 0,.slice none 0 0,.int .i64 0,.string ⟨#[]⟩,.int .i64 cc])/\Below w.heap.size w w':=by
 have HE:=aa (h.below (aj w (.cells #[.slice none 0 0,.slice none 0 0,.slice none 0 0,.slice none 0 0,.slice none 0 0,.int .i64 0,.string ⟨#[]⟩,.int .i64 0] 38)));clear h;go_enter Tryz.func31,Tryz.ntmps31;go_wp2_with fail;refine (hE E i _ HE.out hi).mono ?_;rintro e w' ⟨rfl,rfl⟩;rw[<-hcc];clear hcc;go_wp2;exact bodyPost_ret (v:=.agg #[.slice none 0 0,.slice none 0 0,.slice none 0 0,.slice none 0 0,.slice none 0 0,.int .i64 0,.string ⟨#[]⟩,.int .i64 cc]) (by simp[results,Tryz.results31,go_sem]) rfl ⟨rfl,aj _ _⟩

end Rc
end Go.Proofs.YtdfgbboadbnodaaGreatDoor

namespace Go.Proofs.YtdfgbboadbnodaaGreatDoor
open Go.RowKit

theorem ji (s:ByteArray) (w:World):
  Calls Tryz.prog 107 #[.string s] w fun e w'=>e=.returned (.bool (decide (8000<s.size)))/\w=w':=by
 go_enter Tryz.func107,Tryz.ntmps107;go_wp2;go_ret;exact⟨by simp;omega,rfl⟩
theorem om (s:ByteArray) (w:World) (h:8000<s.size):
  Calls Tryz.prog 107 #[.string s] w fun e w'=>e=.returned (.bool true)/\w=w':=by
 have:=ji s w;rw[decide_eq_true h] at this;exact this
theorem o_ (s:ByteArray) (w:World) (h:¬8000<s.size):
  Calls Tryz.prog 107 #[.string s] w fun e w'=>e=.returned (.bool false)/\w=w':=by
 have:=ji s w;rw[decide_eq_false h] at this;exact this

end Go.Proofs.YtdfgbboadbnodaaGreatDoor

namespace Go.Proofs.YtdfgbboadbnodaaGreatDoor
open Go.RowKit
namespace Rc
open Mk

theorem Below.jq {B:Nat} {w w':World} (h:Below B w w'):Below B w w'.drew:=⟨h.os,h.tape,h.output,h.size,h.block⟩
def rM (c:Cl) (t:ByteArray) (p:Int):Prop:=(8000<t.size/\p=2)\/(¬8000<t.size/\¬bV c/\p=1)\/(¬8000<t.size/\bV c/\p=0)

theorem mC (d:Ad) (c:Cl) (t:ByteArray) (w:World) (hr:aL w d c.raw):
  Calls Tryz.prog 50 #[.agg #[.slice d.a1 d.l1 d.c1,.slice d.a2 d.l2 d.c2,.slice d.a3 d.l3 d.c3,.slice d.a4 d.l4 d.c4,.slice d.a5 d.l5 d.c5,.int .i64 c.now],.string t] w fun e w'=> ∃p:Int,e=.returned (.int .i64 p)/\rM c t p/\Below w.heap.size w w':=by
 obtain⟨HR,HB⟩:=eS;clear hr;by_cases hl:8000<t.size
 ·go_enter Tryz.func50,Tryz.ntmps50;go_wp2;go_ret;exact⟨2,rfl,.inl ⟨hl,rfl⟩,aj _ _⟩
 go_enter Tryz.func50,Tryz.ntmps50;go_wp2_with fail;refine (jB d c _ (HR.below (HB.trans ((aj _ _).mono HB.size)))).mono ?_;rintro e w1 ⟨r,rfl,hi,hb⟩;obtain⟨HA0,hbx⟩:=aJ hb;replace HB:=upB HB hbx;clear hb hbx HA0;have HI:=aa hi;clear hi;cases r
 ·go_wp2;go_ret;exact⟨1,rfl,.inr (.inl ⟨hl,fun h=>(by have:=HI.2 h;cases this),rfl⟩),HB.out⟩
 ·go_wp2;go_ret;exact⟨0,rfl,.inr (.inr ⟨hl,HI.1 bA,rfl⟩),HB.out⟩

theorem eN:(Tryz.prog.info? 56).map (fun i=>(i.zero,i.size,i.bytes))=some (some (.agg #[.string ⟨#[]⟩,.string ⟨#[]⟩,.int .i64 0,.int .i64 0,.int .i64 0,.bool false,.slice none 0 0]),7,88):=by kernel_rfl
def ndZ:Nd:=⟨⟨#[]⟩,⟨#[]⟩,0,0,0,false,[]⟩

theorem rf {w:World} {g len:Nat} (h:w.heap[g]?=some (.cells (madeCells #[.string ⟨#[]⟩,.string ⟨#[]⟩,.int .i64 0,.int .i64 0,.int .i64 0,.bool false,.slice none 0 0] (len*7)) 56 (0,0))) (hl:len<=1048576) (S:Nat->Prop) (hS:S g):
  ax w (some ⟨g,0,none⟩) len len 7 56 ((sL len ndZ).map ndF) S:=by
 refine⟨by simp,sy _,by omega,.inr ⟨g,_,fun _ _=>0,rfl,h,hS,?_,?_,?_⟩⟩
 ·exact iT
 ·intro j r hr i f hi;rw[sK] at hr;obtain⟨x,hx,rfl⟩:=sF.1 hr;have hj:j<len:=by have:=(sv.1 hx).1;simpa using this
  obtain rfl:x=ndZ:=by
   exact dF
  have him:i<7:=(sv.1 hi).1;have hlt:j*7+i<len*7:=af
  have hcell:(madeCells #[.string ⟨#[]⟩,.string ⟨#[]⟩,.int .i64 0,.int .i64 0,.int .i64 0,.bool false,.slice none 0 0] (len*7))[j*7+i]?=some (#[.string ⟨#[]⟩,.string ⟨#[]⟩,.int .i64 0,.int .i64 0,.int .i64 0,.bool false,.slice none 0 0][i]!):=by
   unfold madeCells;rw[tZ,tV];rw[if_pos hlt];have:(j*7+i) % 7=i:=af
   simp[this]
  refine⟨_,hcell,?_⟩;rcases i with _|_|_|_|_|_|_|i
  ·cases hi;exact⟨rfl,by decide⟩
  ·cases hi;exact⟨rfl,by decide⟩
  ·cases hi;exact rfl
  ·cases hi;exact rfl
  ·cases hi;exact rfl
  ·cases hi;exact rfl
  ·cases hi;exact⟨none,0,0,rfl,rfl,sy _,by decide,fun j x hx=>by simp[ndZ] at hx,.inl rfl⟩
  ·omega
 ·intro j r i zs j' r' i' zs' hr hi hz;exfalso;rw[sK] at hr;obtain⟨x,hx,rfl⟩:=sF.1 hr;obtain rfl:x=ndZ:=by
   exact dF
  have him:i<7:=(sv.1 hi).1;rcases i with _|_|_|_|_|_|_|i
  ·cases hi
  ·cases hi
  ·cases hi
  ·cases hi
  ·cases hi
  ·cases hi
  ·cases hi;exact hz rfl
  ·omega

theorem mu (a:Option Addr) (len cap:Nat) (xs:List Nd) (w:World) (hr:aA w a len cap 7 (xs.map ndF)) (hl:len<=1048576) (hf:∀(j:Nat) x,xs[j]?=some x->x.zs.length<=1048576):
  Calls Tryz.prog 25 #[.slice a len cap] w fun e w'=>e=.returned (.slice (some ⟨w.heap.size,0,none⟩) len len)/\ax w' (some ⟨w.heap.size,0,none⟩) len len 7 56 (xs.map ndF) (fun k=>w.heap.size<=k)/\Below w.heap.size w w':=by
 obtain⟨HR,hvl⟩:=dD;have HF:=aa hf;clear hr hf;obtain⟨i0,hi,hz0,hz1,hz2⟩:=info_parts eN;go_enter Tryz.func25,Tryz.ntmps25;go_wp2_with (at_make;refine wpList_make_full _ rfl _ _ 30 rfl w.heap.size 56 i0 (.agg #[.string ⟨#[]⟩,.string ⟨#[]⟩,.int .i64 0,.int .i64 0,.int .i64 0,.bool false,.slice none 0 0]) 7 Tryz.underlying30 hi hz0 hz1 _ _ _ _ len rfl rfl af af fq fc (sy _) ?_);intro w1 hown hgrow;obtain⟨hnx1,HB⟩:=iH;have hc1:w1.heap[w.heap.size]?=some (.cells (madeCells #[.string ⟨#[]⟩,.string ⟨#[]⟩,.int .i64 0,.int .i64 0,.int .i64 0,.bool false,.slice none 0 0] (len*7)) 56 (0,0)):=by
  obtain⟨h1,h2⟩:=hown;rcases h2 with ⟨h3,_⟩|⟨g',cap',cur,hv,hB,hh,_,_,hsz,htk⟩
  ·cases h3
  ·simp only[tU,tn,Addr.mk.injEq] at hv;obtain⟨⟨rfl,_,_⟩,_,rfl⟩:=hv;rw[sE (by simp[hsz])] at htk;have:cur=madeCells #[.string ⟨#[]⟩,.string ⟨#[]⟩,.int .i64 0,.int .i64 0,.int .i64 0,.bool false,.slice none 0 0] (len*7):=by apply Array.ext';simpa using htk
   rw[this] at hh;simpa using hh
 have HP:Hid (ax w1 (some ⟨w.heap.size,0,none⟩) len len 7 56 ((xs.take 0++(sL len ndZ).drop 0).map ndF) (fun k=>w.heap.size<=k)):=by
  have:=rf hc1 hl (fun k=>w.heap.size<=k) (sy _);simpa[Hid] using this
 have hZl:xs.length=(sL len ndZ).length:=by simpa using hvl
 clear hown hgrow hi hz0 hz1 hz2 hnx1 hc1;go_wp2;go_loopw [4] (fun i wr=> ∃k:Nat,k<=len/\i=.int .i64 k/\Hid (ax wr (some ⟨w.heap.size,0,none⟩) len len 7 56 ((xs.take k++(sL len ndZ).drop k).map ndF) (fun k=>w.heap.size<=k))/\Hid (Below w.heap.size w wr)) (fun i _=>len - (intOf i).toNat);case atStart=>exact⟨0,by omega,rfl,HP,HB⟩
 case round=>
  obtain⟨k,hk,rfl,HP,HB⟩:=hrel;by_cases hlt:k<len
  ·obtain⟨b,o,v,rfl,hb,hv,hat⟩:=bq (HR.below HB.out) hlt;obtain⟨va,vl,vc,hvr,z0,z1,c0,c1,c2,c3,c4,c5,c6⟩:=aK hat;have HV:=aa hv;have Hz0:=aa z0;have Hz1:=aa z1;obtain⟨HT,hvl2,hvz,HVZ⟩:=mO;clear hvr hvz;clear hat hv z0 z1;have hzk:((xs.take k++(sL len ndZ).drop k).map ndF)[k]?=some (ndF ndZ):=by
    exact fC
   obtain⟨g,hg,hs⟩:=HP.st (az.refl _ _) hzk;cases hg;have HS:=aa hs;clear hs hzk HP;go_wp2_with fail;refine (jz v.n v.z v.c v.s v.u v.d va vl vc v.zs _ HT.out hvl2).mono ?_;rintro e w2 ⟨rfl,hG,hb2⟩;have HB2:=upB HB hb2;have h1:StJ w.heap.size 7 56 (fun k=>w.heap.size<=k) (fun k=>wr.heap.size<=k) wr w2 ((xs.take k++(sL len ndZ).drop k).map ndF) k [.s ndZ.n,.s ndZ.z,.i ndZ.c,.i ndZ.s,.i ndZ.u,.b ndZ.d,.l ndZ.zs]:=HS.fresh hb2;have hL:jr w2 (wr.heap.size+1+1+1) (fun k=>w.heap.size<=k) w.heap.size v.zs (.slice (some ⟨wr.heap.size+1+1+1,0,none⟩) vl vl):=by
    exact jM
   have HL:=aa hL;clear hG hL;obtain⟨q0,e0⟩:=h1.cell (i:=0) rfl;have f0:=h1.bJ (k*7);obtain⟨q1,e1⟩:=h1.cell (i:=1) rfl;have f1:=h1.bJ (k*7+1);obtain⟨q2,e2⟩:=h1.cell (i:=2) rfl;have f2:=h1.bJ (k*7+2);obtain⟨q3,e3⟩:=h1.cell (i:=3) rfl;have f3:=h1.bJ (k*7+3);obtain⟨q4,e4⟩:=h1.cell (i:=4) rfl;have f4:=h1.bJ (k*7+4);obtain⟨q5,e5⟩:=h1.cell (i:=5) rfl;have f5:=h1.bJ (k*7+5);obtain⟨q6,e6⟩:=h1.cell (i:=6) rfl;have f6:=h1.bJ (k*7+6);rw[tK] at e0;have HZ:=aa ((((((((h1).bZ (i:=0) rfl v.n Hz0.out).bZ (i:=1) rfl v.z Hz1.out).eF (i:=2) rfl v.c).eF (i:=3) rfl v.s).eF (i:=4) rfl v.u).eG (i:=5) rfl v.d).qT (i:=6) rfl v.zs (fun _=>by show wr.heap.size<=_;omega) (Fv.Own.aQ (u:=.l v.zs) (Fv.Own.aQ (u:=.l v.zs) (Fv.Own.aQ (u:=.l v.zs) (Fv.Own.aQ (u:=.l v.zs) (Fv.Own.aQ (u:=.l v.zs) (Fv.Own.aQ (u:=.l v.zs) (HL.out))))))));clear h1 hb2 c0 c1 c2 c3 c4 c5 c6 hb;go_wp2_with fail;refine⟨⟨k+1,by omega,by go_num,?_,ag (sy _) (ag (sy _) (ag (sy _) (ag (sy _) (ag (sy _) (ag (sy _) (ag (sy _) (HB2.out)))))))⟩,by simp[intOf];omega⟩;obtain⟨⟨cur,H,h2,-⟩,-,-⟩:=HZ.out;have h3:(((xs.take k++(sL len ndZ).drop k).map ndF).set k (ndF v))=(xs.take (k+1)++(sL len ndZ).drop (k+1)).map ndF:=by
    rw[<-List.map_set,bn hZl HV.out]
   have h4:b_ _ w.heap.size 7 56 (((xs.take k++(sL len ndZ).drop k).map ndF).set k (ndF v)) (fun k=>w.heap.size<=k) cur H:=h2;exact iU
  ·exact i_

theorem kf:(Tryz.prog.info? 106).map (fun i=>(i.zero,i.size,i.bytes))=some (some (.agg #[.string ⟨#[]⟩,.bool false,.bool false,.string ⟨#[]⟩]),4,40):=by kernel_rfl
def kdZ:Kd:=⟨⟨#[]⟩,false,false,⟨#[]⟩⟩

theorem rh {w:World} {g len:Nat} (h:w.heap[g]?=some (.cells (madeCells #[.string ⟨#[]⟩,.bool false,.bool false,.string ⟨#[]⟩] (len*4)) 106 (0,0))) (hl:len<=1048576) (S:Nat->Prop) (hS:S g):
  ax w (some ⟨g,0,none⟩) len len 4 106 ((sL len kdZ).map kdF) S:=by
 refine⟨by simp,sy _,by omega,.inr ⟨g,_,fun _ _=>0,rfl,h,hS,?_,?_,?_⟩⟩
 ·exact iT
 ·intro j r hr i f hi;rw[sK] at hr;obtain⟨x,hx,rfl⟩:=sF.1 hr;have hj:j<len:=by have:=(sv.1 hx).1;simpa using this
  obtain rfl:x=kdZ:=by
   exact dF
  have him:i<4:=(sv.1 hi).1;have hlt:j*4+i<len*4:=af
  have hcell:(madeCells #[.string ⟨#[]⟩,.bool false,.bool false,.string ⟨#[]⟩] (len*4))[j*4+i]?=some (#[.string ⟨#[]⟩,.bool false,.bool false,.string ⟨#[]⟩][i]!):=by
   unfold madeCells;rw[tZ,tV];rw[if_pos hlt];have:(j*4+i) % 4=i:=af
   simp[this]
  refine⟨_,hcell,?_⟩;rcases i with _|_|_|_|i
  ·cases hi;exact⟨rfl,by decide⟩
  ·cases hi;exact rfl
  ·cases hi;exact rfl
  ·cases hi;exact⟨rfl,by decide⟩
  ·omega
 ·intro j r i zs j' r' i' zs' hr hi hz;exfalso;rw[sK] at hr;obtain⟨x,hx,rfl⟩:=sF.1 hr;obtain rfl:x=kdZ:=by
   exact dF
  have him:i<4:=(sv.1 hi).1;rcases i with _|_|_|_|i
  ·cases hi
  ·cases hi
  ·cases hi
  ·cases hi
  ·omega

theorem mv (a:Option Addr) (len cap:Nat) (xs:List Kd) (w:World) (hr:aA w a len cap 4 (xs.map kdF)) (hl:len<=1048576):
  Calls Tryz.prog 26 #[.slice a len cap] w fun e w'=>e=.returned (.slice (some ⟨w.heap.size,0,none⟩) len len)/\ax w' (some ⟨w.heap.size,0,none⟩) len len 4 106 (xs.map kdF) (fun k=>w.heap.size<=k)/\Below w.heap.size w w':=by
 obtain⟨HR,hvl⟩:=dD;skip;clear hr;obtain⟨i0,hi,hz0,hz1,hz2⟩:=info_parts kf;go_enter Tryz.func26,Tryz.ntmps26;go_wp2_with (at_make;refine wpList_make_full _ rfl _ _ 31 rfl w.heap.size 106 i0 (.agg #[.string ⟨#[]⟩,.bool false,.bool false,.string ⟨#[]⟩]) 4 Tryz.underlying31 hi hz0 hz1 _ _ _ _ len rfl rfl af af fq fc (sy _) ?_);intro w1 hown hgrow;obtain⟨hnx1,HB⟩:=iH;have hc1:w1.heap[w.heap.size]?=some (.cells (madeCells #[.string ⟨#[]⟩,.bool false,.bool false,.string ⟨#[]⟩] (len*4)) 106 (0,0)):=by
  obtain⟨h1,h2⟩:=hown;rcases h2 with ⟨h3,_⟩|⟨g',cap',cur,hv,hB,hh,_,_,hsz,htk⟩
  ·cases h3
  ·simp only[tU,tn,Addr.mk.injEq] at hv;obtain⟨⟨rfl,_,_⟩,_,rfl⟩:=hv;rw[sE (by simp[hsz])] at htk;have:cur=madeCells #[.string ⟨#[]⟩,.bool false,.bool false,.string ⟨#[]⟩] (len*4):=by apply Array.ext';simpa using htk
   rw[this] at hh;simpa using hh
 have HP:Hid (ax w1 (some ⟨w.heap.size,0,none⟩) len len 4 106 ((xs.take 0++(sL len kdZ).drop 0).map kdF) (fun k=>w.heap.size<=k)):=by
  have:=rh hc1 hl (fun k=>w.heap.size<=k) (sy _);simpa[Hid] using this
 have hZl:xs.length=(sL len kdZ).length:=by simpa using hvl
 clear hown hgrow hi hz0 hz1 hz2 hnx1 hc1;go_wp2;go_loopw [4] (fun i wr=> ∃k:Nat,k<=len/\i=.int .i64 k/\Hid (ax wr (some ⟨w.heap.size,0,none⟩) len len 4 106 ((xs.take k++(sL len kdZ).drop k).map kdF) (fun k=>w.heap.size<=k))/\Hid (Below w.heap.size w wr)) (fun i _=>len - (intOf i).toNat);case atStart=>exact⟨0,by omega,rfl,HP,HB⟩
 case round=>
  obtain⟨k,hk,rfl,HP,HB⟩:=hrel;by_cases hlt:k<len
  ·obtain⟨b,o,v,rfl,hb,hv,hat⟩:=dH (HR.below HB.out) hlt;obtain⟨z0,z3,c0,c1,c2,c3⟩:=bl hat;have HV:=aa hv;have Hz0:=aa z0;have Hz3:=aa z3;clear hat hv z0 z3;have hzk:((xs.take k++(sL len kdZ).drop k).map kdF)[k]?=some (kdF kdZ):=by
    exact fC
   obtain⟨g,hg,hs⟩:=HP.st (az.refl _ _) hzk;cases hg;have HS:=aa hs;clear hs hzk HP;go_wp2_with fail;refine (hQ v.n v.x v.y v.z _).mono ?_;rintro e w2 ⟨rfl,hb2⟩;have HB2:=upB HB hb2;have h1:StJ w.heap.size 4 106 (fun k=>w.heap.size<=k) (fun k=>wr.heap.size<=k) wr w2 ((xs.take k++(sL len kdZ).drop k).map kdF) k [.s kdZ.n,.b kdZ.x,.b kdZ.y,.s kdZ.z]:=HS.fresh hb2;obtain⟨q0,e0⟩:=h1.cell (i:=0) rfl;have f0:=h1.bJ (k*4);obtain⟨q1,e1⟩:=h1.cell (i:=1) rfl;have f1:=h1.bJ (k*4+1);obtain⟨q2,e2⟩:=h1.cell (i:=2) rfl;have f2:=h1.bJ (k*4+2);obtain⟨q3,e3⟩:=h1.cell (i:=3) rfl;have f3:=h1.bJ (k*4+3);rw[tK] at e0;have HZ:=aa (((((h1).bZ (i:=0) rfl v.n Hz0.out).eG (i:=1) rfl v.x).eG (i:=2) rfl v.y).bZ (i:=3) rfl v.z Hz3.out);clear h1 hb2 c0 c1 c2 c3 hb;go_wp2_with fail;refine⟨⟨k+1,by omega,by go_num,?_,ag (sy _) (ag (sy _) (ag (sy _) (ag (sy _) (HB2.out))))⟩,by simp[intOf];omega⟩;obtain⟨⟨cur,H,h2,-⟩,-,-⟩:=HZ.out;have h3:(((xs.take k++(sL len kdZ).drop k).map kdF).set k (kdF v))=(xs.take (k+1)++(sL len kdZ).drop (k+1)).map kdF:=by
    rw[<-List.map_set,bn hZl HV.out]
   have h4:b_ _ w.heap.size 4 106 (((xs.take k++(sL len kdZ).drop k).map kdF).set k (kdF v)) (fun k=>w.heap.size<=k) cur H:=h2;exact iU
  ·exact i_

theorem kd:(Tryz.prog.info? 101).map (fun i=>(i.zero,i.size,i.bytes))=some (some (.agg #[.string ⟨#[]⟩,.int .i64 0,.string ⟨#[]⟩,.string ⟨#[]⟩,.bool false,.string ⟨#[]⟩,.bool false,.slice none 0 0]),8,112):=by kernel_rfl
def vdZ:Vd:=⟨⟨#[]⟩,0,⟨#[]⟩,⟨#[]⟩,false,⟨#[]⟩,false,[]⟩

theorem rb {w:World} {g len:Nat} (h:w.heap[g]?=some (.cells (madeCells #[.string ⟨#[]⟩,.int .i64 0,.string ⟨#[]⟩,.string ⟨#[]⟩,.bool false,.string ⟨#[]⟩,.bool false,.slice none 0 0] (len*8)) 101 (0,0))) (hl:len<=1048576) (S:Nat->Prop) (hS:S g):
  ax w (some ⟨g,0,none⟩) len len 8 101 ((sL len vdZ).map vdF) S:=by
 refine⟨by simp,sy _,by omega,.inr ⟨g,_,fun _ _=>0,rfl,h,hS,?_,?_,?_⟩⟩
 ·exact iT
 ·intro j r hr i f hi;rw[sK] at hr;obtain⟨x,hx,rfl⟩:=sF.1 hr;have hj:j<len:=by have:=(sv.1 hx).1;simpa using this
  obtain rfl:x=vdZ:=by
   exact dF
  have him:i<8:=(sv.1 hi).1;have hlt:j*8+i<len*8:=af
  have hcell:(madeCells #[.string ⟨#[]⟩,.int .i64 0,.string ⟨#[]⟩,.string ⟨#[]⟩,.bool false,.string ⟨#[]⟩,.bool false,.slice none 0 0] (len*8))[j*8+i]?=some (#[.string ⟨#[]⟩,.int .i64 0,.string ⟨#[]⟩,.string ⟨#[]⟩,.bool false,.string ⟨#[]⟩,.bool false,.slice none 0 0][i]!):=by
   unfold madeCells;rw[tZ,tV];rw[if_pos hlt];have:(j*8+i) % 8=i:=af
   simp[this]
  refine⟨_,hcell,?_⟩;rcases i with _|_|_|_|_|_|_|_|i
  ·cases hi;exact⟨rfl,by decide⟩
  ·cases hi;exact rfl
  ·cases hi;exact⟨rfl,by decide⟩
  ·cases hi;exact⟨rfl,by decide⟩
  ·cases hi;exact rfl
  ·cases hi;exact⟨rfl,by decide⟩
  ·cases hi;exact rfl
  ·cases hi;exact⟨none,0,0,rfl,rfl,sy _,by decide,fun j x hx=>by simp[vdZ] at hx,.inl rfl⟩
  ·omega
 ·intro j r i zs j' r' i' zs' hr hi hz;exfalso;rw[sK] at hr;obtain⟨x,hx,rfl⟩:=sF.1 hr;obtain rfl:x=vdZ:=by
   exact dF
  have him:i<8:=(sv.1 hi).1;rcases i with _|_|_|_|_|_|_|_|i
  ·cases hi
  ·cases hi
  ·cases hi
  ·cases hi
  ·cases hi
  ·cases hi
  ·cases hi
  ·cases hi;exact hz rfl
  ·omega

theorem mq (a:Option Addr) (len cap:Nat) (xs:List Vd) (w:World) (hr:aA w a len cap 8 (xs.map vdF)) (hl:len<=1048576) (hf:∀(j:Nat) x,xs[j]?=some x->x.zs.length<=1048576):
  Calls Tryz.prog 27 #[.slice a len cap] w fun e w'=>e=.returned (.slice (some ⟨w.heap.size,0,none⟩) len len)/\ax w' (some ⟨w.heap.size,0,none⟩) len len 8 101 (xs.map vdF) (fun k=>w.heap.size<=k)/\Below w.heap.size w w':=by
 obtain⟨HR,hvl⟩:=dD;have HF:=aa hf;clear hr hf;obtain⟨i0,hi,hz0,hz1,hz2⟩:=info_parts kd;go_enter Tryz.func27,Tryz.ntmps27;go_wp2_with (at_make;refine wpList_make_full _ rfl _ _ 32 rfl w.heap.size 101 i0 (.agg #[.string ⟨#[]⟩,.int .i64 0,.string ⟨#[]⟩,.string ⟨#[]⟩,.bool false,.string ⟨#[]⟩,.bool false,.slice none 0 0]) 8 Tryz.underlying32 hi hz0 hz1 _ _ _ _ len rfl rfl af af fq fc (sy _) ?_);intro w1 hown hgrow;obtain⟨hnx1,HB⟩:=iH;have hc1:w1.heap[w.heap.size]?=some (.cells (madeCells #[.string ⟨#[]⟩,.int .i64 0,.string ⟨#[]⟩,.string ⟨#[]⟩,.bool false,.string ⟨#[]⟩,.bool false,.slice none 0 0] (len*8)) 101 (0,0)):=by
  obtain⟨h1,h2⟩:=hown;rcases h2 with ⟨h3,_⟩|⟨g',cap',cur,hv,hB,hh,_,_,hsz,htk⟩
  ·cases h3
  ·simp only[tU,tn,Addr.mk.injEq] at hv;obtain⟨⟨rfl,_,_⟩,_,rfl⟩:=hv;rw[sE (by simp[hsz])] at htk;have:cur=madeCells #[.string ⟨#[]⟩,.int .i64 0,.string ⟨#[]⟩,.string ⟨#[]⟩,.bool false,.string ⟨#[]⟩,.bool false,.slice none 0 0] (len*8):=by apply Array.ext';simpa using htk
   rw[this] at hh;simpa using hh
 have HP:Hid (ax w1 (some ⟨w.heap.size,0,none⟩) len len 8 101 ((xs.take 0++(sL len vdZ).drop 0).map vdF) (fun k=>w.heap.size<=k)):=by
  have:=rb hc1 hl (fun k=>w.heap.size<=k) (sy _);simpa[Hid] using this
 have hZl:xs.length=(sL len vdZ).length:=by simpa using hvl
 clear hown hgrow hi hz0 hz1 hz2 hnx1 hc1;go_wp2;go_loopw [4] (fun i wr=> ∃k:Nat,k<=len/\i=.int .i64 k/\Hid (ax wr (some ⟨w.heap.size,0,none⟩) len len 8 101 ((xs.take k++(sL len vdZ).drop k).map vdF) (fun k=>w.heap.size<=k))/\Hid (Below w.heap.size w wr)) (fun i _=>len - (intOf i).toNat);case atStart=>exact⟨0,by omega,rfl,HP,HB⟩
 case round=>
  obtain⟨k,hk,rfl,HP,HB⟩:=hrel;by_cases hlt:k<len
  ·obtain⟨b,o,v,rfl,hb,hv,hat⟩:=bk (HR.below HB.out) hlt;obtain⟨va,vl,vc,hvr,z0,z2,z3,z5,c0,c1,c2,c3,c4,c5,c6,c7⟩:=aE hat;have HV:=aa hv;have Hz0:=aa z0;have Hz2:=aa z2;have Hz3:=aa z3;have Hz5:=aa z5;obtain⟨HT,hvl2,hvz,HVZ⟩:=mO;clear hvr hvz;clear hat hv z0 z2 z3 z5;have hzk:((xs.take k++(sL len vdZ).drop k).map vdF)[k]?=some (vdF vdZ):=by
    exact fC
   obtain⟨g,hg,hs⟩:=HP.st (az.refl _ _) hzk;cases hg;have HS:=aa hs;clear hs hzk HP;go_wp2_with fail;refine (gw v.n v.c v.z v.k v.x v.m v.y va vl vc v.zs _ HT.out hvl2).mono ?_;rintro e w2 ⟨rfl,hG,hb2⟩;have HB2:=upB HB hb2;have h1:StJ w.heap.size 8 101 (fun k=>w.heap.size<=k) (fun k=>wr.heap.size<=k) wr w2 ((xs.take k++(sL len vdZ).drop k).map vdF) k [.s vdZ.n,.i vdZ.c,.s vdZ.z,.s vdZ.k,.b vdZ.x,.s vdZ.m,.b vdZ.y,.l vdZ.zs]:=HS.fresh hb2;have hL:jr w2 (wr.heap.size+1+1+1) (fun k=>w.heap.size<=k) w.heap.size v.zs (.slice (some ⟨wr.heap.size+1+1+1,0,none⟩) vl vl):=by
    exact jM
   have HL:=aa hL;clear hG hL;obtain⟨q0,e0⟩:=h1.cell (i:=0) rfl;have f0:=h1.bJ (k*8);obtain⟨q1,e1⟩:=h1.cell (i:=1) rfl;have f1:=h1.bJ (k*8+1);obtain⟨q2,e2⟩:=h1.cell (i:=2) rfl;have f2:=h1.bJ (k*8+2);obtain⟨q3,e3⟩:=h1.cell (i:=3) rfl;have f3:=h1.bJ (k*8+3);obtain⟨q4,e4⟩:=h1.cell (i:=4) rfl;have f4:=h1.bJ (k*8+4);obtain⟨q5,e5⟩:=h1.cell (i:=5) rfl;have f5:=h1.bJ (k*8+5);obtain⟨q6,e6⟩:=h1.cell (i:=6) rfl;have f6:=h1.bJ (k*8+6);obtain⟨q7,e7⟩:=h1.cell (i:=7) rfl;have f7:=h1.bJ (k*8+7);rw[tK] at e0;have HZ:=aa (((((((((h1).bZ (i:=0) rfl v.n Hz0.out).eF (i:=1) rfl v.c).bZ (i:=2) rfl v.z Hz2.out).bZ (i:=3) rfl v.k Hz3.out).eG (i:=4) rfl v.x).bZ (i:=5) rfl v.m Hz5.out).eG (i:=6) rfl v.y).qT (i:=7) rfl v.zs (fun _=>by show wr.heap.size<=_;omega) (Fv.Own.aQ (u:=.l v.zs) (Fv.Own.aQ (u:=.l v.zs) (Fv.Own.aQ (u:=.l v.zs) (Fv.Own.aQ (u:=.l v.zs) (Fv.Own.aQ (u:=.l v.zs) (Fv.Own.aQ (u:=.l v.zs) (Fv.Own.aQ (u:=.l v.zs) (HL.out)))))))));clear h1 hb2 c0 c1 c2 c3 c4 c5 c6 c7 hb;go_wp2_with fail;refine⟨⟨k+1,by omega,by go_num,?_,ag (sy _) (ag (sy _) (ag (sy _) (ag (sy _) (ag (sy _) (ag (sy _) (ag (sy _) (ag (sy _) (HB2.out))))))))⟩,by simp[intOf];omega⟩;obtain⟨⟨cur,H,h2,-⟩,-,-⟩:=HZ.out;have h3:(((xs.take k++(sL len vdZ).drop k).map vdF).set k (vdF v))=(xs.take (k+1)++(sL len vdZ).drop (k+1)).map vdF:=by
    rw[<-List.map_set,bn hZl HV.out]
   have h4:b_ _ w.heap.size 8 101 (((xs.take k++(sL len vdZ).drop k).map vdF).set k (vdF v)) (fun k=>w.heap.size<=k) cur H:=h2;exact iU
  ·exact i_

theorem kb:(Tryz.prog.info? 109).map (fun i=>(i.zero,i.size,i.bytes))=some (some (.agg #[.string ⟨#[]⟩,.int .i64 0,.string ⟨#[]⟩,.bool false,.string ⟨#[]⟩]),5,64):=by kernel_rfl
def xdZ:Xd:=⟨⟨#[]⟩,0,⟨#[]⟩,false,⟨#[]⟩⟩

theorem ra {w:World} {g len:Nat} (h:w.heap[g]?=some (.cells (madeCells #[.string ⟨#[]⟩,.int .i64 0,.string ⟨#[]⟩,.bool false,.string ⟨#[]⟩] (len*5)) 109 (0,0))) (hl:len<=1048576) (S:Nat->Prop) (hS:S g):
  ax w (some ⟨g,0,none⟩) len len 5 109 ((sL len xdZ).map xdF) S:=by
 refine⟨by simp,sy _,by omega,.inr ⟨g,_,fun _ _=>0,rfl,h,hS,?_,?_,?_⟩⟩
 ·exact iT
 ·intro j r hr i f hi;rw[sK] at hr;obtain⟨x,hx,rfl⟩:=sF.1 hr;have hj:j<len:=by have:=(sv.1 hx).1;simpa using this
  obtain rfl:x=xdZ:=by
   exact dF
  have him:i<5:=(sv.1 hi).1;have hlt:j*5+i<len*5:=af
  have hcell:(madeCells #[.string ⟨#[]⟩,.int .i64 0,.string ⟨#[]⟩,.bool false,.string ⟨#[]⟩] (len*5))[j*5+i]?=some (#[.string ⟨#[]⟩,.int .i64 0,.string ⟨#[]⟩,.bool false,.string ⟨#[]⟩][i]!):=by
   unfold madeCells;rw[tZ,tV];rw[if_pos hlt];have:(j*5+i) % 5=i:=af
   simp[this]
  refine⟨_,hcell,?_⟩;rcases i with _|_|_|_|_|i
  ·cases hi;exact⟨rfl,by decide⟩
  ·cases hi;exact rfl
  ·cases hi;exact⟨rfl,by decide⟩
  ·cases hi;exact rfl
  ·cases hi;exact⟨rfl,by decide⟩
  ·omega
 ·intro j r i zs j' r' i' zs' hr hi hz;exfalso;rw[sK] at hr;obtain⟨x,hx,rfl⟩:=sF.1 hr;obtain rfl:x=xdZ:=by
   exact dF
  have him:i<5:=(sv.1 hi).1;rcases i with _|_|_|_|_|i
  ·cases hi
  ·cases hi
  ·cases hi
  ·cases hi
  ·cases hi
  ·omega

theorem mo (a:Option Addr) (len cap:Nat) (xs:List Xd) (w:World) (hr:aA w a len cap 5 (xs.map xdF)) (hl:len<=1048576):
  Calls Tryz.prog 28 #[.slice a len cap] w fun e w'=>e=.returned (.slice (some ⟨w.heap.size,0,none⟩) len len)/\ax w' (some ⟨w.heap.size,0,none⟩) len len 5 109 (xs.map xdF) (fun k=>w.heap.size<=k)/\Below w.heap.size w w':=by
 obtain⟨HR,hvl⟩:=dD;skip;clear hr;obtain⟨i0,hi,hz0,hz1,hz2⟩:=info_parts kb;go_enter Tryz.func28,Tryz.ntmps28;go_wp2_with (at_make;refine wpList_make_full _ rfl _ _ 33 rfl w.heap.size 109 i0 (.agg #[.string ⟨#[]⟩,.int .i64 0,.string ⟨#[]⟩,.bool false,.string ⟨#[]⟩]) 5 Tryz.underlying33 hi hz0 hz1 _ _ _ _ len rfl rfl af af fq fc (sy _) ?_);intro w1 hown hgrow;obtain⟨hnx1,HB⟩:=iH;have hc1:w1.heap[w.heap.size]?=some (.cells (madeCells #[.string ⟨#[]⟩,.int .i64 0,.string ⟨#[]⟩,.bool false,.string ⟨#[]⟩] (len*5)) 109 (0,0)):=by
  obtain⟨h1,h2⟩:=hown;rcases h2 with ⟨h3,_⟩|⟨g',cap',cur,hv,hB,hh,_,_,hsz,htk⟩
  ·cases h3
  ·simp only[tU,tn,Addr.mk.injEq] at hv;obtain⟨⟨rfl,_,_⟩,_,rfl⟩:=hv;rw[sE (by simp[hsz])] at htk;have:cur=madeCells #[.string ⟨#[]⟩,.int .i64 0,.string ⟨#[]⟩,.bool false,.string ⟨#[]⟩] (len*5):=by apply Array.ext';simpa using htk
   rw[this] at hh;simpa using hh
 have HP:Hid (ax w1 (some ⟨w.heap.size,0,none⟩) len len 5 109 ((xs.take 0++(sL len xdZ).drop 0).map xdF) (fun k=>w.heap.size<=k)):=by
  have:=ra hc1 hl (fun k=>w.heap.size<=k) (sy _);simpa[Hid] using this
 have hZl:xs.length=(sL len xdZ).length:=by simpa using hvl
 clear hown hgrow hi hz0 hz1 hz2 hnx1 hc1;go_wp2;go_loopw [4] (fun i wr=> ∃k:Nat,k<=len/\i=.int .i64 k/\Hid (ax wr (some ⟨w.heap.size,0,none⟩) len len 5 109 ((xs.take k++(sL len xdZ).drop k).map xdF) (fun k=>w.heap.size<=k))/\Hid (Below w.heap.size w wr)) (fun i _=>len - (intOf i).toNat);case atStart=>exact⟨0,by omega,rfl,HP,HB⟩
 case round=>
  obtain⟨k,hk,rfl,HP,HB⟩:=hrel;by_cases hlt:k<len
  ·obtain⟨b,o,v,rfl,hb,hv,hat⟩:=cD (HR.below HB.out) hlt;obtain⟨z0,z2,z4,c0,c1,c2,c3,c4⟩:=aU hat;have HV:=aa hv;have Hz0:=aa z0;have Hz2:=aa z2;have Hz4:=aa z4;clear hat hv z0 z2 z4;have hzk:((xs.take k++(sL len xdZ).drop k).map xdF)[k]?=some (xdF xdZ):=by
    exact fC
   obtain⟨g,hg,hs⟩:=HP.st (az.refl _ _) hzk;cases hg;have HS:=aa hs;clear hs hzk HP;go_wp2_with fail;refine (hU v.n v.z v.k v.x v.v _).mono ?_;rintro e w2 ⟨rfl,hb2⟩;have HB2:=upB HB hb2;have h1:StJ w.heap.size 5 109 (fun k=>w.heap.size<=k) (fun k=>wr.heap.size<=k) wr w2 ((xs.take k++(sL len xdZ).drop k).map xdF) k [.s xdZ.n,.i xdZ.z,.s xdZ.k,.b xdZ.x,.s xdZ.v]:=HS.fresh hb2;obtain⟨q0,e0⟩:=h1.cell (i:=0) rfl;have f0:=h1.bJ (k*5);obtain⟨q1,e1⟩:=h1.cell (i:=1) rfl;have f1:=h1.bJ (k*5+1);obtain⟨q2,e2⟩:=h1.cell (i:=2) rfl;have f2:=h1.bJ (k*5+2);obtain⟨q3,e3⟩:=h1.cell (i:=3) rfl;have f3:=h1.bJ (k*5+3);obtain⟨q4,e4⟩:=h1.cell (i:=4) rfl;have f4:=h1.bJ (k*5+4);rw[tK] at e0;have HZ:=aa ((((((h1).bZ (i:=0) rfl v.n Hz0.out).eF (i:=1) rfl v.z).bZ (i:=2) rfl v.k Hz2.out).eG (i:=3) rfl v.x).bZ (i:=4) rfl v.v Hz4.out);clear h1 hb2 c0 c1 c2 c3 c4 hb;go_wp2_with fail;refine⟨⟨k+1,by omega,by go_num,?_,ag (sy _) (ag (sy _) (ag (sy _) (ag (sy _) (ag (sy _) (HB2.out)))))⟩,by simp[intOf];omega⟩;obtain⟨⟨cur,H,h2,-⟩,-,-⟩:=HZ.out;have h3:(((xs.take k++(sL len xdZ).drop k).map xdF).set k (xdF v))=(xs.take (k+1)++(sL len xdZ).drop (k+1)).map xdF:=by
    rw[<-List.map_set,bn hZl HV.out]
   have h4:b_ _ w.heap.size 5 109 (((xs.take k++(sL len xdZ).drop k).map xdF).set k (xdF v)) (fun k=>w.heap.size<=k) cur H:=h2;exact iU
  ·exact i_

theorem ke:(Tryz.prog.info? 103).map (fun i=>(i.zero,i.size,i.bytes))=some (some (.agg #[.string ⟨#[]⟩,.int .i64 0,.string ⟨#[]⟩,.slice none 0 0,.string ⟨#[]⟩,.int .i64 0]),6,88):=by kernel_rfl
def pdZ:Pd:=⟨⟨#[]⟩,0,⟨#[]⟩,[],⟨#[]⟩,0⟩

theorem re {w:World} {g len:Nat} (h:w.heap[g]?=some (.cells (madeCells #[.string ⟨#[]⟩,.int .i64 0,.string ⟨#[]⟩,.slice none 0 0,.string ⟨#[]⟩,.int .i64 0] (len*6)) 103 (0,0))) (hl:len<=1048576) (S:Nat->Prop) (hS:S g):
  ax w (some ⟨g,0,none⟩) len len 6 103 ((sL len pdZ).map pdF) S:=by
 refine⟨by simp,sy _,by omega,.inr ⟨g,_,fun _ _=>0,rfl,h,hS,?_,?_,?_⟩⟩
 ·exact iT
 ·intro j r hr i f hi;rw[sK] at hr;obtain⟨x,hx,rfl⟩:=sF.1 hr;have hj:j<len:=by have:=(sv.1 hx).1;simpa using this
  obtain rfl:x=pdZ:=by
   exact dF
  have him:i<6:=(sv.1 hi).1;have hlt:j*6+i<len*6:=af
  have hcell:(madeCells #[.string ⟨#[]⟩,.int .i64 0,.string ⟨#[]⟩,.slice none 0 0,.string ⟨#[]⟩,.int .i64 0] (len*6))[j*6+i]?=some (#[.string ⟨#[]⟩,.int .i64 0,.string ⟨#[]⟩,.slice none 0 0,.string ⟨#[]⟩,.int .i64 0][i]!):=by
   unfold madeCells;rw[tZ,tV];rw[if_pos hlt];have:(j*6+i) % 6=i:=af
   simp[this]
  refine⟨_,hcell,?_⟩;rcases i with _|_|_|_|_|_|i
  ·cases hi;exact⟨rfl,by decide⟩
  ·cases hi;exact rfl
  ·cases hi;exact⟨rfl,by decide⟩
  ·cases hi;exact⟨none,0,0,rfl,rfl,sy _,by decide,fun j x hx=>by simp[pdZ] at hx,.inl rfl⟩
  ·cases hi;exact⟨rfl,by decide⟩
  ·cases hi;exact rfl
  ·omega
 ·intro j r i zs j' r' i' zs' hr hi hz;exfalso;rw[sK] at hr;obtain⟨x,hx,rfl⟩:=sF.1 hr;obtain rfl:x=pdZ:=by
   exact dF
  have him:i<6:=(sv.1 hi).1;rcases i with _|_|_|_|_|_|i
  ·cases hi
  ·cases hi
  ·cases hi
  ·cases hi;exact hz rfl
  ·cases hi
  ·cases hi
  ·omega

theorem mr (a:Option Addr) (len cap:Nat) (xs:List Pd) (w:World) (hr:aA w a len cap 6 (xs.map pdF)) (hl:len<=1048576) (hf:∀(j:Nat) x,xs[j]?=some x->x.zs.length<=1048576):
  Calls Tryz.prog 29 #[.slice a len cap] w fun e w'=>e=.returned (.slice (some ⟨w.heap.size,0,none⟩) len len)/\ax w' (some ⟨w.heap.size,0,none⟩) len len 6 103 (xs.map pdF) (fun k=>w.heap.size<=k)/\Below w.heap.size w w':=by
 obtain⟨HR,hvl⟩:=dD;have HF:=aa hf;clear hr hf;obtain⟨i0,hi,hz0,hz1,hz2⟩:=info_parts ke;go_enter Tryz.func29,Tryz.ntmps29;go_wp2_with (at_make;refine wpList_make_full _ rfl _ _ 34 rfl w.heap.size 103 i0 (.agg #[.string ⟨#[]⟩,.int .i64 0,.string ⟨#[]⟩,.slice none 0 0,.string ⟨#[]⟩,.int .i64 0]) 6 Tryz.underlying34 hi hz0 hz1 _ _ _ _ len rfl rfl af af fq fc (sy _) ?_);intro w1 hown hgrow;obtain⟨hnx1,HB⟩:=iH;have hc1:w1.heap[w.heap.size]?=some (.cells (madeCells #[.string ⟨#[]⟩,.int .i64 0,.string ⟨#[]⟩,.slice none 0 0,.string ⟨#[]⟩,.int .i64 0] (len*6)) 103 (0,0)):=by
  obtain⟨h1,h2⟩:=hown;rcases h2 with ⟨h3,_⟩|⟨g',cap',cur,hv,hB,hh,_,_,hsz,htk⟩
  ·cases h3
  ·simp only[tU,tn,Addr.mk.injEq] at hv;obtain⟨⟨rfl,_,_⟩,_,rfl⟩:=hv;rw[sE (by simp[hsz])] at htk;have:cur=madeCells #[.string ⟨#[]⟩,.int .i64 0,.string ⟨#[]⟩,.slice none 0 0,.string ⟨#[]⟩,.int .i64 0] (len*6):=by apply Array.ext';simpa using htk
   rw[this] at hh;simpa using hh
 have HP:Hid (ax w1 (some ⟨w.heap.size,0,none⟩) len len 6 103 ((xs.take 0++(sL len pdZ).drop 0).map pdF) (fun k=>w.heap.size<=k)):=by
  have:=re hc1 hl (fun k=>w.heap.size<=k) (sy _);simpa[Hid] using this
 have hZl:xs.length=(sL len pdZ).length:=by simpa using hvl
 clear hown hgrow hi hz0 hz1 hz2 hnx1 hc1;go_wp2;go_loopw [4] (fun i wr=> ∃k:Nat,k<=len/\i=.int .i64 k/\Hid (ax wr (some ⟨w.heap.size,0,none⟩) len len 6 103 ((xs.take k++(sL len pdZ).drop k).map pdF) (fun k=>w.heap.size<=k))/\Hid (Below w.heap.size w wr)) (fun i _=>len - (intOf i).toNat);case atStart=>exact⟨0,by omega,rfl,HP,HB⟩
 case round=>
  obtain⟨k,hk,rfl,HP,HB⟩:=hrel;by_cases hlt:k<len
  ·obtain⟨b,o,v,rfl,hb,hv,hat⟩:=bR (HR.below HB.out) hlt;obtain⟨va,vl,vc,hvr,z0,z2,z4,c0,c1,c2,c3,c4,c5⟩:=aO hat;have HV:=aa hv;have Hz0:=aa z0;have Hz2:=aa z2;have Hz4:=aa z4;obtain⟨HT,hvl2,hvz,HVZ⟩:=mO;clear hvr hvz;clear hat hv z0 z2 z4;have hzk:((xs.take k++(sL len pdZ).drop k).map pdF)[k]?=some (pdF pdZ):=by
    exact fC
   obtain⟨g,hg,hs⟩:=HP.st (az.refl _ _) hzk;cases hg;have HS:=aa hs;clear hs hzk HP;go_wp2_with fail;refine (lH v.n v.c v.z va vl vc v.zs v.d v.p _ HT.out hvl2).mono ?_;rintro e w2 ⟨rfl,hG,hb2⟩;have HB2:=upB HB hb2;have h1:StJ w.heap.size 6 103 (fun k=>w.heap.size<=k) (fun k=>wr.heap.size<=k) wr w2 ((xs.take k++(sL len pdZ).drop k).map pdF) k [.s pdZ.n,.i pdZ.c,.s pdZ.z,.l pdZ.zs,.s pdZ.d,.i pdZ.p]:=HS.fresh hb2;have hL:jr w2 (wr.heap.size+1+1+1) (fun k=>w.heap.size<=k) w.heap.size v.zs (.slice (some ⟨wr.heap.size+1+1+1,0,none⟩) vl vl):=by
    exact jM
   have HL:=aa hL;clear hG hL;obtain⟨q0,e0⟩:=h1.cell (i:=0) rfl;have f0:=h1.bJ (k*6);obtain⟨q1,e1⟩:=h1.cell (i:=1) rfl;have f1:=h1.bJ (k*6+1);obtain⟨q2,e2⟩:=h1.cell (i:=2) rfl;have f2:=h1.bJ (k*6+2);obtain⟨q3,e3⟩:=h1.cell (i:=3) rfl;have f3:=h1.bJ (k*6+3);obtain⟨q4,e4⟩:=h1.cell (i:=4) rfl;have f4:=h1.bJ (k*6+4);obtain⟨q5,e5⟩:=h1.cell (i:=5) rfl;have f5:=h1.bJ (k*6+5);rw[tK] at e0;have HZ:=aa (((((((h1).bZ (i:=0) rfl v.n Hz0.out).eF (i:=1) rfl v.c).bZ (i:=2) rfl v.z Hz2.out).qT (i:=3) rfl v.zs (fun _=>by show wr.heap.size<=_;omega) (Fv.Own.aQ (u:=.l v.zs) (Fv.Own.aQ (u:=.l v.zs) (Fv.Own.aQ (u:=.l v.zs) (HL.out))))).bZ (i:=4) rfl v.d Hz4.out).eF (i:=5) rfl v.p);clear h1 hb2 c0 c1 c2 c3 c4 c5 hb;go_wp2_with fail;refine⟨⟨k+1,by omega,by go_num,?_,ag (sy _) (ag (sy _) (ag (sy _) (ag (sy _) (ag (sy _) (ag (sy _) (HB2.out))))))⟩,by simp[intOf];omega⟩;obtain⟨⟨cur,H,h2,-⟩,-,-⟩:=HZ.out;have h3:(((xs.take k++(sL len pdZ).drop k).map pdF).set k (pdF v))=(xs.take (k+1)++(sL len pdZ).drop (k+1)).map pdF:=by
    rw[<-List.map_set,bn hZl HV.out]
   have h4:b_ _ w.heap.size 6 103 (((xs.take k++(sL len pdZ).drop k).map pdF).set k (pdF v)) (fun k=>w.heap.size<=k) cur H:=h2;exact iU
  ·exact i_

structure fa (c:Cl):Prop where
 l1:c.ns.length<=1048576
 f1:∀(j:Nat) x,c.ns[j]?=some x->x.zs.length<=1048576
 l2:c.ks.length<=1048576
 l3:c.vs.length<=1048576
 f3:∀(j:Nat) x,c.vs[j]?=some x->x.zs.length<=1048576
 l4:c.xs.length<=1048576
 l5:c.ps.length<=1048576
 f5:∀(j:Nat) x,c.ps[j]?=some x->x.zs.length<=1048576

theorem fQ (d:Ad) (c:Cl) (w:World) (hr:aL w d c.raw):
  Calls Tryz.prog 5 #[.agg #[.slice d.a1 d.l1 d.c1,.slice d.a2 d.l2 d.c2,.slice d.a3 d.l3 d.c3,.slice d.a4 d.l4 d.c4,.slice d.a5 d.l5 d.c5,.int .i64 c.now],.int .i64 1048576] w (SzB 1048576 (fa c) w):=by
 obtain⟨HR,HB⟩:=eS;clear hr;go_enter Tryz.func5,Tryz.ntmps5;go_wp2_with fail;refine (mz d.a1 d.l1 d.c1 c.ns 1048576 _ (HR.n.below (HB.trans ((aj _ _).mono HB.size))) af af).mono ?_;rintro e w1 ⟨r1,rfl,hi,hb⟩;obtain⟨HA0,hbx⟩:=aJ hb;have Bk:=aa HA0;replace HB:=upB HB hbx;clear hb hbx HA0;rcases hi with rfl|⟨hr10,hr11,hz1⟩
 ·exact iQ
 have HZ1:=aa hz1;clear hz1;obtain⟨k0,k1,k2,k3,k4,k5⟩:=cs6 Bk;go_wp2_with fail;refine (mA d.a2 d.l2 d.c2 c.ks r1 _ (HR.k.below HB.out) af af).mono ?_;rintro e w2 ⟨r2,rfl,hi,hb⟩;clear k0 k1 k2 k3 k4 k5;replace Bk:=upK Bk hb;replace HB:=upB HB hb;clear hb;rcases hi with rfl|⟨hr20,hr21,hz2⟩
 ·exact iQ
 have HZ2:=aa hz2;clear hz2;obtain⟨k0,k1,k2,k3,k4,k5⟩:=cs6 Bk;go_wp2_with fail;refine (mx d.a3 d.l3 d.c3 c.vs r2 _ (HR.v.below HB.out) af af).mono ?_;rintro e w3 ⟨r3,rfl,hi,hb⟩;clear k0 k1 k2 k3 k4 k5;replace Bk:=upK Bk hb;replace HB:=upB HB hb;clear hb;rcases hi with rfl|⟨hr30,hr31,hz3⟩
 ·exact iQ
 have HZ3:=aa hz3;clear hz3;obtain⟨k0,k1,k2,k3,k4,k5⟩:=cs6 Bk;go_wp2_with fail;refine (mw d.a4 d.l4 d.c4 c.xs r3 _ (HR.x.below HB.out) af af).mono ?_;rintro e w4 ⟨r4,rfl,hi,hb⟩;clear k0 k1 k2 k3 k4 k5;replace Bk:=upK Bk hb;replace HB:=upB HB hb;clear hb;rcases hi with rfl|⟨hr40,hr41,hz4⟩
 ·exact iQ
 have HZ4:=aa hz4;clear hz4;obtain⟨k0,k1,k2,k3,k4,k5⟩:=cs6 Bk;go_wp2_with fail;refine (my d.a5 d.l5 d.c5 c.ps r4 _ (HR.p.below HB.out) af af).mono ?_;rintro e w5 ⟨r5,rfl,hi,hb⟩;clear k0 k1 k2 k3 k4 k5;replace Bk:=upK Bk hb;replace HB:=upB HB hb;clear hb;rcases hi with rfl|⟨hr50,hr51,hz5⟩
 ·exact iQ
 have HZ5:=aa hz5;clear hz5;go_wp2;go_ret;refine⟨r5,rfl,.inr ⟨by omega,by omega,?_⟩,HB.out⟩;have e1:c.ns.length=d.l1:=by simpa using (show (c.ns.map ndF).length=d.l1 from HR.n.1)
 have e2:c.ks.length=d.l2:=by simpa using (show (c.ks.map kdF).length=d.l2 from HR.k.1)
 have e3:c.vs.length=d.l3:=by simpa using (show (c.vs.map vdF).length=d.l3 from HR.v.1)
 have e4:c.xs.length=d.l4:=by simpa using (show (c.xs.map xdF).length=d.l4 from HR.x.1)
 have e5:c.ps.length=d.l5:=by simpa using (show (c.ps.map pdF).length=d.l5 from HR.p.1)
 exact⟨by rw[e1];exact HZ1.1,HZ1.2,by rw[e2];exact HZ2.out,by rw[e3];exact HZ3.1,HZ3.2,by rw[e4];exact HZ4.out,by rw[e5];exact HZ5.1,HZ5.2⟩

theorem bW (d:Ad) (c:Cl) (w:World) (hr:aL w d c.raw) (hf:fa c):
  Calls Tryz.prog 7 #[.agg #[.slice d.a1 d.l1 d.c1,.slice d.a2 d.l2 d.c2,.slice d.a3 d.l3 d.c3,.slice d.a4 d.l4 d.c4,.slice d.a5 d.l5 d.c5,.int .i64 c.now]] w fun e w'=> ∃d':Ad,e=.returned (.agg #[.slice d'.a1 d'.l1 d'.c1,.slice d'.a2 d'.l2 d'.c2,.slice d'.a3 d'.l3 d'.c3,.slice d'.a4 d'.l4 d'.c4,.slice d'.a5 d'.l5 d'.c5,.int .i64 c.now])/\bs w' d' c.raw (fun k=>w.heap.size<=k)/\Below w.heap.size w w':=by
 have HR:=aa hr;have HF:=aa hf;have e1:c.ns.length=d.l1:=by simpa using (show (c.ns.map ndF).length=d.l1 from hr.n.1)
 have hL1:d.l1<=1048576:=by rw[<-e1];exact hf.l1
 have e2:c.ks.length=d.l2:=by simpa using (show (c.ks.map kdF).length=d.l2 from hr.k.1)
 have hL2:d.l2<=1048576:=by rw[<-e2];exact hf.l2
 have e3:c.vs.length=d.l3:=by simpa using (show (c.vs.map vdF).length=d.l3 from hr.v.1)
 have hL3:d.l3<=1048576:=by rw[<-e3];exact hf.l3
 have e4:c.xs.length=d.l4:=by simpa using (show (c.xs.map xdF).length=d.l4 from hr.x.1)
 have hL4:d.l4<=1048576:=by rw[<-e4];exact hf.l4
 have e5:c.ps.length=d.l5:=by simpa using (show (c.ps.map pdF).length=d.l5 from hr.p.1)
 have hL5:d.l5<=1048576:=by rw[<-e5];exact hf.l5
 clear hr hf e1 e2 e3 e4 e5;obtain⟨X0,hX0⟩:∃X,X=((w.alloc (.cells (clv d c.now) 28)).alloc (.cells (clo6 none 0 0 none 0 0 none 0 0 none 0 0 none 0 0 0) 36)).alloc (.cells (clo6 none 0 0 none 0 0 none 0 0 none 0 0 none 0 0 0) 36):=⟨_,rfl⟩;have B0:Hid (Below w.heap.size w X0):=by rw[hX0];exact bx _ _ _ _
 have bx0:Hid (X0.heap[w.heap.size]?=some (.cells (clv d c.now) 28 (0,0))):=by rw[hX0];exact fi _ _ _ _
 have br0:Hid (X0.heap[w.heap.size+1]?=some (.cells (clo6 none 0 0 none 0 0 none 0 0 none 0 0 none 0 0 0) 36 (0,0))):=by rw[hX0];exact dx _ _ _ _
 have bl0:Hid (X0.heap[w.heap.size+1+1]?=some (.cells (clo6 none 0 0 none 0 0 none 0 0 none 0 0 none 0 0 0) 36 (0,0))):=by rw[hX0];exact dw _ _ _ _
 have hs0:=ae bl0.out;go_enter Tryz.func7,Tryz.ntmps7;go_wp2_with fail;rw[<-hX0];clear hX0;refine (mu d.a1 d.l1 d.c1 c.ns _ (HR.n.below B0.out) hL1 HF.f1).mono ?_;rintro e w1 ⟨rfl,ho,hb⟩;have hsz1:=hb.size;have gx:=(hb.block _ (ae bx0.out)).trans bx0.out;have gr:=(hb.block _ (ae br0.out)).trans br0.out;have gl:=(hb.block _ (ae bl0.out)).trans bl0.out;have gB:=B0.trans (hb.mono B0.size);have P1:=aa ho;clear ho hb bx0 br0 bl0 B0;have pl:=ck0 gl;have fl:=aq gl 0;have px:=ck1 gx;obtain⟨X1,hX1⟩:∃X,X=w1.setCell ⟨w.heap.size+1+1,0,none⟩ (.slice (some ⟨X0.heap.size,0,none⟩) d.l1 d.l1):=⟨_,rfl⟩;have hxa1:X1.heap.size<=w1.heap.size:=by rw[hX1];simp[sZ]
 have hxb1:w1.heap.size<=X1.heap.size:=by rw[hX1];simp[sZ]
 have bx1:Hid (X1.heap[w.heap.size]?=some (.cells (clv d c.now) 28 (0,0))):=by rw[hX1];exact aC af gx
 have br1:Hid (X1.heap[w.heap.size+1]?=some (.cells (clo6 none 0 0 none 0 0 none 0 0 none 0 0 none 0 0 0) 36 (0,0))):=by rw[hX1];exact aC af gr
 have bl1:Hid (X1.heap[w.heap.size+1+1]?=some (.cells (clo6 (some ⟨X0.heap.size,0,none⟩) d.l1 d.l1 none 0 0 none 0 0 none 0 0 none 0 0 0) 36 (0,0))):=by rw[hX1];have:=aD (i:=0) gl (.slice (some ⟨X0.heap.size,0,none⟩) d.l1 d.l1);simpa[Hid] using this
 have B1:Hid (Below w.heap.size w X1):=by rw[hX1];exact ag af gB
 have O1:=aa (P1.aI (w':=X1) (fun k hk s=>by rw[hX1];exact sz _ _ _ _ (show k≠w.heap.size+1+1 by have h9:X0.heap.size<=k:=s;omega)) (fun k hk s=>(⟨s,hk⟩:X0.heap.size<=k/\k<w1.heap.size)));clear gx gr gl gB P1;go_wp2_with fail;rw[<-hX1];clear hX1;clear pl fl px;refine (mv d.a2 d.l2 d.c2 c.ks _ (HR.k.below B1.out) hL2).mono ?_;rintro e w2 ⟨rfl,ho,hb⟩;have hsz2:=hb.size;have gx:=(hb.block _ (ae bx1.out)).trans bx1.out;have gr:=(hb.block _ (ae br1.out)).trans br1.out;have gl:=(hb.block _ (ae bl1.out)).trans bl1.out;have gB:=B1.trans (hb.mono B1.size);have P2:=aa ho;have Q1:=aa (O1.below hb);clear ho hb bx1 br1 bl1 B1 O1;have pl:=ck1 gl;have fl:=aq gl 1;have px:=ck2 gx;obtain⟨X2,hX2⟩:∃X,X=w2.setCell ⟨w.heap.size+1+1,1,none⟩ (.slice (some ⟨X1.heap.size,0,none⟩) d.l2 d.l2):=⟨_,rfl⟩;have hxa2:X2.heap.size<=w2.heap.size:=by rw[hX2];simp[sZ]
 have hxb2:w2.heap.size<=X2.heap.size:=by rw[hX2];simp[sZ]
 have bx2:Hid (X2.heap[w.heap.size]?=some (.cells (clv d c.now) 28 (0,0))):=by rw[hX2];exact aC af gx
 have br2:Hid (X2.heap[w.heap.size+1]?=some (.cells (clo6 none 0 0 none 0 0 none 0 0 none 0 0 none 0 0 0) 36 (0,0))):=by rw[hX2];exact aC af gr
 have bl2:Hid (X2.heap[w.heap.size+1+1]?=some (.cells (clo6 (some ⟨X0.heap.size,0,none⟩) d.l1 d.l1 (some ⟨X1.heap.size,0,none⟩) d.l2 d.l2 none 0 0 none 0 0 none 0 0 0) 36 (0,0))):=by rw[hX2];have:=aD (i:=1) gl (.slice (some ⟨X1.heap.size,0,none⟩) d.l2 d.l2);simpa[Hid] using this
 have B2:Hid (Below w.heap.size w X2):=by rw[hX2];exact ag af gB
 have O1:=aa (Q1.aI (w':=X2) (fun k hk s=>by rw[hX2];exact sz _ _ _ _ (show k≠w.heap.size+1+1 by have h9:X0.heap.size<=k:=s.1;omega)) (fun k hk s=>s));have O2:=aa (P2.aI (w':=X2) (fun k hk s=>by rw[hX2];exact sz _ _ _ _ (show k≠w.heap.size+1+1 by have h9:X1.heap.size<=k:=s;omega)) (fun k hk s=>(⟨s,hk⟩:X1.heap.size<=k/\k<w2.heap.size)));clear gx gr gl gB P2 Q1;go_wp2_with fail;rw[<-hX2];clear hX2;clear pl fl px;refine (mq d.a3 d.l3 d.c3 c.vs _ (HR.v.below B2.out) hL3 HF.f3).mono ?_;rintro e w3 ⟨rfl,ho,hb⟩;have hsz3:=hb.size;have gx:=(hb.block _ (ae bx2.out)).trans bx2.out;have gr:=(hb.block _ (ae br2.out)).trans br2.out;have gl:=(hb.block _ (ae bl2.out)).trans bl2.out;have gB:=B2.trans (hb.mono B2.size);have P3:=aa ho;have Q1:=aa (O1.below hb);have Q2:=aa (O2.below hb);clear ho hb bx2 br2 bl2 B2 O1 O2;have pl:=ck2 gl;have fl:=aq gl 2;have px:=ck3 gx;obtain⟨X3,hX3⟩:∃X,X=w3.setCell ⟨w.heap.size+1+1,2,none⟩ (.slice (some ⟨X2.heap.size,0,none⟩) d.l3 d.l3):=⟨_,rfl⟩;have hxa3:X3.heap.size<=w3.heap.size:=by rw[hX3];simp[sZ]
 have hxb3:w3.heap.size<=X3.heap.size:=by rw[hX3];simp[sZ]
 have bx3:Hid (X3.heap[w.heap.size]?=some (.cells (clv d c.now) 28 (0,0))):=by rw[hX3];exact aC af gx
 have br3:Hid (X3.heap[w.heap.size+1]?=some (.cells (clo6 none 0 0 none 0 0 none 0 0 none 0 0 none 0 0 0) 36 (0,0))):=by rw[hX3];exact aC af gr
 have bl3:Hid (X3.heap[w.heap.size+1+1]?=some (.cells (clo6 (some ⟨X0.heap.size,0,none⟩) d.l1 d.l1 (some ⟨X1.heap.size,0,none⟩) d.l2 d.l2 (some ⟨X2.heap.size,0,none⟩) d.l3 d.l3 none 0 0 none 0 0 0) 36 (0,0))):=by rw[hX3];have:=aD (i:=2) gl (.slice (some ⟨X2.heap.size,0,none⟩) d.l3 d.l3);simpa[Hid] using this
 have B3:Hid (Below w.heap.size w X3):=by rw[hX3];exact ag af gB
 have O1:=aa (Q1.aI (w':=X3) (fun k hk s=>by rw[hX3];exact sz _ _ _ _ (show k≠w.heap.size+1+1 by have h9:X0.heap.size<=k:=s.1;omega)) (fun k hk s=>s));have O2:=aa (Q2.aI (w':=X3) (fun k hk s=>by rw[hX3];exact sz _ _ _ _ (show k≠w.heap.size+1+1 by have h9:X1.heap.size<=k:=s.1;omega)) (fun k hk s=>s));have O3:=aa (P3.aI (w':=X3) (fun k hk s=>by rw[hX3];exact sz _ _ _ _ (show k≠w.heap.size+1+1 by have h9:X2.heap.size<=k:=s;omega)) (fun k hk s=>(⟨s,hk⟩:X2.heap.size<=k/\k<w3.heap.size)));clear gx gr gl gB P3 Q1 Q2;go_wp2_with fail;rw[<-hX3];clear hX3;clear pl fl px;refine (mo d.a4 d.l4 d.c4 c.xs _ (HR.x.below B3.out) hL4).mono ?_;rintro e w4 ⟨rfl,ho,hb⟩;have hsz4:=hb.size;have gx:=(hb.block _ (ae bx3.out)).trans bx3.out;have gr:=(hb.block _ (ae br3.out)).trans br3.out;have gl:=(hb.block _ (ae bl3.out)).trans bl3.out;have gB:=B3.trans (hb.mono B3.size);have P4:=aa ho;have Q1:=aa (O1.below hb);have Q2:=aa (O2.below hb);have Q3:=aa (O3.below hb);clear ho hb bx3 br3 bl3 B3 O1 O2 O3;have pl:=ck3 gl;have fl:=aq gl 3;have px:=ck4 gx;obtain⟨X4,hX4⟩:∃X,X=w4.setCell ⟨w.heap.size+1+1,3,none⟩ (.slice (some ⟨X3.heap.size,0,none⟩) d.l4 d.l4):=⟨_,rfl⟩;have hxa4:X4.heap.size<=w4.heap.size:=by rw[hX4];simp[sZ]
 have hxb4:w4.heap.size<=X4.heap.size:=by rw[hX4];simp[sZ]
 have bx4:Hid (X4.heap[w.heap.size]?=some (.cells (clv d c.now) 28 (0,0))):=by rw[hX4];exact aC af gx
 have br4:Hid (X4.heap[w.heap.size+1]?=some (.cells (clo6 none 0 0 none 0 0 none 0 0 none 0 0 none 0 0 0) 36 (0,0))):=by rw[hX4];exact aC af gr
 have bl4:Hid (X4.heap[w.heap.size+1+1]?=some (.cells (clo6 (some ⟨X0.heap.size,0,none⟩) d.l1 d.l1 (some ⟨X1.heap.size,0,none⟩) d.l2 d.l2 (some ⟨X2.heap.size,0,none⟩) d.l3 d.l3 (some ⟨X3.heap.size,0,none⟩) d.l4 d.l4 none 0 0 0) 36 (0,0))):=by rw[hX4];have:=aD (i:=3) gl (.slice (some ⟨X3.heap.size,0,none⟩) d.l4 d.l4);simpa[Hid] using this
 have B4:Hid (Below w.heap.size w X4):=by rw[hX4];exact ag af gB
 have O1:=aa (Q1.aI (w':=X4) (fun k hk s=>by rw[hX4];exact sz _ _ _ _ (show k≠w.heap.size+1+1 by have h9:X0.heap.size<=k:=s.1;omega)) (fun k hk s=>s));have O2:=aa (Q2.aI (w':=X4) (fun k hk s=>by rw[hX4];exact sz _ _ _ _ (show k≠w.heap.size+1+1 by have h9:X1.heap.size<=k:=s.1;omega)) (fun k hk s=>s));have O3:=aa (Q3.aI (w':=X4) (fun k hk s=>by rw[hX4];exact sz _ _ _ _ (show k≠w.heap.size+1+1 by have h9:X2.heap.size<=k:=s.1;omega)) (fun k hk s=>s));have O4:=aa (P4.aI (w':=X4) (fun k hk s=>by rw[hX4];exact sz _ _ _ _ (show k≠w.heap.size+1+1 by have h9:X3.heap.size<=k:=s;omega)) (fun k hk s=>(⟨s,hk⟩:X3.heap.size<=k/\k<w4.heap.size)));clear gx gr gl gB P4 Q1 Q2 Q3;go_wp2_with fail;rw[<-hX4];clear hX4;clear pl fl px;refine (mr d.a5 d.l5 d.c5 c.ps _ (HR.p.below B4.out) hL5 HF.f5).mono ?_;rintro e w5 ⟨rfl,ho,hb⟩;have gx:=(hb.block _ (ae bx4.out)).trans bx4.out;have gr:=(hb.block _ (ae br4.out)).trans br4.out;have gl:=(hb.block _ (ae bl4.out)).trans bl4.out;have gB:=B4.trans (hb.mono B4.size);have P5:=aa ho;have Q1:=aa (O1.below hb);have Q2:=aa (O2.below hb);have Q3:=aa (O3.below hb);have Q4:=aa (O4.below hb);clear ho hb bx4 br4 bl4 B4 O1 O2 O3 O4;have l4:=ck4 gl;have l5:=ck5 gl;have l0:=ck0 gl;have l1:=ck1 gl;have l2:=ck2 gl;have l3:=ck3 gl;have r0:=ck0 gr;have fr0:=aq gr 0;have r1:=ck1 gr;have fr1:=aq gr 1;have r2:=ck2 gr;have fr2:=aq gr 2;have r3:=ck3 gr;have fr3:=aq gr 3;have fl4:=aq gl 4;have r4:=ck4 gr;have fr4:=aq gr 4;have fl5:=aq gl 5;have r5:=ck5 gr;have fr5:=aq gr 5;have px:=ck5 gx;have GB:=aa gB;clear gx gr gl gB;go_wp2;refine bodyPost_ret (v:=.agg #[.slice (some ⟨X0.heap.size,0,none⟩) d.l1 d.l1,.slice (some ⟨X1.heap.size,0,none⟩) d.l2 d.l2,.slice (some ⟨X2.heap.size,0,none⟩) d.l3 d.l3,.slice (some ⟨X3.heap.size,0,none⟩) d.l4 d.l4,.slice (some ⟨X4.heap.size,0,none⟩) d.l5 d.l5,.int .i64 c.now]) (by simp[results,Tryz.results7,go_sem, *]) rfl ⟨⟨some ⟨X0.heap.size,0,none⟩,d.l1,d.l1,some ⟨X1.heap.size,0,none⟩,d.l2,d.l2,some ⟨X2.heap.size,0,none⟩,d.l3,d.l3,some ⟨X3.heap.size,0,none⟩,d.l4,d.l4,some ⟨X4.heap.size,0,none⟩,d.l5,d.l5⟩,rfl,?_,sb1 (sb1 (sb1 (sb1 (sb1 (sb1 (sb2 (sb2 (GB.out))))))))⟩;have same:∀k,w.heap.size+1+1<k->((((((((w5.setCell ⟨w.heap.size+1+1,4,none⟩ (.slice (some ⟨X4.heap.size,0,none⟩) d.l5 d.l5)).setCell ⟨w.heap.size+1+1,5,none⟩ (.int .i64 c.now)).setCell ⟨w.heap.size+1,0,none⟩ (.slice (some ⟨X0.heap.size,0,none⟩) d.l1 d.l1)).setCell ⟨w.heap.size+1,1,none⟩ (.slice (some ⟨X1.heap.size,0,none⟩) d.l2 d.l2)).setCell ⟨w.heap.size+1,2,none⟩ (.slice (some ⟨X2.heap.size,0,none⟩) d.l3 d.l3)).setCell ⟨w.heap.size+1,3,none⟩ (.slice (some ⟨X3.heap.size,0,none⟩) d.l4 d.l4)).setCell ⟨w.heap.size+1,4,none⟩ (.slice (some ⟨X4.heap.size,0,none⟩) d.l5 d.l5)).setCell ⟨w.heap.size+1,5,none⟩ (.int .i64 c.now)).heap[k]?=w5.heap[k]?:=fun k hk=>by
  rw[sz _ _ _ _ (show k≠w.heap.size+1 by omega),sz _ _ _ _ (show k≠w.heap.size+1 by omega),sz _ _ _ _ (show k≠w.heap.size+1 by omega),sz _ _ _ _ (show k≠w.heap.size+1 by omega),sz _ _ _ _ (show k≠w.heap.size+1 by omega),sz _ _ _ _ (show k≠w.heap.size+1 by omega),sz _ _ _ _ (show k≠w.heap.size+1+1 by omega),sz _ _ _ _ (show k≠w.heap.size+1+1 by omega)]
 refine⟨fun k=>if k<w1.heap.size then 1 else if k<w2.heap.size then 2 else if k<w3.heap.size then 3 else if k<w4.heap.size then 4 else 5,?_,?_,?_,?_,?_⟩
 ·refine Q1.aI (fun k hk s=>same k (by have h9:X0.heap.size<=k:=s.1;omega)) (fun k hk s=>⟨?_,?_⟩)
  ·have h9:=s.1;show w.heap.size<=k;omega
  ·have h9:=s.1;have h8:=s.2;show (if k<w1.heap.size then 1 else if k<w2.heap.size then 2 else if k<w3.heap.size then 3 else if k<w4.heap.size then 4 else 5)=1;rw[if_pos h8]
 ·refine Q2.aI (fun k hk s=>same k (by have h9:X1.heap.size<=k:=s.1;omega)) (fun k hk s=>⟨?_,?_⟩)
  ·have h9:=s.1;show w.heap.size<=k;omega
  ·have h9:=s.1;have h8:=s.2;show (if k<w1.heap.size then 1 else if k<w2.heap.size then 2 else if k<w3.heap.size then 3 else if k<w4.heap.size then 4 else 5)=2;rw[if_neg af];rw[if_pos h8]
 ·refine Q3.aI (fun k hk s=>same k (by have h9:X2.heap.size<=k:=s.1;omega)) (fun k hk s=>⟨?_,?_⟩)
  ·have h9:=s.1;show w.heap.size<=k;omega
  ·have h9:=s.1;have h8:=s.2;show (if k<w1.heap.size then 1 else if k<w2.heap.size then 2 else if k<w3.heap.size then 3 else if k<w4.heap.size then 4 else 5)=3;rw[if_neg af];rw[if_neg af];rw[if_pos h8]
 ·refine Q4.aI (fun k hk s=>same k (by have h9:X3.heap.size<=k:=s.1;omega)) (fun k hk s=>⟨?_,?_⟩)
  ·have h9:=s.1;show w.heap.size<=k;omega
  ·have h9:=s.1;have h8:=s.2;show (if k<w1.heap.size then 1 else if k<w2.heap.size then 2 else if k<w3.heap.size then 3 else if k<w4.heap.size then 4 else 5)=4;rw[if_neg af];rw[if_neg af];rw[if_neg af];rw[if_pos h8]
 ·refine P5.aI (fun k hk s=>same k (by have h9:X4.heap.size<=k:=s;omega)) (fun k hk s=>⟨?_,?_⟩)
  ·have h9:=s;show w.heap.size<=k;omega
  ·have h9:=s;show (if k<w1.heap.size then 1 else if k<w2.heap.size then 2 else if k<w3.heap.size then 3 else if k<w4.heap.size then 4 else 5)=5;rw[if_neg af];rw[if_neg af];rw[if_neg af];rw[if_neg af];skip

def LFr (w:World) (h:Nat) (S:Nat->Prop) (zs:List ByteArray) (v:Value):Prop:=
 ∃a len cap,v=.slice a len cap/\zs.length=len/\len<=cap/\cap<=9223372036854775807/\(∀(j:Nat) x,zs[j]?=some x->x.size<=9223372036854775807)/\
  (zs=[]\/(a=some ⟨h,0,none⟩/\S h/\∃cu,w.heap[h]?=some (.cells cu 9 (0,0))/\∀(j:Nat) x,zs[j]?=some x->cu[j]?=some (.string x)))
theorem LFr.aI {w w':World} {h:Nat} {S S':Nat->Prop} {zs:List ByteArray} {v:Value} (k:LFr w h S zs v) (hk:∀cu,S h->w.heap[h]?=some (.cells cu 9 (0,0))->w'.heap[h]?=w.heap[h]?) (hs:h<w.heap.size->S h->S' h):LFr w' h S' zs v:=by
 obtain⟨a',l',c',h1,h2,h3,h4,h5,h6⟩:=k;refine⟨a',l',c',h1,h2,h3,h4,h5,h6.imp id ?_⟩;rintro⟨q1,q2,cu,q4,q5⟩;exact⟨q1,hs (ae q4) q2,cu,(hk cu q2 q4).trans q4,q5⟩
def Fv.Fr (w:World) (h:Nat) (S:Nat->Prop):Fv->Value->Prop
 | .s t,v=>v=.string t/\t.size<=9223372036854775807
 | .i n,v=>v=.int .i64 n
 | .b x,v=>v=.bool x
 | .l zs,v=>LFr w h S zs v
theorem Fv.Fr.aI {w w':World} {h:Nat} {S S':Nat->Prop} {f:Fv} {v:Value} (k:f.Fr w h S v) (hk:∀cu,S h->w.heap[h]?=some (.cells cu 9 (0,0))->w'.heap[h]?=w.heap[h]?) (hs:h<w.heap.size->S h->S' h):f.Fr w' h S' v:=by
 cases f with
 | l zs=>exact LFr.aI k hk hs
 | _=>exact k
theorem Fv.Fr.own {w:World} {h g:Nat} {S:Nat->Prop} {f:Fv} {v:Value} {cur:Array Value} {T:TypeId} (k:f.Fr w h S v) (hg:w.heap[g]?=some (.cells cur T (0,0))) (hT:¬T=9):f.Own w h S g v:=by
 cases f with
 | l zs=>
  obtain⟨a',l',c',h1,h2,h3,h4,h5,h6⟩:=k;refine⟨a',l',c',h1,h2,h3,h4,h5,h6.imp id ?_⟩;rintro⟨q1,q2,cu,q4,q5⟩;refine⟨q1,q2,?_,cu,q4,q5⟩;rintro rfl;rw[hg] at q4
  cases q4
  exact hT rfl
 | _=>exact k
theorem Fv.Own.fr {w:World} {h g:Nat} {S:Nat->Prop} {f:Fv} {v:Value} (k:f.Own w h S g v):f.Fr w h S v:=by
 cases f with
 | l zs=>
  obtain⟨a',l',c',h1,h2,h3,h4,h5,h6⟩:=k;refine⟨a',l',c',h1,h2,h3,h4,h5,h6.imp id ?_⟩;rintro⟨q1,q2,q3,cu,q4,q5⟩;exact⟨q1,q2,cu,q4,q5⟩
 | _=>exact k
theorem Fv.Fr.one {w:World} {h:Nat} {S:Nat->Prop} {f:Fv} {v:Value} (k:f.Fr w h S v):v.oneCell'=true:=by
 cases f with
 | l zs=>obtain⟨a',l',c',rfl,_⟩:=k;rfl
 | s t=>obtain⟨rfl,_⟩:=k;rfl
 | i n=>cases (show v=.int .i64 n from k);rfl
 | b x=>cases (show v=.bool x from k);rfl

structure aH (w:World) (S:Nat->Prop) (m:Nat) (rs:List (List Fv)) (vss:List (List Value)) (H:Nat->Nat->Nat):Prop where
 len:vss.length=rs.length
 all:∀(j:Nat) vs,vss[j]?=some vs->vs.length=m
 rl:∀(j:Nat) r,rs[j]?=some r->r.length=m
 cell:∀(j:Nat) r vs,rs[j]?=some r->vss[j]?=some vs->∀(i:Nat) f,r[i]?=some f->∃v,vs[i]?=some v/\f.Fr w (H j i) S v
 inj:∀(j:Nat) r (i:Nat) zs (j':Nat) r' (i':Nat) zs',rs[j]?=some r->r[i]?=some (.l zs)->zs≠[]->rs[j']?=some r'->r'[i']?=some (.l zs')->zs'≠[]->H j i=H j' i'->j=j'/\i=i'

section
variable {w w':World} {S S':Nat->Prop} {m:Nat} {rs:List (List Fv)} {vss:List (List Value)} {H:Nat->Nat->Nat}
theorem aH.nil (w:World) (S:Nat->Prop) (m:Nat) (H:Nat->Nat->Nat):aH w S m [] [] H:=⟨rfl,fun j vs h=>by simp at h,fun j r h=>by simp at h,fun j r vs h=>by simp at h,fun j r i zs j' r' i' zs' h=>by simp at h⟩
theorem aH.aI (h:aH w S m rs vss H) (hk:∀k cu,S k->w.heap[k]?=some (.cells cu 9 (0,0))->w'.heap[k]?=w.heap[k]?) (hs:∀k,k<w.heap.size->S k->S' k):aH w' S' m rs vss H:=
 ⟨h.len,h.all,h.rl,fun j r vs h1 h2 i f h3=>by
  obtain⟨v,h4,h5⟩:=h.cell j r vs h1 h2 i f h3;exact⟨v,h4,h5.aI (hk _) (hs _)⟩,h.inj⟩
theorem aH.below (h:aH w S m rs vss H) (hb:Below w.heap.size w w'):aH w' S m rs vss H:=h.aI (fun k _ _ q=>hb.block k (ae q)) (fun _ _ s=>s)
theorem aH.grown (h:aH w S m rs vss H) {base n:Nat} {T:TypeId} {v:Value} {xs:List Value} (ho:w.ownsRow base T m v n xs) (hT:¬T=9) (hg:w.grownBy w' v.ownBlock):aH w' S m rs vss H:=by
 refine h.aI (fun k cu _ q=>hg.block k (ae q) (fun e=>?_)) (fun _ _ s=>s);rcases ho.2 with ⟨rfl,_⟩|⟨g,cap,cur,rfl,_,hgg,_⟩
 ·cases e
 ·cases e;simp only[] at q;rw[hgg] at q;cases q;exact hT rfl
theorem aH.lt (h:aH w S m rs vss H) {j:Nat} {r:List Fv} {i:Nat} {zs:List ByteArray} (h1:rs[j]?=some r) (h2:r[i]?=some (.l zs)) (h3:zs≠[]):H j i<w.heap.size:=by
 have hj:j<vss.length:=by rw[h.len];exact (sv.1 h1).1
 obtain⟨v,_,a,len,cap,_,_,_,_,_,h9⟩:=h.cell j r _ h1 (sA hj) i _ h2;rcases h9 with h9|⟨_,_,cu,q4,_⟩
 ·exact absurd h9 h3
 ·exact ae q4
theorem aH.sr (h:aH w S m rs vss H) {rs':List (List Fv)} {vss':List (List Value)} (f:Nat->Nat) (hl:vss'.length=rs'.length) (hr:∀j,j<rs'.length->rs'[j]?=rs[f j]?) (hv:∀j,j<rs'.length->vss'[j]?=vss[f j]?)
  (hf:∀j j',j<rs'.length->j'<rs'.length->f j=f j'->j=j'):aH w S m rs' vss' (fun j=>H (f j)):=by
 have lt1:∀{j:Nat} {r},rs'[j]?=some r->j<rs'.length:=fun h=>(sv.1 h).1;have lt2:∀{j:Nat} {r},vss'[j]?=some r->j<rs'.length:=fun h=>by rw[<-hl];exact (sv.1 h).1
 refine⟨hl,fun j vs h1=>h.all (f j) vs (by rw[<-hv j (lt2 h1)];exact h1),fun j r h1=>h.rl (f j) r (by rw[<-hr j (lt1 h1)];exact h1),fun j r vs h1 h2=>h.cell (f j) r vs (by rw[<-hr j (lt1 h1)];exact h1) (by rw[<-hv j (lt1 h1)];exact h2),?_⟩;intro j r i zs j' r' i' zs' h1 h2 h3 h4 h5 h6 h7;obtain⟨e1,e2⟩:=h.inj (f j) r i zs (f j') r' i' zs' (by rw[<-hr j (lt1 h1)];exact h1) h2 h3 (by rw[<-hr j' (lt1 h4)];exact h4) h5 h6 h7;exact⟨hf j j' (lt1 h1) (lt1 h4) e1,e2⟩
theorem aH.push (h:aH w S m rs vss H) {r:List Fv} {vs:List Value} {hh:Nat->Nat} (hr:r.length=m) (hvs:vs.length=m) (hc:∀(i:Nat) f,r[i]?=some f->∃v,vs[i]?=some v/\f.Fr w (hh i) S v)
  (hn:∀(i:Nat) zs,r[i]?=some (.l zs)->zs≠[]->∀(j:Nat) r' (i':Nat) zs',rs[j]?=some r'->r'[i']?=some (.l zs')->zs'≠[]->¬H j i'=hh i)
  (h1:∀(i i':Nat) zs zs',r[i]?=some (.l zs)->zs≠[]->r[i']?=some (.l zs')->zs'≠[]->i=i'):
  aH w S m (rs++[r]) (vss++[vs]) (fun j=>if j=rs.length then hh else H j):=by
 have at1:∀{α:Type} {l:List α} {x y:α} {j:Nat},(l++[x])[j]?=some y->(j=l.length/\y=x)\/(j<l.length/\l[j]?=some y):=by
  intro α l x y j hj;by_cases e:j<l.length
  ·rw[sX e] at hj;exact .inr ⟨e,hj⟩
  ·rw[tf af] at hj;rcases Nat.eq_zero_or_pos (j - l.length) with e0|e0
   ·rw[e0] at hj;exact .inl ⟨by omega,by simpa using hj.symm⟩
   ·exact nn
 refine⟨by simp[h.len],fun j v hv=>?_,fun j r' hj=>?_,fun j r' v hj hv i f hf=>?_,fun j r1 i zs j' r2 i' zs' a1 a2 a3 b1 b2 b3 e=>?_⟩
 ·rcases at1 hv with ⟨_,rfl⟩|⟨_,hv⟩
  ·exact hvs
  ·exact h.all j v hv
 ·rcases at1 hj with ⟨_,rfl⟩|⟨_,hj⟩
  ·exact hr
  ·exact h.rl j r' hj
 ·rcases at1 hj with ⟨e1,rfl⟩|⟨e1,hj⟩
  ·rcases at1 hv with ⟨_,rfl⟩|⟨e2,hv⟩
   ·simp only[e1,if_true];exact hc i f hf
   ·have:=h.len;omega
  ·rcases at1 hv with ⟨e2,rfl⟩|⟨e2,hv⟩
   ·have:=h.len;omega
   ·simp only[if_neg (show¬j=rs.length by omega)];exact h.cell j r' v hj hv i f hf
 ·rcases at1 a1 with ⟨e1,rfl⟩|⟨e1,a4⟩ <;> rcases at1 b1 with ⟨e2,rfl⟩|⟨e2,b4⟩
  ·exact⟨by omega,h1 _ _ _ _ a2 a3 b2 b3⟩
  ·simp only[e1,if_true,if_neg (show¬j'=rs.length by omega)] at e;exact absurd e.symm (hn i zs a2 a3 j' r2 i' zs' b4 b2 b3)
  ·simp only[e2,if_true,if_neg (show¬j=rs.length by omega)] at e;exact absurd e (hn i' zs' b2 b3 j r1 i zs a4 a2 a3)
  ·simp only[if_neg (show¬j=rs.length by omega),if_neg (show¬j'=rs.length by omega)] at e;exact h.inj j r1 i zs j' r2 i' zs' a4 a2 a3 b4 b2 b3 e
end

theorem fj {α:Type} {m:Nat} :∀{vss:List (List α)},(∀(j:Nat) vs,vss[j]?=some vs->vs.length=m)->∀{j:Nat} {vs:List α} {i:Nat} {u:α},vss[j]?=some vs->vs[i]?=some u->vss.flatten[j*m+i]?=some u
 | [],_,j,vs,i,u,h,_=>by simp at h
 | x ::vss,hl,0,vs,i,u,h,hu=>by
  obtain rfl:x=vs:=by simpa using h
  have hx:=hl 0 x rfl;have hi:=(sv.1 hu).1;rw[List.flatten_cons,sX af,Nat.zero_mul,th];exact hu
 | x ::vss,hl,j+1,vs,i,u,h,hu=>by
  have hx:=hl 0 x rfl;rw[List.flatten_cons,tf (by rw[hx,Nat.succ_mul];omega),hx,show (j+1)*m+i - m=j*m+i by rw[Nat.succ_mul];omega];exact fj (fun j' vs' h'=>hl (j'+1) vs' (by simpa using h')) (by simpa using h) hu
theorem ew {α:Type} {m:Nat} :∀{vss:List (List α)},(∀(j:Nat) vs,vss[j]?=some vs->vs.length=m)->∀{k:Nat} {u:α},vss.flatten[k]?=some u->∃(j i:Nat) (vs:List α),vss[j]?=some vs/\vs[i]?=some u/\k=j*m+i
 | [],_,k,u,h=>by simp at h
 | x ::vss,hl,k,u,h=>by
  have hx:=hl 0 x rfl;rw[List.flatten_cons] at h;by_cases e:k<m
  ·rw[sX af] at h;exact⟨0,k,x,rfl,h,by omega⟩
  ·rw[tf af,hx] at h;obtain⟨j,i,vs,h1,h2,h3⟩:=ew (fun j' vs' h'=>hl (j'+1) vs' (by simpa using h')) h;exact⟨j+1,i,vs,by simpa using h1,h2,by rw[Nat.succ_mul];omega⟩
theorem di {α:Type} {m:Nat} :∀{vss:List (List α)},(∀(j:Nat) vs,vss[j]?=some vs->vs.length=m)->vss.flatten.length=vss.length*m
 | [],_=>by simp
 | x ::vss,hl=>by
  have hx:=hl 0 x rfl;rw[List.flatten_cons,sY,di (fun j' vs' h'=>hl (j'+1) vs' (by simpa using h')),hx,tX,Nat.succ_mul];omega
theorem aH.one {w:World} {S:Nat->Prop} {m:Nat} {rs:List (List Fv)} {vss:List (List Value)} {H:Nat->Nat->Nat} (h:aH w S m rs vss H):∀u∈vss.flatten,u.oneCell'=true:=by
 intro u hu;obtain⟨k,hk,rfl⟩:=List.mem_iff_getElem.1 hu;obtain⟨j,i,vs,h1,h2,_⟩:=ew h.all (sA hk);have hj:j<rs.length:=by rw[<-h.len];exact (sv.1 h1).1
 have hr:=sA hj;have hi:i<(rs[j]).length:=by rw[h.rl j _ hr,<-h.all j vs h1];exact (sv.1 h2).1
 obtain⟨v,h3,h4⟩:=h.cell j _ vs hr h1 i _ (sA hi);rw[h2] at h3;cases h3;exact h4.one

theorem aH.own {w:World} {S:Nat->Prop} {m:Nat} {T:TypeId} {rs:List (List Fv)} {vss:List (List Value)} {H:Nat->Nat->Nat} (h:aH w S m rs vss H) {base n:Nat} {v:Value} (ho:w.ownsRow base T m v n vss.flatten) (hn:n=rs.length) (hT:¬T=9) (hS:∀g,v.ownBlock=some g->S g):
  ∃a cap,v=.slice a rs.length cap/\ax w a rs.length cap m T rs S:=by
 subst hn;rcases ho.2 with ⟨rfl,h0⟩|⟨g,cap,cur,rfl,_,hgg,h1,h2,h3,h4⟩
 ·obtain rfl:rs=[]:=tt h0;exact⟨none,0,rfl,ax.nil _ _ _ _ _ af⟩
 ·refine⟨_,cap,rfl,rfl,h1,by unfold maxLen at h2;omega,.inr ⟨g,cur,H,rfl,hgg,hS g rfl,h.rl,fun j r hj i f hi=>?_,h.inj⟩⟩;have hjl:j<vss.length:=by rw[h.len];exact (sv.1 hj).1
  have hv:=sA hjl;obtain⟨u,h5,h6⟩:=h.cell j r _ hj hv i f hi;have h7:=fj h.all hv h5;rw[<-h4,sW] at h7;split at h7
  ·exact⟨u,by simpa using h7,h6.own hgg hT⟩
  ·cases h7
theorem ax.oX {w:World} {S:Nat->Prop} {m:Nat} {T:TypeId} {a:Option Addr} {len cap:Nat} {rs:List (List Fv)} (h:ax w a len cap m T rs S):
  ∃vss H,aH w S m rs vss H/\∀(k:Nat) u,vss.flatten[k]?=some u->∃g,a=some ⟨g,0,none⟩/\S g/\w.cell? ⟨g,k,none⟩=some u:=by
 obtain⟨h1,h2,h3,h4⟩:=h;rcases h4 with rfl|⟨g,cur,H,rfl,h5⟩
 ·exact⟨[],fun _ _=>0,aH.nil _ _ _ _,fun k u hu=>by simp at hu⟩
 ·have hget:∀(j i:Nat),((tC rs.length).map fun j=>(tC m).map fun i=>cur.getD (j*m+i) undef)[j]?=if j<rs.length then some ((tC m).map fun i=>cur.getD (j*m+i) undef) else none:=by
   intro j _;rw[sK];split
   ·next e=>rw[List.getElem?_range e];rfl
   ·next e=>rw[s9 (by simpa using e)];rfl
  have hval:∀(j:Nat) r,rs[j]?=some r->∀(i:Nat),i<m->∃f v,r[i]?=some f/\cur[j*m+i]?=some v/\f.Own w (H j i) S g v/\((tC m).map fun i=>cur.getD (j*m+i) undef)[i]?=some v:=by
   intro j r hr i hi;have hl:=h5.len j r hr;have hf:=sA (l:=r) (i:=i) af;obtain⟨v,q1,q2⟩:=h5.cell j r hr i _ hf;refine⟨_,v,hf,q1,q2,?_⟩;rw[sK,List.getElem?_range hi];simp[sD,q1]
  have hvrecs:aH w S m rs ((tC rs.length).map fun j=>(tC m).map fun i=>cur.getD (j*m+i) undef) H:=by
   refine⟨by simp,fun j vs hv=>?_,h5.len,fun j r vs hr hv i f hf=>?_,h5.inj⟩
   ·rw[hget j 0] at hv;split at hv
    ·cases hv;simp
    ·cases hv
   ·rw[hget j 0,if_pos (sv.1 hr).1] at hv;cases hv;have hi:i<m:=by rw[<-h5.len j r hr];exact (sv.1 hf).1
    obtain⟨f',v,q1,q2,q3,q4⟩:=hval j r hr i hi;rw[hf] at q1;cases q1;exact⟨v,q4,q3.fr⟩
  refine⟨_,H,hvrecs,fun k u hu=>⟨g,rfl,h5.inS,?_⟩⟩;obtain⟨j,i,vs,e1,e2,rfl⟩:=ew hvrecs.all hu;rw[hget j 0] at e1;split at e1
  ·next e=>
   cases e1;have hi:i<m:=by have:=(sv.1 e2).1;simpa using this
   obtain⟨f',v,q1,q2,q3,q4⟩:=hval j _ (sA e) i hi;rw[e2] at q4;cases q4;exact (ay h5.blk _).trans q2
  ·cases e1

def Bw (y W:World):Prop:=Below y.heap.size y W
theorem Bw.refl (y:World):Bw y y:=sB _ _
theorem Bw.below {y W W':World} (h:Bw y W) (hb:Below W.heap.size W W'):Bw y W':=Below.trans h (hb.mono (Below.size h))
theorem Bw.kept {y W W':World} {S:Nat->Prop} (h:Bw y W) (hk:az S W W') (hs:∀k,S k->y.heap.size<=k):Bw y W':=Below.trans h (hk.low (Below.size h) hs)
theorem Bw.out {y W:World} (h:Bw y W):Below y.heap.size y W:=h
theorem Bw.le {y W:World} (h:Bw y W):y.heap.size<=W.heap.size:=Below.size h

def bO (w:World) (a:Option Addr) (l c:Nat) (zs:List ByteArray) (S:Nat->Prop):Prop:=
 ar w a l c zs/\(zs=[]\/∃g cur,a=some ⟨g,0,none⟩/\S g/\w.heap[g]?=some (.cells cur 9 (0,0)))
theorem bO.aI {w w':World} {a:Option Addr} {l c:Nat} {zs:List ByteArray} {S S':Nat->Prop} (h:bO w a l c zs S) (hk:∀k,k<w.heap.size->S k->w'.heap[k]?=w.heap[k]?) (hs:∀k,k<w.heap.size->S k->S' k):bO w' a l c zs S':=by
 obtain⟨⟨h1,h2,h3,h4,h5⟩,h6⟩:=h;rcases h6 with rfl|⟨g,cur,rfl,hS,hg⟩
 ·exact⟨⟨h1,h2,h3,h4,.inl rfl⟩,.inl rfl⟩
 ·have hg':=(hk g (ae hg) hS).trans hg;refine⟨⟨h1,h2,h3,h4,h5.imp id ?_⟩,.inr ⟨g,cur,rfl,hs g (ae hg) hS,hg'⟩⟩;rintro⟨b,o,e,hlt,hc⟩;cases e;exact⟨g,0,rfl,ae hg',fun j x hx=>by have:=hc j x hx;rw[ay hg] at this;rw[ay hg'];exact this⟩
theorem bO.below {w w':World} {a:Option Addr} {l c:Nat} {zs:List ByteArray} {S:Nat->Prop} (h:bO w a l c zs S) (hb:Below w.heap.size w w'):bO w' a l c zs S:=h.aI (fun k hk _=>hb.block k hk) (fun _ _ s=>s)
theorem bO.da {w:World} {a:Option Addr} {l c:Nat} {zs:List ByteArray} {S S':Nat->Prop} (h:bO w a l c zs S) (hs:∀k,k<w.heap.size->S k->S' k):bO w a l c zs S':=h.aI (fun _ _ _=>rfl) hs
theorem bO.qZ {w:World} {base n:Nat} {v:Value} {zs:List ByteArray} (h:w.ownsRow base 9 1 v n (zs.map sP)) (hs:∀(j:Nat) x,zs[j]?=some x->x.size<=9223372036854775807):∃a c,v=.slice a n c/\bO w a n c zs (fun k=>base<=k):=by
 obtain⟨hl,h⟩:=h;have hl':zs.length=n:=by simpa using hl
 rcases h with ⟨rfl,rfl⟩|⟨g,cap,cur,rfl,hbg,hg,hnc,hcm,hsz,htk⟩
 ·obtain rfl:zs=[]:=tt hl';exact⟨none,0,rfl,⟨rfl,sy _,by omega,fun j x hx=>by simp at hx,.inl rfl⟩,.inl rfl⟩
 ·refine⟨some ⟨g,0,none⟩,cap,rfl,⟨hl',hnc,by unfold maxLen at hcm;omega,hs,.inr ⟨g,0,rfl,ae hg,fun j x hx=>?_⟩⟩,.inr ⟨g,cur,rfl,hbg,hg⟩⟩;exact qp
theorem bD {w w':World} {base n m:Nat} {T:TypeId} {v:Value} {xs:List Value} (h:w.ownsRow base T m v n xs) (hb:Below w.heap.size w w'):w'.ownsRow base T m v n xs:=by
 refine⟨h.1,h.2.imp id ?_⟩;rintro⟨g,cap,cur,h1,h2,h3,h4⟩;exact⟨g,cap,cur,h1,h2,(hb.block _ (ae h3)).trans h3,h4⟩

theorem ob:∀(r:List Fv) (k:Int),(∀(i:Nat) zs,r[i]?=some (.l zs)->zs.length<=1048576)->mkN k r<=k+r.length*1048577
 | [],k,_=>by simp[mkN]
 | f ::r,k,h=>by
  have h1:=ob r (mkN1 k f) (fun i zs hi=>h (i+1) zs (by simpa using hi));have h2:mkN1 k f<=k+1048577:=by
   cases f with
   | l zs=>have:=h 0 zs rfl;simp only[mkN1];omega
   | _=>simp only[mkN1];omega
  simp only[mkN,tX];omega
theorem lj {m:Nat} :∀(rs:List (List Fv)) (k:Int),(∀(j:Nat) r,rs[j]?=some r->r.length<=m/\∀(i:Nat) zs,r[i]?=some (.l zs)->zs.length<=1048576)->aw k rs<=k+rs.length*(m*1048577)
 | [],k,_=>by simp[aw]
 | r ::rs,k,h=>by
  have h1:=lj rs (mkN k r) (fun j r' hj=>h (j+1) r' (by simpa using hj));obtain⟨h2,h3⟩:=h 0 r rfl;have h4:=ob r k h3;have h5:r.length*1048577<=m*1048577:=Nat.mul_le_mul_right _ h2;have h6:((rs.length+1:Nat):Int)*(m*1048577)=rs.length*(m*1048577)+m*1048577:=by
   rw[Int.natCast_add];simp[Int.add_mul]
  simp only[aw,tX];rw[h6];omega
theorem dj {α:Type} {F:α->List Fv} {xs:List α} {m:Nat} (hm:∀x,(F x).length<=m) (hl:∀(j:Nat) x,xs[j]?=some x->∀(i:Nat) zs,(F x)[i]?=some (.l zs)->zs.length<=1048576) (hx:xs.length<=1048576) (hm8:m<=8) (k:Int):aw k (xs.map F)<=k+8796101410816:=by
 have h:=lj (m:=m) (xs.map F) k (fun j r hj=>by
  rw[sK] at hj;obtain⟨x,h1,rfl⟩:=sF.1 hj
  exact⟨hm x,hl j x h1⟩)
 rw[td] at h;have h2:xs.length*(m*1048577)<=1048576*(8*1048577):=Nat.mul_le_mul hx (Nat.mul_le_mul_right _ hm8);have h3:((xs.length*(m*1048577):Nat):Int)=(xs.length:Int)*((m:Int)*1048577):=by rw[Int.natCast_mul,Int.natCast_mul];rfl
 rw[<-h3] at h;omega
theorem fa.q_ {c:Cl} (h:fa c):cj 1 c.raw<=1000000000000000:=by
 have one:∀{zs zs':List ByteArray},zs.length<=1048576->some (Fv.l zs)=some (.l zs')->zs'.length<=1048576:=fun h e=>by cases e;exact h
 have a1:=fun k=>dj (F:=ndF) (m:=7) (xs:=c.ns) (fun _=>sy _) (fun j x hx i zs hi=>by
  rcases i with _|_|_|_|_|_|_|i <;> first|(simp[ndF] at hi;done)|exact one (h.f1 j x hx) hi) h.l1 ak k
 have a2:=fun k=>dj (F:=kdF) (m:=4) (xs:=c.ks) (fun _=>sy _) (fun j x hx i zs hi=>by
  rcases i with _|_|_|_|i <;> (simp[kdF] at hi)) h.l2 ak k
 have a3:=fun k=>dj (F:=vdF) (m:=8) (xs:=c.vs) (fun _=>sy _) (fun j x hx i zs hi=>by
  rcases i with _|_|_|_|_|_|_|_|i <;> first|(simp[vdF] at hi;done)|exact one (h.f3 j x hx) hi) h.l3 ak k
 have a4:=fun k=>dj (F:=xdF) (m:=5) (xs:=c.xs) (fun _=>sy _) (fun j x hx i zs hi=>by
  rcases i with _|_|_|_|_|i <;> (simp[xdF] at hi)) h.l4 ak k
 have a5:=fun k=>dj (F:=pdF) (m:=6) (xs:=c.ps) (fun _=>sy _) (fun j x hx i zs hi=>by
  rcases i with _|_|_|_|_|_|i <;> first|(simp[pdF] at hi;done)|exact one (h.f5 j x hx) hi) h.l5 ak k
 unfold cj Cl.raw;have b1:=a1 1;have b2:=a2 (aw 1 (c.ns.map ndF));have b3:=a3 (aw (aw 1 (c.ns.map ndF)) (c.ks.map kdF));have b4:=a4 (aw (aw (aw 1 (c.ns.map ndF)) (c.ks.map kdF)) (c.vs.map vdF));have b5:=a5 (aw (aw (aw (aw 1 (c.ns.map ndF)) (c.ks.map kdF)) (c.vs.map vdF)) (c.xs.map xdF));simp only[];omega
theorem fa.marks {c:Cl} (h:fa c):cj 1 c.raw<=1152921504606846976:=sV h.q_ (by decide)

end Rc
end Go.Proofs.YtdfgbboadbnodaaGreatDoor

namespace Go.Proofs.YtdfgbboadbnodaaGreatDoor
open Go.RowKit
namespace Ap

def a8 (zs:List ByteArray) (w:World) (a:Option Addr) (len cap:Nat) (w':World):Prop:=
 ar w' a len cap zs/\(zs=[]\/∃g cur,a=some ⟨g,0,none⟩/\w.heap.size<=g/\w'.heap[g]?=some (.cells cur 9 (0,0)))/\Below w.heap.size w w'
theorem qX {w w0:World} {base n:Nat} {v:Value} {zs:List ByteArray} (h:w.ownsRow base 9 1 v n (zs.map sP)) (hb:Below base w0 w) (hB:base=w0.heap.size) (hs:∀(j:Nat) x,zs[j]?=some x->x.size<=9223372036854775807):
  ∃a l c,v=.slice a l c/\a8 zs w0 a l c w:=by
 subst hB;obtain⟨hl,h⟩:=h;have hl':zs.length=n:=by simpa using hl
 rcases h with ⟨rfl,rfl⟩|⟨g,cap,cur,rfl,hbg,hg,hnc,hcm,hsz,htk⟩
 ·obtain rfl:zs=[]:=tt hl';exact⟨none,0,0,rfl,⟨rfl,sy _,by omega,fun j x hx=>by simp at hx,.inl rfl⟩,.inl rfl,hb⟩
 ·refine⟨some ⟨g,0,none⟩,n,cap,rfl,⟨hl',hnc,by unfold maxLen at hcm;omega,hs,.inr ⟨g,0,rfl,ae hg,fun j x hx=>?_⟩⟩,.inr ⟨g,cur,rfl,hbg,hg⟩,hb⟩;exact qp
theorem lh {w:World} {ad:Addr} {len cap:Nat} {zs:List ByteArray} (h:ar w (some ad) len cap zs):∀j u,(zs.map sP)[j]?=some u->w.cell? (ad.add j)=some u:=by
 intro j u hu;rw[sK] at hu;obtain⟨x,hx,rfl⟩:=sF.1 hu;rcases h.2.2.2.2 with h|⟨b,o,e,_,hc⟩
 ·subst h;simp at hx
 ·cases e;rw[tB];exact hc j x hx

theorem gF (a:Option Addr) (len cap:Nat) (zs:List ByteArray) (w:World) (hr:ar w a len cap zs) (hl:len<=8001):
  Calls Tryz.prog 98 #[.slice a len cap] w fun e w'=> ∃a' l c,e=.returned (.slice a' l c)/\a8 zs w a' l c w':=by
 cases a with
 | none=>
  obtain rfl:zs=[]:=by
   rcases hr.2.2.2.2 with h|⟨b,o,e,_⟩
   ·exact h
   ·cases e
  obtain rfl:len=0:=by have:=hr.1;simpa using this.symm
  clear hr
  go_enter Tryz.func98,Tryz.ntmps98
  go_wp2
  go_ret;exact⟨_,_,_,rfl,⟨rfl,sy _,by omega,fun j x hx=>by simp at hx,.inl rfl⟩,.inl rfl,sB _ _⟩
 | some ad=>
  have HN:=aa (lh hr);have HZ:=aa hr.2.2.2.1;have hzl:=hr.1;clear hr;obtain⟨i0,hi,hz0,hz1,hz2⟩:=info_parts fh
  go_enter Tryz.func98,Tryz.ntmps98
  go_wp2_with (first|(at_builtin;refine wpList_append_own _ rfl _ _ 54 rfl w.heap.size 9 i0 (.string ⟨#[]⟩) 1 16 Tryz.underlying54 hi hz0 hz1 hz2 rfl ak _ 0 _ rfl (World.ownsRow_nil w w.heap.size 9 1) ad len cap (zs.map sP) rfl ?c1 HN.out ?c3 ?c4 ?c5 (sy _) ?_))
  case c1=>simpa using hzl
  case c3=>intro u hu;obtain⟨x,_,rfl⟩:=List.mem_map.1 hu;rfl
  case c4=>unfold maxLen;omega
  case c5=>omega
  intro v' w3 hown3 hgrow hv;have HB3:=aa ((sB w.heap.size w).grown hgrow (sy _) (fun k hk=>by cases hk));have HO:=aa hown3;clear hown3 hgrow hv
  go_wp2
  go_ret;obtain⟨a',l,c,rfl,h2⟩:=qX HO.out HB3.out rfl HZ.out;exact⟨a',l,c,rfl,h2⟩

theorem a8.set {zs:List ByteArray} {w w':World} {a:Option Addr} {l p b i X:Nat} {v:Value} (h:ar w' a l p zs/\(zs=[]\/∃g cur,a=some ⟨g,0,none⟩/\X<=g/\w'.heap[g]?=some (.cells cur 9 (0,0)))/\Below w.heap.size w w') (hb:w.heap.size<=b) (hX:b<X):
  ar (w'.setCell ⟨b,i,none⟩ v) a l p zs/\(zs=[]\/∃g cur,a=some ⟨g,0,none⟩/\X<=g/\(w'.setCell ⟨b,i,none⟩ v).heap[g]?=some (.cells cur 9 (0,0)))/\Below w.heap.size w (w'.setCell ⟨b,i,none⟩ v):=by
 obtain⟨⟨h1,h2,h3,h4,h5⟩,h6,h7⟩:=h;refine⟨⟨h1,h2,h3,h4,?_⟩,?_,h7.setCell hb v⟩
 ·rcases h6 with h6|⟨g,cur,rfl,hg,hh⟩
  ·exact .inl h6
  ·rcases h5 with h5|⟨g',o,e,hl,hc⟩
   ·exact .inl h5
   ·cases e;have hs:(w'.setCell ⟨b,i,none⟩ v).heap[g]?=w'.heap[g]?:=sz _ _ _ _ (show g≠b by omega);exact .inr ⟨g,0,rfl,by simpa[sZ] using hl,fun j x hx=>by have:=hc j x hx;simp only[World.cell?,hs] at this ⊢;exact this⟩
 ·rcases h6 with h6|⟨g,cur,rfl,hg,hh⟩
  ·exact .inl h6
  ·exact .inr ⟨g,cur,rfl,hg,(sz _ _ _ _ (show g≠b by omega)).trans hh⟩

theorem rq (n:ByteArray) (c:Int) (z:ByteArray) (k:ByteArray) (x:Bool) (m:ByteArray) (y:Bool) (a:Option Addr) (len cap:Nat) (zs:List ByteArray) (w:World) (hr:ar w a len cap zs) (hl:len<=8001):
  Calls Tryz.prog 52 #[.agg #[.string n,.int .i64 c,.string z,.string k,.bool x,.string m,.bool y,.slice a len cap]] w fun e w'=> ∃a' l p,e=.returned (.agg #[.string n,.int .i64 c,.string z,.string k,.bool x,.string m,.bool y,.slice a' l p])/\a8 zs w a' l p w':=by
 have hown:(((w.alloc (.cells #[.string n,.int .i64 c,.string z,.string k,.bool x,.string m,.bool y,.slice a len cap] 101)).alloc (.cells #[.string ⟨#[]⟩,.int .i64 0,.string ⟨#[]⟩,.string ⟨#[]⟩,.bool false,.string ⟨#[]⟩,.bool false,.slice none 0 0] 101)).alloc (.cells #[] 9)).ownsRow (w.heap.size+1+1) 9 1 (.slice (some ⟨w.heap.size+1+1,0,none⟩) 0 0) 0 []:=⟨rfl,.inr ⟨w.heap.size+1+1,0,#[],rfl,sy _,dw _ _ _ _,sy _,by unfold maxLen;omega,rfl,rfl⟩⟩;have HOW:=aa hown;have hr3:=hr.below (bx w (.cells #[.string n,.int .i64 c,.string z,.string k,.bool x,.string m,.bool y,.slice a len cap] 101) (.cells #[.string ⟨#[]⟩,.int .i64 0,.string ⟨#[]⟩,.string ⟨#[]⟩,.bool false,.string ⟨#[]⟩,.bool false,.slice none 0 0] 101) (.cells #[] 9));have HZ:=aa hr.2.2.2.1;have hzl:=hr.1;have HR3:=aa hr3;clear hown hr3;obtain⟨i0,hi,hz0,hz1,hz2⟩:=info_parts fh;cases a with
 | none=>
  obtain rfl:zs=[]:=by
   rcases hr.2.2.2.2 with h|⟨b,o,e,_⟩
   ·exact h
   ·cases e
  obtain rfl:len=0:=by simpa using hzl.symm
  clear hr HOW HR3 hi hz0 hz1 hz2
  go_enter Tryz.func52,Tryz.ntmps52
  go_wp2
  exact bodyPost_ret (v:=.agg #[.string n,.int .i64 c,.string z,.string k,.bool x,.string m,.bool y,.slice (some ⟨w.heap.size+1+1,0,none⟩) 0 0]) (by simp[results,Tryz.results52,go_sem]) rfl ⟨_,_,_,rfl,⟨rfl,sy _,by omega,fun j x hx=>by simp at hx,.inl rfl⟩,.inl rfl,bx _ _ _ _⟩
 | some ad=>
  have HN:=aa (lh HR3.out);clear hr
  go_enter Tryz.func52,Tryz.ntmps52
  go_wp2_with (first|(at_builtin;refine wpList_append_own _ rfl _ _ 54 rfl (w.heap.size+1+1) 9 i0 (.string ⟨#[]⟩) 1 16 Tryz.underlying54 hi hz0 hz1 hz2 rfl ak _ 0 _ rfl HOW.out ad len cap (zs.map sP) rfl ?c1 HN.out ?c3 ?c4 ?c5 aT ?_))
  case c1=>simpa using hzl
  case c3=>intro u hu;obtain⟨x,_,rfl⟩:=List.mem_map.1 hu;rfl
  case c4=>unfold maxLen;omega
  case c5=>omega
  intro v' w3 hown3 hgrow hv;have hb3:=(sB (w.heap.size+1+1) _).grown hgrow aT (fun k hk=>by simp[Value.ownBlock] at hk;omega);have g0:=(hb3.block w.heap.size af).trans (fi _ _ _ _);have g1:=(hb3.block (w.heap.size+1) af).trans (dx _ _ _ _)
  obtain⟨a',l,p,rfl,hq⟩:∃a' l p,v'=.slice a' l p/\(ar w3 a' l p zs/\(zs=[]\/∃g cur,a'=some ⟨g,0,none⟩/\w.heap.size+1+1<=g/\w3.heap[g]?=some (.cells cur 9 (0,0)))/\Below w.heap.size w w3):=by
   have hbw:=(bx w _ _ _).trans (hb3.mono af);have ho:=hown3;obtain⟨hl1,h⟩:=ho;have hl':=hzl
   rcases h with ⟨rfl,h0⟩|⟨g,cp,cur,rfl,hbg,hg,hnc,hcm,hsz,htk⟩
   ·obtain rfl:zs=[]:=tt af;exact⟨none,0,0,rfl,⟨rfl,sy _,by omega,fun j x hx=>by simp at hx,.inl rfl⟩,.inl rfl,hbw⟩
   ·refine⟨some ⟨g,0,none⟩,len,cp,rfl,⟨hl',hnc,by unfold maxLen at hcm;omega,HZ.out,.inr ⟨g,0,rfl,ae hg,fun j x hx=>?_⟩⟩,.inr ⟨g,cur,rfl,hbg,hg⟩,hbw⟩;rw[th,ay hg]
    have hj:j<len:=by have:=(sv.1 hx).1;omega
    have e1:(cur.toList.take (len*1))[j]?=some (.string x):=by rw[htk];simp[hx]
    rw[sW,if_pos af] at e1
    simpa using e1
  have HQ:=aa hq;have d0:=ck0 g0;have d1:=ck1 g0;have d2:=ck2 g0;have d3:=ck3 g0;have d4:=ck4 g0;have d5:=ck5 g0;have d6:=ck6 g0;have d7:=ck7 g0;have df7:=aq g0 7;have e0:=ck0 g1;have ef0:=aq g1 0;have e1:=ck1 g1;have ef1:=aq g1 1;have e2:=ck2 g1;have ef2:=aq g1 2;have e3:=ck3 g1;have ef3:=aq g1 3;have e4:=ck4 g1;have ef4:=aq g1 4;have e5:=ck5 g1;have ef5:=aq g1 5;have e6:=ck6 g1;have ef6:=aq g1 6;have e7:=ck7 g1;have ef7:=aq g1 7;have HQ2:=aa (a8.set (a8.set (a8.set (a8.set (a8.set (a8.set (a8.set (a8.set (a8.set HQ.out (b:=w.heap.size) (i:=7) af af (v:=.slice a' l p)) (b:=w.heap.size+1) (i:=0) af af (v:=(.string n))) (b:=w.heap.size+1) (i:=1) af af (v:=(.int .i64 c))) (b:=w.heap.size+1) (i:=2) af af (v:=(.string z))) (b:=w.heap.size+1) (i:=3) af af (v:=(.string k))) (b:=w.heap.size+1) (i:=4) af af (v:=(.bool x))) (b:=w.heap.size+1) (i:=5) af af (v:=(.string m))) (b:=w.heap.size+1) (i:=6) af af (v:=(.bool y))) (b:=w.heap.size+1) (i:=7) af af (v:=(.slice a' l p)));clear hown3 hgrow hv hb3 g0 g1 hq;go_wp2_with fail;refine bodyPost_ret (v:=.agg #[.string n,.int .i64 c,.string z,.string k,.bool x,.string m,.bool y,.slice a' l p]) (by simp[results,Tryz.results52,go_sem, *]) rfl ⟨a',l,p,rfl,HQ2.1,?_,HQ2.2.2⟩
  rcases HQ2.2.1 with h|⟨g,cur,h1,h2,h3⟩
  ·exact .inl h
  ·exact .inr ⟨g,cur,h1,by omega,h3⟩

theorem rD (n:ByteArray) (c:Int) (z:ByteArray) (k:ByteArray) (x:Bool) (m:ByteArray) (y:Bool) (a:Option Addr) (len cap:Nat) (zs:List ByteArray) (w:World) (hr:ar w a len cap zs) (hl:len<=8001):
  Calls Tryz.prog 92 #[.agg #[.string n,.int .i64 c,.string z,.string k,.bool x,.string m,.bool y,.slice a len cap]] w fun e w'=> ∃a' l p,e=.returned (.agg #[.string n,.int .i64 c,.string z,.string k,.bool x,.string m,.bool y,.slice a' l p])/\a8 zs w a' l p w':=by
 have HR:=aa (hr.below (aB w (.cells #[.string n,.int .i64 c,.string z,.string k,.bool x,.string m,.bool y,.slice a len cap] 101) (.cells #[.string ⟨#[]⟩,.int .i64 0,.string ⟨#[]⟩,.string ⟨#[]⟩,.bool false,.string ⟨#[]⟩,.bool false,.slice none 0 0] 101)));clear hr;go_enter Tryz.func92,Tryz.ntmps92;go_wp2_with fail;refine (gF a len cap zs _ HR.out hl).mono ?_;rintro e w3 ⟨a',l,p,rfl,h1,h2,hb⟩;have g0:=(hb.block w.heap.size cC).trans (cY _ _ _);have g1:=(hb.block (w.heap.size+1) aT).trans (bB _ _ _);have HQ:Hid (ar w3 a' l p zs/\(zs=[]\/∃g cur,a'=some ⟨g,0,none⟩/\w.heap.size+1+1<=g/\w3.heap[g]?=some (.cells cur 9 (0,0)))/\Below w.heap.size w w3):=⟨h1,by simpa using h2,(aB w _ _).trans (hb.mono cC)⟩;have d0:=ck0 g0;have d1:=ck1 g0;have d2:=ck2 g0;have d3:=ck3 g0;have d4:=ck4 g0;have d5:=ck5 g0;have d6:=ck6 g0;have d7:=ck7 g0;have df7:=aq g0 7;have e0:=ck0 g1;have ef0:=aq g1 0;have e1:=ck1 g1;have ef1:=aq g1 1;have e2:=ck2 g1;have ef2:=aq g1 2;have e3:=ck3 g1;have ef3:=aq g1 3;have e4:=ck4 g1;have ef4:=aq g1 4;have e5:=ck5 g1;have ef5:=aq g1 5;have e6:=ck6 g1;have ef6:=aq g1 6;have e7:=ck7 g1;have ef7:=aq g1 7;have HQ2:=aa (a8.set (a8.set (a8.set (a8.set (a8.set (a8.set (a8.set (a8.set (a8.set HQ.out (b:=w.heap.size) (i:=7) af af (v:=.slice a' l p)) (b:=w.heap.size+1) (i:=0) af af (v:=.string n)) (b:=w.heap.size+1) (i:=1) af af (v:=.int .i64 c)) (b:=w.heap.size+1) (i:=2) af af (v:=.string z)) (b:=w.heap.size+1) (i:=3) af af (v:=.string k)) (b:=w.heap.size+1) (i:=4) af af (v:=.bool x)) (b:=w.heap.size+1) (i:=5) af af (v:=.string m)) (b:=w.heap.size+1) (i:=6) af af (v:=.bool y)) (b:=w.heap.size+1) (i:=7) af af (v:=.slice a' l p));clear h1 h2 hb g0 g1;go_wp2_with fail;refine bodyPost_ret (v:=.agg #[.string n,.int .i64 c,.string z,.string k,.bool x,.string m,.bool y,.slice a' l p]) (by simp[results,Tryz.results92,go_sem, *]) rfl ⟨a',l,p,rfl,HQ2.1,?_,HQ2.2.2⟩;rcases HQ2.2.1 with h|⟨g,cur,h1,h2,h3⟩
 ·exact .inl h
 ·exact .inr ⟨g,cur,h1,by omega,h3⟩

end Ap
end Go.Proofs.YtdfgbboadbnodaaGreatDoor
