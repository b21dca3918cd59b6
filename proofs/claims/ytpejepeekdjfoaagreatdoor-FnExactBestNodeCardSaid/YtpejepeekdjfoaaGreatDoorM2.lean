import Derived.Test.YtpejepeekdjfoaaGreatDoorM1
import Derived.Test.YtpejepeekdjfoaaGreatDoorRows
import Derived.WalkKit
import Derived.WalkSpells
import Derived.OwnWalk
import Derived.Outline
import Derived.Laws.Cover1
import Derived.Lib.BufferWrite
import Derived.Laws.CopyOwn
import Derived.Deep.QuietTactic
import Derived.BigQuiet
import Derived.WalkSmall
import Derived.RegionTactic
import Derived.Laws.AppendOwn
import Derived.Laws.AppendOwnNone
import Derived.Deep.AppendLies
set_option maxRecDepth 100000
set_option maxHeartbeats 12800000
open And renaming intro→Fo
open Array renaming getD_eq_getD_getElem?→Fx, getElem?_push_size→FD, getElem?_eq_some_iff→FG, getElem?_setIfInBounds→FL
open Bool renaming and_eq_true→Gl, eq_false_or_eq_true→G1
open Go.Act renaming put→GI
open Go.Addr renaming add_lit→FT
open Go.Builtin renaming append_→GC, zeroCells→G6
open Go.Calls renaming quiet_of_same→FY
open Go.Op renaming bytesLess→FB
open Go.Region renaming wanted→GO
open Go.RowKit.Below renaming heap_setCell→Fp, refl→Fw, heap_alloc→Fy
open Go.Value renaming string→FK, oneCell'→GF, ownBlock→GZ
open Go.World renaming setCell→Gf
open Int renaming le_trans→F8
open List renaming getElem?_eq_some_iff→Fm, lookup→Fs, getElem?_eq_getElem→Fu, setIfInBounds_toArray→Fz, getElem?_map→FC, take_of_length_le→FF, set_cons_zero→FH, forall_mem_cons→FI, set_cons_succ→FM, getElem?_append_left→FN, length_take→FQ, getElem?_take→FR, length_map→FU, mem_of_getElem?→FZ, length_append→F7, getElem?_cons_zero→F9, foldr→Gd, mem_cons→Gj, getElem?_drop→Gm, range→Gq, all_eq_true→GA, append_nil→GD, length_drop→GG, eq_nil_of_length_eq_zero→GJ, getElem?_set→Hg
open Nat renaming le_refl→Ft, le_trans→FA, lt_of_lt_of_le→FE, le_succ→FV, zero_add→FX
open Option renaming map_eq_some_iff→FJ
open Option.some renaming inj→Fq, injEq→Gw
namespace Go.Proofs.YtpejepeekdjfoaaGreatDoor
theorem ny {p:Prop} (h:p:=by rw[Nat.sub_add_cancel hk0];exact HXx.out):p:=h
theorem BB {p:Prop} (h:p:=by have h1:=(Fm.1 ht).1;have h2:=HVL.out;omega):p:=h
end Go.Proofs.YtpejepeekdjfoaaGreatDoor
namespace Go.Proofs.YtpejepeekdjfoaaGreatDoor
theorem E1 {p:Prop} (h:p:=by
 rcases hcase with ⟨v,hbd⟩|hbd
 ·obtain⟨j3,hj3⟩:=hbd.at;have hl3':j3<l3:=by have h1:=(Fm.1 hj3).1;omega
  obtain⟨b3,o3,v',rfl,hb3,hv',hat⟩:=bN HR.v hl3';rw[hj3] at hv';obtain rfl:=Fq hv';obtain⟨xa,xl,xc,hvr,z0,z2,z3,z5,d0,d1,d2,d3,d4,d5,d6,d7⟩:=aK hat;have HJ:=aa hj3;have HD:=aa hbd;have HC2:=aa d2;have HB3:=aa hb3;have hj31:decide ((j3:Int)<0)=false:=aS
  clear hv' hat hvr z0 z2 z3 z5 d0 d1 d2 d3 d4 d5 d6 d7 hj3 hbd hb3;obtain⟨Gk,Gr,HW⟩:=bO;obtain⟨k0,k1,k2,k3,k4,k5⟩:=sl6 Gk;have r3:=fun q:Wd wr=>q.slot (o:=3) Gr.out rfl;obtain⟨tw,hne0⟩:=iU;have HC0:=aa (fun q:Wd wr=>fA ⟨(some ⟨b1,o1,none⟩),l1,y1,a2,l2,y2,(some ⟨b3,o3,none⟩),l3,y3,a4,l4,y4,(some ⟨b,o,none⟩),l5,y5⟩ c t q.w (HR.below (HW.trans (q.b.mono HW.size))) HX.out HV.out HNE.out HJ.out HD.out);go_wp2_with fail;refine ag aq aq ?_;repeat (go_big_quiet_step (first|(go_at_call 102;exact Calls.wide (HC0.out _))|fail))
  refine wpQuiet_nil ?_;rintro _ ⟨q1,rfl⟩;obtain⟨HB1,Ck⟩:=cM;have Cr:=upK Gr q1.b;clear hne0 HW HB HC0 k0 k1 k2 k3 k4 k5 r3 tw Gk Gr Bk Br pr3;have HB:=HB1;clear HB1;have Bk:=Ck;clear Ck;have Br:=Cr;clear Cr;obtain⟨hc1,hb1,HBW1⟩:=sj;clear hc hb HBW;by_cases hg:∃(i:Nat) (x:Xd),c.xs[i]?=some x/\x.n=t;rotate_left
  ·have HG:=aa hg;clear hg;obtain⟨Gk,Gr,HW⟩:=bO;obtain⟨k0,k1,k2,k3,k4,k5⟩:=sl6 Gk;obtain⟨r0,r1,r2,r3,r4,r5⟩:=sl6 Gr;obtain⟨tw,hne0⟩:=jM;have HC0:=aa (fun q:Wd q1.w=>fw ⟨(some ⟨b1,o1,none⟩),l1,y1,a2,l2,y2,(some ⟨b3,o3,none⟩),l3,y3,a4,l4,y4,(some ⟨b,o,none⟩),l5,y5⟩ c.now c.xs t q.w (HR.x.below (HW.trans (q.b.mono HW.size))) (fun i x h1 h2=>HG.out ⟨i,x,h1,h2⟩));exact qi
  obtain⟨i4,x4,g1,g2⟩:=hg;obtain⟨HG1,HG2,hi41⟩:=lV;clear g1 g2;have hbv:=FE HB3.out HB.size;have v2:=(ak HB.out HB3.out).trans HC2.out;have hbn:=FE HBn.out HB.size;have n1:=(ak HB.out HBn.out).trans HCn.out;by_cases hz:v.z=n.z
  ·have hzq:=a9 hz;have HZ:=aa hz;clear hz;obtain⟨Gk,Gr,HW⟩:=bO;obtain⟨k0,k1,k2,k3,k4,k5⟩:=sl6 Gk;obtain⟨r0,r1,r2,r3,r4,r5⟩:=sl6 Gr;obtain⟨tw,vw,nw,hne0,HC0⟩:=B9;go_wp2_with fail;refine ag aq aq ?_;repeat (go_big_quiet_step (first|(go_at_call 103;exact Calls.wide (HC0.out _))|fail))
   refine wpQuiet_nil ?_;rintro _ ⟨q2,rfl⟩;obtain⟨HB2,Ck⟩:=dL;have Cr:=upK Gr q2.b;clear hne0 HW HB HC0 k0 k1 k2 k3 k4 k5 r0 r1 r2 r3 r4 r5 tw vw nw Gk Gr Bk Br hc1 hb1 hbv v2 hbn n1;have HB:=HB2;clear HB2;have Bk:=Ck;clear Ck;have Br:=Cr;clear Cr;clear hzq;go_wp2_with fail;refine⟨⟨kq+1,by omega,by go_num,fun j s hj hs=>?_,HBW1.trans (q2.b.mono HBW1.size)⟩,by simp[intOf];omega⟩;by_cases e:j=kq
   ·subst e;rw[HXt.out] at hs;obtain rfl:=Fq hs;exact⟨⟨i4,x4,HG1.out,HG2.out⟩,.inr ⟨v,j1,n,HD.out,HJn.out,HNn.out,HZ.out⟩⟩
   ·exact HQ2.out j s af hs
  ·have hzq:=bC hz;have HZ:=aa hz;clear hz;obtain⟨Gk,Gr,HW⟩:=bO;obtain⟨k0,k1,k2,k3,k4,k5⟩:=sl6 Gk;obtain⟨r0,r1,r2,r3,r4,r5⟩:=sl6 Gr;obtain⟨tw,vw,nw,hne0,HC0⟩:=B9;go_wp2_with fail;refine ag aq aq ?_;repeat (go_big_quiet_step (first|(go_at_call 103;exact Calls.wide (HC0.out _))|fail))
   refine wpQuiet_nil ?_;rintro _ ⟨q2,rfl⟩;obtain⟨HB2,Ck⟩:=dL;have Cr:=upK Gr q2.b;clear hne0 HW HB HC0 k0 k1 k2 k3 k4 k5 r0 r1 r2 r3 r4 r5 tw vw nw Gk Gr Bk Br hc1 hb1 hbv v2 hbn n1;have HB:=HB2;clear HB2;have Bk:=Ck;clear Ck;have Br:=Cr;clear Cr;go_wp2;go_ret;refine ar.f (fun h=>?_) HB.out;have h9:=(h.1 k p HXp.out).2.1 kq t HXt.out;rcases h9.2 with h2|⟨v',i,n',h2,h3,h4,h5⟩
   ·exact HEm.out h2
   ·obtain rfl:=bJ.inj HX.out HV.out HD.out h2;obtain⟨_,rfl⟩:=HNR.inj h3 HJn.out (h4.trans HNn.symm);exact HZ.out h5
 ·have HD:=aa hbd;clear hbd;obtain⟨Gk,Gr,HW⟩:=bO;obtain⟨k0,k1,k2,k3,k4,k5⟩:=sl6 Gk;have r3:=fun q:Wd wr=>q.slot (o:=3) Gr.out rfl;obtain⟨tw,hne0⟩:=iU;have HC0:=aa (fun q:Wd wr=>ga ⟨(some ⟨b1,o1,none⟩),l1,y1,a2,l2,y2,a3,l3,y3,a4,l4,y4,(some ⟨b,o,none⟩),l5,y5⟩ c t q.w (HR.below (HW.trans (q.b.mono HW.size))) HX.out HV.out HNE.out HD.out);go_wp2_with fail;refine ag aq aq ?_;repeat (go_big_quiet_step (first|(go_at_call 102;exact Calls.wide (HC0.out _))|fail))
  refine wpQuiet_nil ?_;rintro _ ⟨q1,rfl⟩;obtain⟨HB1,Ck⟩:=cM;have Cr:=upK Gr q1.b;clear hne0 HW HB HC0 k0 k1 k2 k3 k4 k5 r3 tw Gk Gr Bk Br pr3;have HB:=HB1;clear HB1;have Bk:=Ck;clear Ck;have Br:=Cr;clear Cr;obtain⟨hc1,hb1,HBW1⟩:=sj;clear hc hb HBW;by_cases hg:∃(i:Nat) (x:Xd),c.xs[i]?=some x/\x.n=t;rotate_left
  ·have HG:=aa hg;clear hg;obtain⟨Gk,Gr,HW⟩:=bO;obtain⟨k0,k1,k2,k3,k4,k5⟩:=sl6 Gk;obtain⟨r0,r1,r2,r3,r4,r5⟩:=sl6 Gr;obtain⟨tw,hne0⟩:=jM;have HC0:=aa (fun q:Wd q1.w=>fw ⟨(some ⟨b1,o1,none⟩),l1,y1,a2,l2,y2,a3,l3,y3,a4,l4,y4,(some ⟨b,o,none⟩),l5,y5⟩ c.now c.xs t q.w (HR.x.below (HW.trans (q.b.mono HW.size))) (fun i x h1 h2=>HG.out ⟨i,x,h1,h2⟩));exact qi
  obtain⟨i4,x4,g1,g2⟩:=hg;obtain⟨HG1,HG2,hi41⟩:=lV;clear g1 g2;obtain⟨Gk,Gr,HW⟩:=bO;obtain⟨k0,k1,k2,k3,k4,k5⟩:=sl6 Gk;obtain⟨r0,r1,r2,r3,r4,r5⟩:=sl6 Gr;obtain⟨tw,hne0⟩:=jM;have HC0:=aa (fun q:Wd q1.w=>e_ ⟨(some ⟨b1,o1,none⟩),l1,y1,a2,l2,y2,a3,l3,y3,a4,l4,y4,(some ⟨b,o,none⟩),l5,y5⟩ c.now c.xs t q.w (HR.x.below (HW.trans (q.b.mono HW.size))) HX.out HG1.out HG2.out);go_wp2_with fail;refine ag aq aq ?_;repeat (go_big_quiet_step (first|(go_at_call 103;exact Calls.wide (HC0.out _))|fail))
  refine wpQuiet_nil ?_;rintro _ ⟨q2,rfl⟩;obtain⟨HB2,Ck⟩:=dL;have Cr:=upK Gr q2.b;clear hne0 HW HB HC0 k0 k1 k2 k3 k4 k5 r0 r1 r2 r3 r4 r5 tw Gk Gr Bk Br hc1 hb1;have HB:=HB2;clear HB2;have Bk:=Ck;clear Ck;have Br:=Cr;clear Cr;go_wp2;go_ret;refine ar.f (fun h=>?_) HB.out;have h9:=(h.1 k p HXp.out).2.1 kq t HXt.out;rcases h9.2 with h2|⟨v',i,n',h2,_⟩
  ·exact HEm.out h2
  ·exact HD.out v' h2):p:=h
theorem E0 {p:Prop} (h:p:=by
 obtain rfl:vl=kq:=af
 have HQb:Hid (PSb c p):=fun j t ht=>HQ2.out j t BB ht;clear HQ2;have TV2:=aa (TV.below HBW.out);have KV2:=Bk;have GV2:=Br;have BV2:=HB;clear KV GV BV TV Bk Br HB HBW;obtain⟨W2,hW⟩:∃W2,W2=wr:=⟨_,rfl⟩;rw[<-hW] at KV2 GV2 BV2 TV2;go_wp2;clear pr3;rw[<-hW];clear hW;go_loopw [8] (fun i wr=> ∃kz:Nat,kz<=k/\i=.int .i64 kz/\Hid (∀(j:Nat) q,j<kz->c.ps[j]?=some q->lJ c q p)/\Hid (Below W2.heap.size W2 wr)) (fun i _=>k - (intOf i).toNat);case atStart=>exact⟨0,by omega,rfl,fun _ _ h=>absurd h af,Fw _ _⟩
 case round=>
  obtain⟨kz,hkz,rfl,HQ3,HBW⟩:=hrel;have HB:=aa (BV2.trans (HBW.mono BV2.size));have Bk:=upK KV2 HBW.out;have Br:=upK GV2 HBW.out;have HTp:=aa (TV2.below HBW.out);by_cases hlt3:kz<k
  ·obtain⟨b',o',pq,e',hb',hqq,hatq⟩:=bY (HR.p.below HB.out) (show kz<l5 by omega);cases e';obtain⟨qa,ql,qc,hqr,z0,z2,z4,d0,d1,d2,d3,d4,d5⟩:=aT hatq;have HXq:=aa hqq;have HTq:=aa hqr;clear hatq hqq hqr z0 z2 z4;by_cases hpr:lJ c pq p
   ·have HPr:=aa hpr;clear hpr;obtain⟨Gk,Gr,HW⟩:=bO;obtain⟨k0,k1,k2,k3,k4,k5⟩:=sl6 Gk;obtain⟨r0,r1,r2,r3,r4,r5⟩:=sl6 Gr;obtain⟨q0,q1,q2,q3,q4,q5,hne0⟩:=Ar;have HC0:=aa (fun qw:Wd wr=>(fx ⟨(some ⟨b1,o1,none⟩),l1,y1,a2,l2,y2,a3,l3,y3,a4,l4,y4,(some ⟨b,o,none⟩),l5,y5⟩ c pq p qa ql qc va vl vc qw.w (HR.below (HW.trans (qw.b.mono HW.size))) HX.out HV.out HNE.out (HTq.below qw.b) (HTp.below qw.b)).mono (fun _ _ h=>ar.yes h HPr.out));exact xD
   ·have HPr:=aa hpr;clear hpr;obtain⟨Gk,Gr,HW⟩:=bO;obtain⟨k0,k1,k2,k3,k4,k5⟩:=sl6 Gk;obtain⟨r0,r1,r2,r3,r4,r5⟩:=sl6 Gr;obtain⟨q0,q1,q2,q3,q4,q5,hne0⟩:=Ar;have HC0:=aa (fun qw:Wd wr=>(fx ⟨(some ⟨b1,o1,none⟩),l1,y1,a2,l2,y2,a3,l3,y3,a4,l4,y4,(some ⟨b,o,none⟩),l5,y5⟩ c pq p qa ql qc va vl vc qw.w (HR.below (HW.trans (qw.b.mono HW.size))) HX.out HV.out HNE.out (HTq.below qw.b) (HTp.below qw.b)).mono (fun _ _ h=>ar.no h HPr.out));exact xB
  ·exact xy):p:=h
theorem Ea {p:Prop} (h:p:=by
 exact qi):p:=h
theorem oh {p:Prop} (h:p:=by
 have HB:=HB1;clear HB1;have Bk:=Ck;clear Ck;clear ek;go_wp2_with fail;refine⟨⟨k+1,by omega,by go_num,fun j z hj hz=>?_,fun j z y hj hz hy=>?_,HB.out,Bk.out⟩,by simp[intOf];omega⟩
 ·exact wX
 ·by_cases e:j+1=k
  ·have hj:j=k - 1:=af
   subst hj;rw[Nat.sub_add_cancel hk0,HXx.out] at hz;obtain rfl:=Fq hz;rw[HXy.out] at hy;obtain rfl:=Fq hy;exact hless
  ·exact HO.out j z y af hz hy):p:=h
theorem og {p:Prop} (h:p:=by
 have HB:=HB1;clear HB1;have Bk:=Ck;clear Ck;clear hd;go_wp2_with fail;refine⟨⟨k+1,by omega,by go_num,fun j z hj hz=>?_,fun j z y hj hz hy=>?_,HB.out,Bk.out⟩,by simp[intOf];omega⟩
 ·exact wX
 ·by_cases e:j+1=k
  ·exact absurd hk0 af
  ·exact HO.out j z y af hz hy):p:=h
theorem oe {p:Prop} (h:p:=by
 by_cases hn:x.n=t
 ·have hq:=a9 hn;have HN:=aa hn;clear hn;go_wp2;go_ret;exact⟨al _ _,.inl ⟨k,x,HX.out,HN.out,rfl⟩⟩
 ·have hq:=bC hn;have HN:=aa hn;clear hn;go_wp2;refine⟨⟨k+1,by omega,by go_num,by rw[ha],fun j z hj hz=>?_⟩,by simp[intOf];omega⟩;exact wW):p:=h
theorem nY {p:Prop} (h:p:=by
 refine Obl.plain rfl ?_;intro ac wg K hsz hW hf hK;clear hsz;clear hf;go_simp;exact hK _ _ (al _ _) ⟨_,rfl,hW.size,FD⟩):p:=h
theorem sz {p:Prop} (h:p:=by
 rintro e w' ⟨hb,h⟩;rcases h with ⟨i,y,h1,h2,rfl⟩|⟨h1,rfl⟩
 ·obtain⟨rfl,_⟩:=hs.inj h1 hx (h2.trans hn.symm);exact⟨rfl,hb⟩
 ·exact absurd hn (h1 j x hx)):p:=h
theorem nU {p:Prop} (h:p:=by
 go_wp2;go_ret;exact⟨al _ _,.inr ⟨fun j z hz=>HE.out j z c_ hz,rfl⟩⟩):p:=h
theorem su {p:Prop} (h:p:=by
 go_wp2;go_round;case rel=>exact⟨k+1,by omega,by go_num,ln hlt HB.out HA.out⟩
 case measure=>simp[intOf];omega):p:=h
theorem ss {p:Prop} (h:p:=by
 rintro e w' ⟨hb,h⟩;rcases h with ⟨i,y,h1,h2,rfl⟩|⟨h1,rfl⟩
 ·exact absurd h2 (hn i y h1)
 ·exact⟨rfl,hb⟩):p:=h
theorem yM {p:Prop} (h:p:=by
 have HCq:=aa hq;go_wp2_with fail;refine⟨⟨k+1,by omega,by go_num,fun j z hj hz=>?_,HB.out,Bk.out⟩,by simp[intOf];omega⟩;by_cases e:j=k
 ·subst e;rw[HXn.out] at hz;obtain rfl:=Fq hz;exact HCq.out
 ·exact HQ.out j z af hz):p:=h
theorem qH {p:Prop} (h:p:=by
 go_wp2_with (go_at_call 138;refine (mr _ _ _ _).mono ?_;rintro e w1 ⟨r,rfl,hr,rfl⟩);go_ret;exact⟨r,rfl,hr,rfl⟩):p:=h
theorem jZ {p:Prop} (h:p:=by
 obtain⟨q,h1,h2⟩:=haty 0 _ rfl;obtain⟨rfl,-⟩:=h2;exact h1):p:=h
theorem yG {p:Prop} (h:p:=by
 by_cases h:∃v,bJ c t v
 ·exact .inl h
 ·exact .inr (fun v hv=>h ⟨v,hv⟩)):p:=h
theorem yr {p:Prop} (h:p:=by
 have HN:=aa (fun h=>hq (hr.2 h));clear hsl hb hb1 hr;go_wp2_with fail;go_ret;exact⟨false,rfl,⟨fun h=>bU,fun h=>(HN.out (iE h.2.2.2.2.2.2)).elim⟩,HB.out⟩):p:=h
theorem yp {p:Prop} (h:p:=by
 obtain rfl:l1=k:=af
 go_wp2;go_ret;exact ar.t ⟨HQ1.out,fun j n hz=>HQ.out j n c_ hz⟩ HB.out):p:=h
theorem yi {p:Prop} (h:p:=by
 rw[Array.getElem?_setIfInBounds_ne (fun e2=>hne (by have:=AT af af e2;exact⟨this.1.symm,this.2.symm⟩))];exact k1):p:=h
theorem Dp {p:Prop} (h:p:=by
 subst e;rw[HXt.out] at hs;obtain rfl:=Fq hs;exact⟨⟨i4,x4,HG1.out,HG2.out⟩,.inl HEm.out⟩):p:=h
theorem xE {p:Prop} (h:p:=by
 obtain⟨gb,hgb⟩:∃gb,gb=wr.heap.size:=⟨_,rfl⟩;rw[<-hgb] at Br;have pr3:=ck3 Br;rw[hgb] at pr3;go_wp2;rw[<-hgb];clear pr3 hgb;have KV:=Bk;have GV:=Br;have BV:=HB;have TV:=HTp;clear Bk Br HB HTp;obtain⟨W,hW⟩:∃W,W=q0.w:=⟨_,rfl⟩;rw[<-hW] at KV GV BV TV ⊢;clear hW;go_loopw [6] (fun i wr=> ∃kq:Nat,kq<=vl/\i=.int .i64 kq/\Hid (∀(j:Nat) t,j<kq->p.zs[j]?=some t->D1 c p t)/\Hid (Below W.heap.size W wr)) (fun i _=>vl - (intOf i).toNat);case atStart=>exact⟨0,by omega,rfl,fun _ _ h=>absurd h af,Fw _ _⟩
 case round=>
  obtain⟨kq,hkq,rfl,HQ2,HBW⟩:=hrel;obtain⟨HB,Bk⟩:=nG;have Br:=upK GV HBW.out;have pr3:=ck3 Br;by_cases hlt2:kq<vl
  ·obtain⟨b2,o2,t,rfl,hb,hxt,hc,hsz⟩:=(TV.below HBW.out).at hlt2;have HXt:=aa hxt;clear hxt hsz;have hcase:(∃v,bJ c t v)\/(∀v,¬bJ c t v):=by
    by_cases h:∃v,bJ c t v
    ·exact .inl h
    ·exact .inr (fun v hv=>h ⟨v,hv⟩)
   exact E1
  ·exact E0):p:=h
theorem qi {p:Prop} (h:p:=by
 go_wp2_with fail;refine ag aq aq ?_;repeat (go_big_quiet_step (first|(go_at_call 103;exact Calls.wide (HC0.out _))|fail))
 refine wpQuiet_nil ?_;rintro _ ⟨q2,rfl⟩;obtain⟨HB2,Ck⟩:=dL;have Cr:=upK Gr q2.b;clear hne0 HW HB HC0 k0 k1 k2 k3 k4 k5 r0 r1 r2 r3 r4 r5 tw Gk Gr Bk Br hc1 hb1;have HB:=HB2;clear HB2;have Bk:=Ck;clear Ck;have Br:=Cr;clear Cr;go_wp2;go_ret;refine ar.f (fun h=>?_) HB.out;have h9:=(h.1 k p HXp.out).2.1 kq t HXt.out;exact HG.out h9.1):p:=h
theorem xD {p:Prop} (h:p:=by
 go_wp2_with fail;refine ag aq aq ?_;repeat (go_big_quiet_step (first|(go_at_call 145;exact Calls.wide (HC0.out _))|fail))
 refine wpQuiet_nil ?_;rintro _ ⟨q9,rfl⟩;have HB1:=upB HW q9.b;have Ck:=upK Gk q9.b;have Cr:=upK Gr q9.b;clear hne0 HW HB HC0 k0 k1 k2 k3 k4 k5 r0 r1 r2 r3 r4 r5 q0 q1 q2 q3 q4 q5 Gk Gr Bk Br d0 d1 d2 d3 d4 d5;have HB:=HB1;clear HB1;have Bk:=Ck;clear Ck;have Br:=Cr;clear Cr;go_wp2_with fail;refine⟨⟨kz+1,by omega,by go_num,fun j s hj hs=>?_,HBW.trans (q9.b.mono HBW.size)⟩,by simp[intOf];omega⟩;by_cases e:j=kz
 ·subst e;rw[HXq.out] at hs;obtain rfl:=Fq hs;exact HPr.out
 ·exact HQ3.out j s af hs):p:=h
theorem xC {p:Prop} (h:p:=by
 go_wp2_with fail;refine ag aq aq ?_;repeat (go_big_quiet_step (first|(go_at_call 103;exact Calls.wide (HC0.out _))|fail))
 refine wpQuiet_nil ?_;rintro _ ⟨q2,rfl⟩;obtain⟨HB2,Ck⟩:=dL;have Cr:=upK Gr q2.b;clear hne0 HW HB HC0 k0 k1 k2 k3 k4 k5 r0 r1 r2 r3 r4 r5 tw Gk Gr Bk Br hc1 hb1;have HB:=HB2;clear HB2;have Bk:=Ck;clear Ck;have Br:=Cr;clear Cr;go_wp2_with fail;refine⟨⟨kq+1,by omega,by go_num,fun j s hj hs=>?_,HBW1.trans (q2.b.mono HBW1.size)⟩,by simp[intOf];omega⟩;by_cases e:j=kq
 ·exact Dp
 ·exact HQ2.out j s af hs):p:=h
theorem xB {p:Prop} (h:p:=by
 go_wp2_with fail;refine ag aq aq ?_;repeat (go_big_quiet_step (first|(go_at_call 145;exact Calls.wide (HC0.out _))|fail))
 refine wpQuiet_nil ?_;rintro _ ⟨q9,rfl⟩;have HB1:=upB HW q9.b;have Ck:=upK Gk q9.b;have Cr:=upK Gr q9.b;clear hne0 HW HB HC0 k0 k1 k2 k3 k4 k5 r0 r1 r2 r3 r4 r5 q0 q1 q2 q3 q4 q5 Gk Gr Bk Br d0 d1 d2 d3 d4 d5;have HB:=HB1;clear HB1;have Bk:=Ck;clear Ck;have Br:=Cr;clear Cr;go_wp2;go_ret;exact ar.f (fun h=>HPr.out ((h.1 k p HXp.out).2.2 kz pq hlt3 HXq.out)) HB.out):p:=h
theorem xy {p:Prop} (h:p:=by
 obtain rfl:k=kz:=af
 go_wp2_with fail;refine⟨⟨k+1,by omega,by go_num,fun j z hj hz=>?_,HB.out,Bk.out⟩,by simp[intOf];omega⟩;by_cases e:j=k
 ·subst e;rw[HXp.out] at hz;obtain rfl:=Fq hz;exact⟨HPa.out,HQb.out,fun j2 q2 hj2 hq2=>HQ3.out j2 q2 hj2 hq2⟩
 ·exact HQ.out j z af hz):p:=h
theorem qd {p:Prop} (h:p:=by
 refine Obl.plain rfl ?_;intro ac wg K hsz hW hf hK;clear hsz;have e2:=hf 2 aj;simp[ai,Fs] at e2;clear hf;exact aU):p:=h
theorem wX {p:Prop} (h:p:=by
 by_cases e:j=k
 ·subst e;rw[HXx.out] at hz;obtain rfl:=Fq hz;exact HOK.out
 ·exact HQ.out j z af hz):p:=h
theorem wW {p:Prop} (h:p:=by
 by_cases e:j=k
 ·subst e;rw[HX.out] at hz;obtain rfl:=Fq hz;exact HN.out
 ·exact HE.out j z af hz):p:=h
theorem wQ {p:Prop} (h:p:=by
 clear hf;obtain⟨k0,k1,k2,k3,k4,k5⟩:=cs6 ((hW.block _ (ae GK.out)).trans GK.out);exact aU):p:=h
theorem pM {p:Prop} (h:p:=by
 have HR:=aa hr;have hl1:c.ns.length=l1:=sh
 have hm1:l1<=9223372036854775807:=FA hr.n.2.1 hr.n.2.2.1;have hl2:c.ks.length=l2:=by simpa using (show (c.ks.map kdF).length=l2 from hr.k.1)
 have hm2:l2<=9223372036854775807:=FA hr.k.2.1 hr.k.2.2.1;have hl3:c.vs.length=l3:=k8
 have hm3:l3<=9223372036854775807:=FA hr.v.2.1 hr.v.2.2.1;have hl4:c.xs.length=l4:=uT
 have hm4:l4<=9223372036854775807:=FA hr.x.2.1 hr.x.2.2.1;have hl5:c.ps.length=l5:=by simpa using (show (c.ps.map pdF).length=l5 from hr.p.1)
 have hm5:l5<=9223372036854775807:=FA hr.p.2.1 hr.p.2.2.1;exact Fo HR (Fo hl1 (Fo hm1 (Fo hl2 (Fo hm2 (Fo hl3 (Fo hm3 (Fo hl4 (Fo hm4 (Fo hl5 hm5)))))))))):p:=h
theorem fK {p:Prop} (h:p:=by
 have x0:=fun q:Wd wr=>(q.cell hb).trans c0;have x1:=fun q:Wd wr=>(q.cell hb).trans c1;have x2:=fun q:Wd wr=>(q.cell hb).trans c2;have x3:=fun q:Wd wr=>(q.cell hb).trans c3;have x4:=fun q:Wd wr=>(q.cell hb).trans c4;exact Fo x0 (Fo x1 (Fo x2 (Fo x3 x4)))):p:=h
theorem Ar {p:Prop} (h:p:=by
 have q0:∀q:Wd wr,q.w.cell? ⟨b,o+kz*6,none⟩=some (.string pq.n):=fun q=>(q.cell (hb')).trans (d0);have q1:∀q:Wd wr,q.w.cell? ⟨b,o+kz*6+1,none⟩=some (.int .i64 pq.c):=fun q=>(q.cell (hb')).trans (d1);have q2:∀q:Wd wr,q.w.cell? ⟨b,o+kz*6+2,none⟩=some (.string pq.z):=fun q=>(q.cell (hb')).trans (d2);have q3:∀q:Wd wr,q.w.cell? ⟨b,o+kz*6+3,none⟩=some (.slice qa ql qc):=fun q=>(q.cell (hb')).trans (d3);have q4:∀q:Wd wr,q.w.cell? ⟨b,o+kz*6+4,none⟩=some (.string pq.d):=fun q=>(q.cell (hb')).trans (d4);have q5:∀q:Wd wr,q.w.cell? ⟨b,o+kz*6+5,none⟩=some (.int .i64 pq.p):=fun q=>(q.cell (hb')).trans (d5);have hne0:=Wd.ne wr;exact Fo q0 (Fo q1 (Fo q2 (Fo q3 (Fo q4 (Fo q5 hne0)))))):p:=h
theorem Di {p:Prop} (h:p:=by
 have Gk:Hid ((wr.alloc (.cells #[.string p.n,.int .i64 p.c,.string p.z,.slice va vl vc,.string p.d,.int .i64 2] 64)).heap[w.heap.size]?=some (.cells (clo6 (some ⟨b1,o1,none⟩) l1 y1 a2 l2 y2 a3 l3 y3 a4 l4 y4 (some ⟨b,o,none⟩) l5 y5 c.now) 36 (0,0))):=(Fy _ _ _ (ae Bk.out)).trans (Bk.out);have Gr:Hid ((wr.alloc (.cells #[.string p.n,.int .i64 p.c,.string p.z,.slice va vl vc,.string p.d,.int .i64 2] 64)).heap[wr.heap.size]?=some (.cells #[.string p.n,.int .i64 p.c,.string p.z,.slice va vl vc,.string p.d,.int .i64 2] 64 (0,0))):=FD;have HW:Hid (Below w.heap.size w (wr.alloc (.cells #[.string p.n,.int .i64 p.c,.string p.z,.slice va vl vc,.string p.d,.int .i64 2] 64))):=(HB.trans ((al _ _).mono HB.size));exact Fo Gk (Fo Gr HW)):p:=h
theorem vB {p:Prop} (h:p:=by
 have nw:=fun q:Wd (wr.alloc (.cells #[.string p.n,.int .i64 p.c,.string p.z,.slice va vl vc,.string p.d,.int .i64 2] 64))=>(q.cell hbnv).trans e5v;have hne0:=Wd.ne (wr.alloc (.cells #[.string p.n,.int .i64 p.c,.string p.z,.slice va vl vc,.string p.d,.int .i64 2] 64));have HC0:=aa (fun q:Wd (wr.alloc (.cells #[.string p.n,.int .i64 p.c,.string p.z,.slice va vl vc,.string p.d,.int .i64 2] 64))=>jE ⟨(some ⟨b1,o1,none⟩),l1,y1,a2,l2,y2,a3,l3,y3,a4,l4,y4,(some ⟨b,o,none⟩),l5,y5⟩ c.now c.ns p.d q.w (HR.n.below (HW.trans (q.b.mono HW.size))) HNR.out HJn.out HNn.out);exact Fo nw (Fo hne0 HC0)):p:=h
theorem so {p:Prop} (h:p:=by
 have Gk:=Bk;have Gv:=Bv;have HW:=HB;have k2:=fun q:Wd q1.w=>q.slot (o:=2) Gk.out rfl;have v0:=fun q:Wd q1.w=>q.slot (o:=0) Gv.out rfl;have v2:=fun q:Wd q1.w=>q.slot (o:=2) Gv.out rfl;have v5:=fun q:Wd q1.w=>q.slot (o:=5) Gv.out rfl;have v6:=fun q:Wd q1.w=>q.slot (o:=6) Gv.out rfl;exact Fo Gk (Fo Gv (Fo HW (Fo k2 (Fo v0 (Fo v2 (Fo v5 v6))))))):p:=h
theorem nM {p:Prop} (h:p:=by
 have v1w:=fun q:Wd w2=>(q.cell hbv).trans v1;have v3w:=fun q:Wd w2=>(q.cell hbv).trans v3;have v4w:=fun q:Wd w2=>(q.cell hbv).trans v4;have v5w:=fun q:Wd w2=>(q.cell hbv).trans v5;have hne0:=Wd.ne w2;exact Fo v1w (Fo v3w (Fo v4w (Fo v5w hne0)))):p:=h
theorem sn {p:Prop} (h:p:=by
 have HW:=HB;have k1:=fun q:Wd wr=>q.slot (o:=1) Gk.out rfl;have x0:=fun q:Wd wr=>(q.cell hb).trans c0;have x1:=fun q:Wd wr=>(q.cell hb).trans c1;have x2:=fun q:Wd wr=>(q.cell hb).trans c2;have x3:=fun q:Wd wr=>(q.cell hb).trans c3;exact Fo HW (Fo k1 (Fo x0 (Fo x1 (Fo x2 x3))))):p:=h
theorem vv {p:Prop} (h:p:=by
 have Gk:=Bk;have Gx:=Bx;have Gy:=By;have HW:=HB;have k2:=fun q:Wd q1.w=>q.slot (o:=2) Gk.out rfl;have x3:=fun q:Wd q1.w=>q.slot (o:=3) Gx.out rfl;have y3:=fun q:Wd q1.w=>q.slot (o:=3) Gy.out rfl;have tw:=fun q:Wd q1.w=>(q.cell hbw1).trans hcw1;have vw:=fun q:Wd q1.w=>(q.cell hbv1).trans hcv1;have hne0:=Wd.ne q1.w;exact Fo Gk (Fo Gx (Fo Gy (Fo HW (Fo k2 (Fo x3 (Fo y3 (Fo tw (Fo vw hne0))))))))):p:=h
theorem vu {p:Prop} (h:p:=by
 have hbnv:b1<(wr.alloc (.cells #[.string p.n,.int .i64 p.c,.string p.z,.slice va vl vc,.string p.d,.int .i64 2] 64)).heap.size:=by simp;omega
 have e5v:=(ak (al wr (.cells #[.string p.n,.int .i64 p.c,.string p.z,.slice va vl vc,.string p.d,.int .i64 2] 64)) hbn).trans e5;exact Fo hbnv e5v):p:=h
theorem iV {p:Prop} (h:p:=by
 have x5:=fun q:Wd wr=>(q.cell hb).trans c5;have x6:=fun q:Wd wr=>(q.cell hb).trans c6;exact Fo x5 x6):p:=h
theorem Cc {p:Prop} (h:p:=by
 have p3:=fun q:Wd wr=>q.slot (o:=3) Gp.out rfl;have n6:=fun q:Wd wr=>q.slot (o:=6) Gn.out rfl;have tw:=fun q:Wd wr=>(q.cell hb).trans hc;have vw:=fun q:Wd wr=>(q.cell hbv).trans v0;have hne0:=Wd.ne wr;have HC0:=aa (fun q:Wd wr=>fA ⟨(some ⟨b1,o1,none⟩),l1,y1,a2,l2,y2,(some ⟨b3,o3,none⟩),l3,y3,a4,l4,y4,a5,l5,y5⟩ c t q.w (HR.below (HW.trans (q.b.mono HW.size))) HX.out HV.out HNE.out HJ.out HDb.out);exact Fo p3 (Fo n6 (Fo tw (Fo vw (Fo hne0 HC0))))):p:=h
theorem fR {p:Prop} (h:p:=by
 have yw:=fun q:Wd wr=>(q.cell hb).trans y0;have hne0:=Wd.ne wr;exact Fo yw hne0):p:=h
theorem B9 {p:Prop} (h:p:=by
 have tw:=fun q:Wd q1.w=>(q.cell hb1).trans hc1;have vw:=fun q:Wd q1.w=>(q.cell hbv).trans v2;have nw:=fun q:Wd q1.w=>(q.cell hbn).trans n1;have hne0:=Wd.ne q1.w;have HC0:=aa (fun q:Wd q1.w=>e_ ⟨(some ⟨b1,o1,none⟩),l1,y1,a2,l2,y2,(some ⟨b3,o3,none⟩),l3,y3,a4,l4,y4,(some ⟨b,o,none⟩),l5,y5⟩ c.now c.xs t q.w (HR.x.below (HW.trans (q.b.mono HW.size))) HX.out HG1.out HG2.out);exact Fo tw (Fo vw (Fo nw (Fo hne0 HC0)))):p:=h
theorem bO {p:Prop} (h:p:=by
 have Gk:=Bk;have Gr:=Br;have HW:=HB;exact Fo Gk (Fo Gr HW)):p:=h
theorem dh {p:Prop} (h:p:=by
 have HB1:=upB HW q.b;have Ck:=upK Gk q.b;exact Fo HB1 Ck):p:=h
theorem dL {p:Prop} (h:p:=by
 have HB2:=upB HW q2.b;have Ck:=upK Gk q2.b;exact Fo HB2 Ck):p:=h
theorem vp {p:Prop} (h:p:=by
 have Gk:=Bk;have Gv:=Bv;have HW:=HB;have k0:=fun q:Wd q1.w=>q.slot (o:=0) Gk.out rfl;have v2:=fun q:Wd q1.w=>q.slot (o:=2) Gv.out rfl;have v7:=fun q:Wd q1.w=>q.slot (o:=7) Gv.out rfl;exact Fo Gk (Fo Gv (Fo HW (Fo k0 (Fo v2 v7))))):p:=h
theorem iU {p:Prop} (h:p:=by
 have tw:=fun q:Wd wr=>(q.cell hb).trans hc;have hne0:=Wd.ne wr;exact Fo tw hne0):p:=h
theorem jM {p:Prop} (h:p:=by
 have tw:=fun q:Wd q1.w=>(q.cell hb1).trans hc1;have hne0:=Wd.ne q1.w;exact Fo tw hne0):p:=h
theorem nH {p:Prop} (h:p:=by
 have HB2:=upB HW q0.b;have Ck:=upK Gk q0.b;have Cr:=upK Gr q0.b;have CHTp:=aa ((HTp.out).below q0.b);exact Fo HB2 (Fo Ck (Fo Cr CHTp))):p:=h
theorem BZ {p:Prop} (h:p:=by
 have yw:=fun q:Wd w1=>(q.cell hbv).trans hcv;have hne0:=Wd.ne w1;have HC0:=aa (fun q:Wd w1=>dY ⟨a1,l1,y1,a2,l2,y2,(some ⟨b,o,none⟩),l3,y3,(some ⟨b4,o4,none⟩),l4,y4,a5,l5,y5⟩ c.now c.ks v.k q.w (HR.k.below (HW.trans (q.b.mono HW.size))) HKS.out HG1.out HG2.out);exact Fo yw (Fo hne0 HC0)):p:=h
theorem BY {p:Prop} (h:p:=by
 have Gk:=Bk;have Gv:=Bv;have HW:=HB;have k0:=fun q:Wd wr=>q.slot (o:=0) Gk.out rfl;have k1:=fun q:Wd wr=>q.slot (o:=1) Gk.out rfl;have k2:=fun q:Wd wr=>q.slot (o:=2) Gk.out rfl;have k3:=fun q:Wd wr=>q.slot (o:=3) Gk.out rfl;have k4:=fun q:Wd wr=>q.slot (o:=4) Gk.out rfl;have k5:=fun q:Wd wr=>q.slot (o:=5) Gk.out rfl;exact Fo Gk (Fo Gv (Fo HW (Fo k0 (Fo k1 (Fo k2 (Fo k3 (Fo k4 k5)))))))):p:=h
theorem BM {p:Prop} (h:p:=by
 have hne0:=Wd.ne w1;have HC0:=aa (fun q:Wd w1=>dY ⟨a1,l1,y1,a2,l2,y2,(some ⟨b,o,none⟩),l3,y3,a4,l4,y4,a5,l5,y5⟩ c.now c.ks v.k q.w (HR.k.below (HW.trans (q.b.mono HW.size))) HKS.out HG1.out HG2.out);exact Fo hne0 HC0):p:=h
theorem sj {p:Prop} (h:p:=by
 have hc1:=(q1.cell hb).trans hc;have hb1:=FE hb q1.b.size;have HBW1:=upB HBW q1.b;exact Fo hc1 (Fo hb1 HBW1)):p:=h
theorem nC {p:Prop} (h:p:=by
 have hd:decide ((0:Int)<k)=false:=by simp;omega
 have Gk:=Bk;exact Fo hd Gk):p:=h
theorem BJ {p:Prop} (h:p:=by
 have Gk:Hid (wr.heap[w.heap.size]?=some (.cells (clo6 (some ⟨b,o,none⟩) l1 y1 a2 l2 y2 a3 l3 y3 a4 l4 y4 a5 l5 y5 c.now) 36 (0,0))):=Bk.out;have HW:=HB;have k0:=fun q:Wd wr=>q.slot (o:=0) Gk.out rfl;exact Fo Gk (Fo HW k0)):p:=h
theorem BH {p:Prop} (h:p:=by
 have Gk:Hid (wr.heap[w.heap.size]?=some (.cells (clo6 a1 l1 y1 a2 l2 y2 (some ⟨b,o,none⟩) l3 y3 a4 l4 y4 a5 l5 y5 c.now) 36 (0,0))):=Bk.out;have HW:=HB;have k2:=fun q:Wd wr=>q.slot (o:=2) Gk.out rfl;exact Fo Gk (Fo HW k2)):p:=h
theorem BG {p:Prop} (h:p:=by
 have Gk:Hid (wr.heap[w.heap.size]?=some (.cells (clo6 a1 l1 y1 a2 l2 y2 a3 l3 y3 (some ⟨b,o,none⟩) l4 y4 a5 l5 y5 c.now) 36 (0,0))):=Bk.out;have HW:=HB;have k3:=fun q:Wd wr=>q.slot (o:=3) Gk.out rfl;exact Fo Gk (Fo HW k3)):p:=h
theorem BF {p:Prop} (h:p:=by
 have Gk:Hid (wr.heap[w.heap.size]?=some (.cells (clo6 a1 l1 y1 a2 l2 y2 a3 l3 y3 a4 l4 y4 (some ⟨b,o,none⟩) l5 y5 c.now) 36 (0,0))):=Bk.out;have HW:=HB;have k4:=fun q:Wd wr=>q.slot (o:=4) Gk.out rfl;exact Fo Gk (Fo HW k4)):p:=h
theorem fP {p:Prop} (h:p:=by
 have Ck:=upK Gk q1.b;have Cr:=upK Gr q1.b;exact Fo Ck Cr):p:=h
theorem lV {p:Prop} (h:p:=by
 have HG1:=aa g1;have HG2:=aa g2;have hi41:decide ((i4:Int)<0)=false:=aS
 exact Fo HG1 (Fo HG2 hi41)):p:=h
end Go.Proofs.YtpejepeekdjfoaaGreatDoor
namespace Go.Proofs.YtpejepeekdjfoaaGreatDoor
open Go.RowKit

theorem bh (s:ByteArray) (w:World) (hs:s.size<=9223372036854775807):
  Calls Tryz.prog 173 #[.string s] w (cK (aO s) w):=by
 by_cases h1:s.size<1
 ·go_enter Tryz.func173,Tryz.ntmps173;exact mf
 by_cases h2:20<s.size
 ·go_enter Tryz.func173,Tryz.ntmps173;exact mf
 go_enter Tryz.func173,Tryz.ntmps173;go_wp2;go_loop [3] (fun i=> ∃k:Nat,k<=s.size/\i=.int .i64 k/\∀i (h:i<s.size),i<k->okB i ((s[i]'h).toNat:Int)=true) (fun i=>s.size - (intOf i).toNat);case atStart=>exact⟨0,by omega,rfl,fun i _ h=>by omega⟩
 case round=>
  obtain⟨k,hk,rfl,hall⟩:=hrel;have HA:Hid (∀i (h:i<s.size),i<k->okB i ((s[i]'h).toNat:Int)=true):=hall;clear hall;by_cases hlt:k<s.size
  ·cases hok:okB k ((s[k]'hlt).toNat:Int)
   ·have HB:Hid (okB k ((s[k]'hlt).toNat:Int)=false):=hok;by_cases hk0:k=0
    ·have hkb:((k:Int)==0)=true:=by simp[hk0]
     have hk1:k<1:=af
     unfold okB kJ at hok;rw[if_pos hk0] at hok;simp only[Bool.and_eq_false_iff,decide_eq_false_iff_not] at hok;clear hk0;rcases (show ((s[k]'hlt).toNat:Int)<97\/(97<=((s[k]'hlt).toNat:Int)/\122<((s[k]'hlt).toNat:Int)) by omega) with hA|⟨hA,hB⟩;all_goals
      clear hok
      go_wp2
      all_goals first|(exfalso;rename_i hx;simp at hx;omega)|(go_ret;exact⟨false,rfl,gU hlt HB.out,rfl⟩)
    ·have hkb:((k:Int)==0)=false:=by simp[hk0]
     unfold okB nbB kJ A9 at hok;rw[if_neg hk0] at hok;simp only[Bool.or_eq_false_iff,Bool.and_eq_false_iff,decide_eq_false_iff_not] at hok;have hne:(((s[k]'hlt).toNat:Int) !=95)=true:=by simp;omega
     rcases (show (((s[k]'hlt).toNat:Int)<97\/(97<=((s[k]'hlt).toNat:Int)/\122<((s[k]'hlt).toNat:Int)))/\(((s[k]'hlt).toNat:Int)<48\/(48<=((s[k]'hlt).toNat:Int)/\57<((s[k]'hlt).toNat:Int))) by omega) with ⟨hA|⟨hA,hB⟩,hC|⟨hC,hD⟩⟩;all_goals
      clear hok
      try omega
     all_goals
      go_wp2
      all_goals first|(exfalso;rename_i hx;simp at hx;omega)|(go_ret;exact⟨false,rfl,gU hlt HB.out,rfl⟩)
   ·have HB:Hid (okB k ((s[k]'hlt).toNat:Int)=true):=hok;by_cases hk0:k=0
    ·have hkb:((k:Int)==0)=true:=by simp[hk0]
     have hk1:k<1:=af
     unfold okB kJ at hok;rw[if_pos hk0] at hok;simp only[Gl,decide_eq_true_eq] at hok;obtain⟨hA,hB⟩:=hok;clear hk0;exact su
    ·have hkb:((k:Int)==0)=false:=by simp[hk0]
     unfold okB nbB kJ A9 at hok;rw[if_neg hk0] at hok;simp only[Bool.or_eq_true,Gl,decide_eq_true_eq] at hok;rcases (show (97<=((s[k]'hlt).toNat:Int)/\((s[k]'hlt).toNat:Int)<=122)\/(48<=((s[k]'hlt).toNat:Int)/\((s[k]'hlt).toNat:Int)<=57)\/(95<=((s[k]'hlt).toNat:Int)/\((s[k]'hlt).toNat:Int)<=95) by omega) with ⟨hA,hB⟩|⟨hA,hB⟩|⟨hA,hB⟩
     ·clear hok;exact su
     ·clear hok;exact su
     ·clear hok;have hne:(((s[k]'hlt).toNat:Int) !=95)=false:=by simp;omega
      exact su
  ·exact xZ

theorem eG (a:Option Addr) (len cap:Nat) (zs:List ByteArray) (most:Int) (w:World) (hr:ay w a len cap zs):
  Calls Tryz.prog 175 #[.slice a len cap,.int .i64 most] w (ar (dD zs most) w):=by
 have HR:Hid (ay w a len cap zs):=hr;have hlc:=FA hr.2.1 hr.2.2.1;have hzl:=hr.1;clear hr;go_enter Tryz.func175,Tryz.ntmps175;go_wp2;go_loopw [5] (fun i wr=> ∃k:Nat,k<=len/\i=.int .i64 k/\Hid (fo (zs.take k))/\Hid (Below w.heap.size w wr)) (fun i _=>len - (intOf i).toNat);case atStart=>exact⟨0,by omega,rfl,fun i x h=>by simp at h,Fw _ _⟩
 case round=>
  obtain⟨k,hk,rfl,HE,HB⟩:=hrel;by_cases hlt:k<len
  ·obtain⟨b,o,x,rfl,hb,hx,hc,hsz⟩:=(HR.below HB.out).at hlt;by_cases hn:aO x
   ·have HY:Hid (∀w,Calls Tryz.prog 173 #[.string x] w fun e w'=>e=.returned (.bool true)/\w'=w):=fun w=>(bh x w hsz).mono fun _ _ h=>h.yes hn;by_cases hk0:0<k
    ·obtain⟨b',o',y,e',hb',hy,hcy,-⟩:=(HR.below HB.out).at (k:=k - 1) af;cases e';have ek:((k:Int) - 1).toNat=k - 1:=af
     cases hless:FB y.toList x.toList
     ·go_wp2;go_quiet ((go_at_call 173;exact FY (HY.out _)));go_wp2;go_ret;exact⟨false,rfl,⟨fun h=>bU,fun h=>absurd ((h.2 k x hx).2 y hk0 hy) (by rw[hless];decide)⟩,below_drewN HB.out _⟩
     ·go_wp2;go_quiet ((go_at_call 173;exact FY (HY.out _)));go_wp2;exact⟨⟨k+1,by omega,by go_num,HE.step hx hn (fun y' _ hy'=>by rw[hy] at hy';obtain rfl:=Fq hy';exact hless),below_drewN HB.out _⟩,by simp[intOf];omega⟩
    ·have hd:decide ((0:Int)<k)=false:=by simp;omega
     go_wp2;go_quiet ((go_at_call 173;exact FY (HY.out _)));go_wp2;exact⟨⟨k+1,by omega,by go_num,HE.step hx hn (fun y' h0 _=>absurd h0 hk0),below_drewN HB.out _⟩,by simp[intOf];omega⟩
   ·have HY:Hid (∀w,Calls Tryz.prog 173 #[.string x] w fun e w'=>e=.returned (.bool false)/\w'=w):=fun w=>(bh x w hsz).mono fun _ _ h=>h.no hn;go_wp2;go_quiet ((go_at_call 173;exact FY (HY.out _)));go_wp2;go_ret;exact⟨false,rfl,⟨fun h=>bU,fun h=>absurd (h.2 k x hx).1 hn⟩,below_drewN HB.out _⟩
  ·obtain rfl:k=len:=af
   go_wp2;go_ret;refine⟨_,rfl,?_,HB.out⟩;have hR:=HE.out;rw[FF af] at hR;unfold dD;simp[hR,hzl]

theorem mr (n a b:Int) (w:World):
  Calls Tryz.prog 138 #[.int .i64 n,.int .i64 a,.int .i64 b] w (cK (Inn n a b) w):=by
 go_enter Tryz.func138,Tryz.ntmps138;go_wp2;all_goals (go_ret;exact⟨_,rfl,by unfold Inn;simp;omega,rfl⟩)

theorem oI (n:Int) (w:World):
  Calls Tryz.prog 174 #[.int .i64 n] w (cK (Inn n 0 1000000) w):=by
 go_enter Tryz.func174,Tryz.ntmps174;exact qH

theorem fC (n:Int) (w:World):
  Calls Tryz.prog 177 #[.int .i64 n] w (cK (Inn n 1 1048576) w):=by
 go_enter Tryz.func177,Tryz.ntmps177;exact qH

theorem lp (n:Int) (w:World):
  Calls Tryz.prog 109 #[.int .i64 n] w (cK (Inn n 0 1000000) w):=by
 go_enter Tryz.func109,Tryz.ntmps109;exact qH

theorem dX (s:ByteArray) (w:World) (hs:s.size<=9223372036854775807):
  Calls Tryz.prog 176 #[.string s] w (cK (cW s) w):=by
 by_cases h0:s=⟨#[]⟩
 ·subst h0;go_enter Tryz.func176,Tryz.ntmps176;go_wp2;go_ret;exact⟨_,rfl,by unfold cW;simp,rfl⟩
 ·have hq:=bc h0;go_enter Tryz.func176,Tryz.ntmps176;go_wp2_with (go_at_call 173;refine (bh _ _ hs).mono ?_;rintro e w1 ⟨r,rfl,hr,rfl⟩);go_ret;exact⟨r,rfl,by unfold cW;simp[h0,hr],rfl⟩

theorem fy (n z:ByteArray) (c s u:Int) (d:Bool) (a:Option Addr) (len cap:Nat) (zs:List ByteArray) (w:World) (hn:n.size<=9223372036854775807) (hz:z.size<=9223372036854775807) (hr:ay w a len cap zs):
  Calls Tryz.prog 139 #[.agg #[.string n,.string z,.int .i64 c,.int .i64 s,.int .i64 u,.bool d,.slice a len cap]] w (ar (rR n z c s u zs) w):=by
 have HR:Hid (ay w a len cap zs):=hr;clear hr;go_enter Tryz.func139,Tryz.ntmps139;go_wp2_with fail;refine (bh n _ hn).mono ?_;rintro e w1 ⟨r,rfl,hr,rfl⟩;by_cases hq:r=true;case neg=>
  exact ff
 have h0:=aa (hr.1 hq);subst hq;clear hr;go_wp2_with fail;refine (bh z _ hz).mono ?_;rintro e w1 ⟨r,rfl,hr,rfl⟩;by_cases hq:r=true;case neg=>
  exact gO
 have h1:=aa (hr.1 hq);subst hq;clear hr;go_wp2_with fail;refine (oI c _).mono ?_;rintro e w1 ⟨r,rfl,hr,rfl⟩;by_cases hq:r=true;case neg=>
  exact gP
 have h2:=aa (hr.1 hq);subst hq;clear hr;go_wp2_with fail;refine (mr s 0 8 _).mono ?_;rintro e w1 ⟨r,rfl,hr,rfl⟩;by_cases hq:r=true;case neg=>
  exact lj
 have h3:=aa (hr.1 hq);subst hq;clear hr;go_wp2_with fail;refine (lp u _).mono ?_;rintro e w1 ⟨r,rfl,hr,rfl⟩;by_cases hq:r=true;case neg=>
  exact n8
 have h4:=aa (hr.1 hq);subst hq;clear hr;go_wp2_with fail;refine (eG a len cap zs 8 _ (HR.below (al _ _))).mono ?_;rintro e w1 ⟨r,rfl,hr,hb⟩;go_wp2_with fail;go_ret;exact⟨r,rfl,⟨fun h=>⟨h0.out,h1.out,h2.out,h3.out,h4.out,hr.1 h⟩,fun h=>hr.2 h.2.2.2.2.2⟩,(cE hb).2.1⟩

theorem eI (n z:ByteArray) (x y:Bool) (w:World) (hn:n.size<=9223372036854775807) (hz:z.size<=9223372036854775807):
  Calls Tryz.prog 140 #[.agg #[.string n,.bool x,.bool y,.string z]] w (ar (ie n z) w):=by
 go_enter Tryz.func140,Tryz.ntmps140;go_wp2_with fail;refine (bh n _ hn).mono ?_;rintro e w1 ⟨r,rfl,hr,rfl⟩;by_cases hq:r=true;case neg=>
  exact ff
 have h0:=aa (hr.1 hq);subst hq;clear hr;go_wp2_with fail;refine (dX z _ hz).mono ?_;exact w_

theorem eJ (n:ByteArray) (z:Int) (k:ByteArray) (x:Bool) (v:ByteArray) (w:World) (hn:n.size<=9223372036854775807) (hk:k.size<=9223372036854775807) (hv:v.size<=9223372036854775807):
  Calls Tryz.prog 142 #[.agg #[.string n,.int .i64 z,.string k,.bool x,.string v]] w (ar (fJ n z k v) w):=by
 go_enter Tryz.func142,Tryz.ntmps142;go_wp2_with fail;refine (bh n _ hn).mono ?_;rintro e w1 ⟨r,rfl,hr,rfl⟩;by_cases hq:r=true;case neg=>
  exact ff
 have h0:=aa (hr.1 hq);subst hq;clear hr;go_wp2_with fail;refine (fC z _).mono ?_;rintro e w1 ⟨r,rfl,hr,rfl⟩;by_cases hq:r=true;case neg=>
  exact gO
 have h1:=aa (hr.1 hq);subst hq;clear hr;go_wp2_with fail;refine (bh k _ hk).mono ?_;rintro e w1 ⟨r,rfl,hr,rfl⟩;by_cases hq:r=true;case neg=>
  exact gP
 have h2:=aa (hr.1 hq);subst hq;clear hr;go_wp2_with fail;refine (dX v _ hv).mono ?_;exact xg

theorem gE (n:ByteArray) (c:Int) (z:ByteArray) (a:Option Addr) (len cap:Nat) (zs:List ByteArray) (d:ByteArray) (p:Int) (w:World) (hn:n.size<=9223372036854775807) (hz:z.size<=9223372036854775807) (hd:d.size<=9223372036854775807) (hr:ay w a len cap zs):
  Calls Tryz.prog 143 #[.agg #[.string n,.int .i64 c,.string z,.slice a len cap,.string d,.int .i64 p]] w (ar (zY n c z zs d p) w):=by
 have HR:Hid (ay w a len cap zs):=hr;clear hr;go_enter Tryz.func143,Tryz.ntmps143;go_wp2_with fail;refine (bh n _ hn).mono ?_;rintro e w1 ⟨r,rfl,hr,rfl⟩;by_cases hq:r=true;case neg=>
  exact ff
 have h0:=aa (hr.1 hq);subst hq;clear hr;go_wp2_with fail;refine (oI c _).mono ?_;rintro e w1 ⟨r,rfl,hr,rfl⟩;by_cases hq:r=true;case neg=>
  exact gO
 have h1:=aa (hr.1 hq);subst hq;clear hr;go_wp2_with fail;refine (dX z _ hz).mono ?_;rintro e w1 ⟨r,rfl,hr,rfl⟩;by_cases hq:r=true;case neg=>
  exact gP
 have h2:=aa (hr.1 hq);subst hq;clear hr;go_wp2_with fail;refine (eG a len cap zs 3 _ (HR.below (al _ _))).mono ?_;rintro e w1 ⟨r,rfl,hr,hb⟩;obtain⟨hsl,hb1,-⟩:=cE hb;have HB:Hid (Below w.heap.size w w1):=hb1;by_cases hq:r=true;case neg=>
  have HN:=aa (fun h=>hq (hr.2 h));clear hsl hb hb1 hr;go_wp2_with fail;go_ret;exact⟨false,rfl,⟨fun h=>bU,fun h=>(HN.out h.2.2.2.1).elim⟩,HB.out⟩
 have h3:=aa (hr.1 hq);subst hq;have hc4:=ck4 hsl;have hc5:=ck5 hsl;clear hr hsl hb hb1;go_wp2_with fail;refine (mr p 0 2 _).mono ?_;rintro e w2 ⟨r,rfl,hr,rfl⟩;by_cases hq:r=true;case neg=>
  have HN:=aa (fun h=>hq (hr.2 h));clear hr;go_wp2_with fail;go_ret;exact⟨false,rfl,⟨fun h=>bU,fun h=>absurd h.2.2.2.2 (mX (by have h9:¬(0<=p/\p<=2):=HN.out;omega))⟩,HB.out⟩
 have h4:=hr.1 hq;subst hq;clear hr;by_cases hp:p=0
 ·subst hp;go_wp2_with fail;go_ret;exact⟨_,rfl,⟨fun h=>⟨h0.out,h1.out,h2.out,h3.out,(eF d).2 ((dP d).1 h)⟩,fun h=>(dP d).2 ((eF d).1 h.2.2.2.2)⟩,HB.out⟩
 have hq:(p==0)=false:=by simp[hp]
 have hp2:p=1\/p=2:=by unfold Inn at h4;omega
 go_wp2_with fail;refine (bh d _ hd).mono ?_;rintro e w2 ⟨r,rfl,hr,rfl⟩;go_wp2_with fail;go_ret;exact⟨r,rfl,⟨fun h=>⟨h0.out,h1.out,h2.out,h3.out,(gD d hp2).2 (hr.1 h)⟩,fun h=>hr.2 ((gD d hp2).1 h.2.2.2.2)⟩,HB.out⟩

theorem gC (n:ByteArray) (c:Int) (z k:ByteArray) (x:Bool) (m:ByteArray) (y:Bool) (a:Option Addr) (len cap:Nat) (zs:List ByteArray) (w:World) (hn:n.size<=9223372036854775807) (hz:z.size<=9223372036854775807) (hk:k.size<=9223372036854775807) (hm:m.size<=9223372036854775807) (hr:ay w a len cap zs):
  Calls Tryz.prog 141 #[.agg #[.string n,.int .i64 c,.string z,.string k,.bool x,.string m,.bool y,.slice a len cap]] w (ar (sQ n c z k x m y zs) w):=by
 have HR:Hid (ay w a len cap zs):=hr;have hzl:=hr.1;have hlc:=FA hr.2.1 hr.2.2.1;clear hr;cases y
 ·have HY:Hid (false=true->m=⟨#[]⟩):=fun h=>bU;go_enter Tryz.func141,Tryz.ntmps141;go_wp2_with fail;refine (bh n _ hn).mono ?_;rintro e w1 ⟨r,rfl,hr,rfl⟩;by_cases hq:r=true;case neg=>
   exact ff
  have h0:=aa (hr.1 hq);subst hq;clear hr;go_wp2_with fail;refine (fC c _).mono ?_;rintro e w1 ⟨r,rfl,hr,rfl⟩;by_cases hq:r=true;case neg=>
   exact gO
  have h1:=aa (hr.1 hq);subst hq;clear hr;go_wp2_with fail;refine (bh z _ hz).mono ?_;rintro e w1 ⟨r,rfl,hr,rfl⟩;by_cases hq:r=true;case neg=>
   exact gP
  have h2:=aa (hr.1 hq);subst hq;clear hr;go_wp2_with fail;refine (bh k _ hk).mono ?_;rintro e w1 ⟨r,rfl,hr,rfl⟩;by_cases hq:r=true;case neg=>
   exact lj
  have h3:=aa (hr.1 hq);subst hq;clear hr;go_wp2_with fail;refine (dX _ _ hm).mono ?_;rintro e w1 ⟨r,rfl,hr,rfl⟩;by_cases hq:r=true;case neg=>
   exact n8
  have h4:=aa (hr.1 hq);subst hq;clear hr;go_wp2_with fail;refine (eG a len cap zs 6 _ (HR.below (al _ _))).mono ?_;rintro e w1 ⟨r,rfl,hr,hb⟩;obtain⟨hsl,hb1,-⟩:=cE hb;have HB:Hid (Below w.heap.size w w1):=hb1;by_cases hq:r=true;case neg=>
   exact yr
  have h6:=aa (hr.1 hq);subst hq;have hc4:=ck4 hsl;have hc7:=ck7 hsl;clear hr hsl hb hb1;cases x
  ·go_wp2_with fail;go_ret;exact⟨true,rfl,⟨fun _=>⟨h0.out,h1.out,h2.out,h3.out,h4.out,HY.out,by simpa using h6.out⟩,fun _=>rfl⟩,HB.out⟩
  ·go_wp2_with fail;go_ret;refine⟨_,rfl,⟨fun h=>⟨h0.out,h1.out,h2.out,h3.out,h4.out,HY.out,?_,h6.2⟩,fun h=>?_⟩,HB.out⟩
   ·simp at h ⊢;omega
   ·have:=h.2.2.2.2.2.2.1;simp at this ⊢;omega
 by_cases hm0:m=⟨#[]⟩
 ·subst hm0;have HY:Hid True:=trivial;go_enter Tryz.func141,Tryz.ntmps141;go_wp2_with fail;refine (bh n _ hn).mono ?_;rintro e w1 ⟨r,rfl,hr,rfl⟩;by_cases hq:r=true;case neg=>
   exact ff
  have h0:=aa (hr.1 hq);subst hq;clear hr;go_wp2_with fail;refine (fC c _).mono ?_;rintro e w1 ⟨r,rfl,hr,rfl⟩;by_cases hq:r=true;case neg=>
   exact gO
  have h1:=aa (hr.1 hq);subst hq;clear hr;go_wp2_with fail;refine (bh z _ hz).mono ?_;rintro e w1 ⟨r,rfl,hr,rfl⟩;by_cases hq:r=true;case neg=>
   exact gP
  have h2:=aa (hr.1 hq);subst hq;clear hr;go_wp2_with fail;refine (bh k _ hk).mono ?_;rintro e w1 ⟨r,rfl,hr,rfl⟩;by_cases hq:r=true;case neg=>
   exact lj
  have h3:=aa (hr.1 hq);subst hq;clear hr;go_wp2_with fail;refine (dX _ _ hm).mono ?_;rintro e w1 ⟨r,rfl,hr,rfl⟩;by_cases hq:r=true;case neg=>
   exact n8
  have h4:=aa (hr.1 hq);subst hq;clear hr;go_wp2_with fail;refine (eG a len cap zs 6 _ (HR.below (al _ _))).mono ?_;rintro e w1 ⟨r,rfl,hr,hb⟩;obtain⟨hsl,hb1,-⟩:=cE hb;have HB:Hid (Below w.heap.size w w1):=hb1;by_cases hq:r=true;case neg=>
   exact yr
  have h6:=aa (hr.1 hq);subst hq;have hc4:=ck4 hsl;have hc7:=ck7 hsl;clear hr hsl hb hb1;cases x
  ·go_wp2_with fail;go_ret;exact⟨true,rfl,⟨fun _=>⟨h0.out,h1.out,h2.out,h3.out,h4.out,(fun _=>rfl),by simpa using h6.out⟩,fun _=>rfl⟩,HB.out⟩
  ·go_wp2_with fail;go_ret;refine⟨_,rfl,⟨fun h=>⟨h0.out,h1.out,h2.out,h3.out,h4.out,(fun _=>rfl),?_,h6.2⟩,fun h=>?_⟩,HB.out⟩
   ·simp at h ⊢;omega
   ·have:=h.2.2.2.2.2.2.1;simp at this ⊢;omega
 have hq9:=bc hm0;go_enter Tryz.func141,Tryz.ntmps141;go_wp2_with fail;refine (bh n _ hn).mono ?_;rintro e w1 ⟨r,rfl,hr,rfl⟩;by_cases hq:r=true;case neg=>
  exact ff
 have h0:=aa (hr.1 hq);subst hq;clear hr;go_wp2_with fail;refine (fC c _).mono ?_;rintro e w1 ⟨r,rfl,hr,rfl⟩;by_cases hq:r=true;case neg=>
  exact gO
 have h1:=aa (hr.1 hq);subst hq;clear hr;go_wp2_with fail;refine (bh z _ hz).mono ?_;rintro e w1 ⟨r,rfl,hr,rfl⟩;by_cases hq:r=true;case neg=>
  exact gP
 have h2:=aa (hr.1 hq);subst hq;clear hr;go_wp2_with fail;refine (bh k _ hk).mono ?_;rintro e w1 ⟨r,rfl,hr,rfl⟩;by_cases hq:r=true;case neg=>
  exact lj
 have h3:=aa (hr.1 hq);subst hq;clear hr;go_wp2_with fail;refine (dX _ _ hm).mono ?_;rintro e w1 ⟨r,rfl,hr,rfl⟩;by_cases hq:r=true;case neg=>
  exact n8
 have h4:=aa (hr.1 hq);subst hq;clear hr;exact wU

end Go.Proofs.YtpejepeekdjfoaaGreatDoor

namespace Go.Proofs.YtpejepeekdjfoaaGreatDoor
open Go.RowKit
namespace Rc
open Mk

def Fv.fit:Fv->Prop
 | .s t=>t.size<=9223372036854775807
 | _=>True
theorem aC.mono {S S':Nat->Prop} {w w':World} (h:aC S w w') (hs:∀k,S k->S' k):aC S' w w':=⟨h.os,h.tape,h.output,h.size,fun k hk hn=>h.block k hk (fun x=>hn (hs k x))⟩
theorem Fv.Own.Dz {w:World} {h:Nat} {S:Nat->Prop} {g:Nat} {f:Fv} {v:Value} (hv:f.val=some v) (hf:f.fit):f.Own w h S g v:=by
 cases f with
 | s t=>cases hv;exact⟨rfl,hf⟩
 | i n=>cases hv;exact rfl
 | b x=>cases hv;exact rfl
 | l zs=>cases hv

theorem AT {m j i j' i':Nat} (hi:i<m) (hi':i'<m) (h:j*m+i=j'*m+i'):j=j'/\i=i':=by
 have hm:0<m:=af
 have e1:(j*m+i) / m=j:=by rw[Nat.mul_comm,Nat.mul_add_div hm,Nat.div_eq_of_lt hi];rfl
 have e2:(j'*m+i') / m=j':=by rw[Nat.mul_comm,Nat.mul_add_div hm,Nat.div_eq_of_lt hi'];rfl
 have:j=j':=by rw[<-e1,<-e2,h]
 subst this;exact⟨rfl,by omega⟩
def NoH (N:Nat->Prop) (rs:List (List Fv)) (H:Nat->Nat->Nat):Prop:=∀(j:Nat) r (i:Nat) zs,rs[j]?=some r->r[i]?=some (.l zs)->zs≠[]->¬N (H j i)
structure StJ (g m:Nat) (T:TypeId) (S N:Nat->Prop) (w wr:World) (rs:List (List Fv)) (j:Nat) (r:List Fv):Prop where
 own:∃cur H,dK wr g m T (rs.set j r) S cur H/\NoH N (rs.set j r) H
 kept:aC S w wr
 lt:j<rs.length
section
variable {g m:Nat} {T:TypeId} {S N:Nat->Prop} {w wr w2:World} {rs:List (List Fv)} {j:Nat} {r:List Fv}
theorem StJ.get (h:StJ g m T S N w wr rs j r):(rs.set j r)[j]?=some r:=by rw[dQ h.lt,if_pos rfl]
theorem StJ.cell (h:StJ g m T S N w wr rs j r) {i:Nat} {f:Fv} (hi:r[i]?=some f):∃v,wr.cell? ⟨g,j*m+i,none⟩=some v:=by
 obtain⟨⟨cur,H,h1,hN⟩,h2,h3⟩:=h;obtain⟨v,h4,h5⟩:=h1.cell j r (by rw[dQ h3,if_pos rfl]) i f hi;exact⟨v,(aw h1.blk _).trans h4⟩
theorem StJ.cI (h:StJ g m T S N w wr rs j r) (i:Nat):wr.frozen? ⟨g,i,none⟩=false:=by
 obtain⟨⟨cur,H,h1,hN⟩,h2,h3⟩:=h;exact av h1.blk i
theorem lT (hlt:j<rs.length) {f:Fv} {i:Nat} (hl:∀(j':Nat) r',(rs.set j r)[j']?=some r'->r'.length=m):∀(j':Nat) r',(rs.set j (r.set i f))[j']?=some r'->r'.length=m:=by
 intro j' r' hj';rw[dQ hlt] at hj';split at hj'
 ·cases hj';rw[List.length_set];exact hl j r (by rw[dQ hlt,if_pos rfl])
 ·exact hl j' r' (by rw[dQ hlt,if_neg (by assumption)];exact hj')
theorem eH (hlt:j<rs.length) {f:Fv} {i:Nat} (hil:i<r.length) {j':Nat} {r':List Fv} {i':Nat} {f':Fv} (hj':(rs.set j (r.set i f))[j']?=some r') (hi':r'[i']?=some f'):
  (j'=j/\i'=i/\f'=f)\/(¬(j'=j/\i'=i)/\∃r0,(rs.set j r)[j']?=some r0/\r0[i']?=some f'):=by
 rw[dQ hlt] at hj' ⊢;split at hj'
 ·next e=>
  cases hj';rw[if_pos e];rw[Hg] at hi';split at hi'
  ·next e2=>
   try rw[if_pos hil] at hi'
   exact .inl ⟨e.symm,e2.symm,(Fq hi').symm⟩
  ·next e2=>exact .inr ⟨fun q=>e2 q.2.symm,r,rfl,hi'⟩
 ·next e=>
  rw[if_neg e];exact .inr ⟨fun q=>e q.1.symm,r',hj',hi'⟩
theorem Fv.Own.bD {k:Nat} {v:Value} {u:Fv} {z:Value} {h:Nat} (hu:u.Own wr h S g z):u.Own (wr.setCell ⟨g,k,none⟩ v) h S g z:=by
 cases u with
 | l zs=>
  obtain⟨a',l',c',k1,k2,k3,k4,k5,k6⟩:=hu;refine⟨a',l',c',k1,k2,k3,k4,k5,k6.imp id ?_⟩;rintro⟨q1,q2,q3,cu,q4,q5⟩;exact⟨q1,q2,q3,cu,(Fp _ _ _ _ q3).trans q4,q5⟩
 | _=>exact hu
theorem StJ.set (h:StJ g m T S N w wr rs j r) {i:Nat} {old:Fv} (hi:r[i]?=some old) (f:Fv) {v:Value} (hv:f.val=some v) (hf:f.fit):StJ g m T S N w (wr.setCell ⟨g,j*m+i,none⟩ v) rs j (r.set i f):=by
 have hget:=h.get;obtain⟨⟨cur,H,h1,hN⟩,h2,h3⟩:=h;have hil:i<r.length:=(Fm.1 hi).1;have hrm:=h1.len j r hget;obtain⟨v0,hc0,-⟩:=h1.cell j r hget i _ hi;have hin:j*m+i<cur.size:=(FG.1 hc0).1;have hnl:∀zs,¬.l zs=f:=fun zs e=>by subst e;cases hv
 have back:∀(j':Nat) r' (i':Nat) zs',(rs.set j (r.set i f))[j']?=some r'->r'[i']?=some (.l zs')->∃r0,(rs.set j r)[j']?=some r0/\r0[i']?=some (.l zs'):=by
  intro j' r' i' zs' hj' hi';rcases eH h3 hil hj' hi' with ⟨_,_,e⟩|⟨_,q⟩
  ·exact absurd e (hnl _)
  ·exact q
 refine⟨⟨cur.setIfInBounds (j*m+i) v,H,⟨aA h1.blk v,h1.inS,lT h3 h1.len,fun j' r' hj' i' f' hi'=>?_,fun j' r' i' zs' j2 r2 i2 zs2 hj' hi' hz' hj2 hi2 hz2 hH=>?_⟩,fun j' r' i' zs' hj' hi' hz'=>?_⟩,h2.set h1.inS,h3⟩
 ·rcases eH h3 hil hj' hi' with ⟨rfl,rfl,rfl⟩|⟨hne,r0,q1,q2⟩
  ·exact⟨v,by rw[Array.getElem?_setIfInBounds_self_of_lt hin],Fv.Own.Dz hv hf⟩
  ·obtain⟨v',k1,k2⟩:=h1.cell j' r0 q1 i' f' q2;have hil':i'<r0.length:=(Fm.1 q2).1;have hrm':=h1.len j' r0 q1;refine⟨v',?_,k2.bD⟩;exact yi
 ·obtain⟨r0,b1,b2⟩:=back j' r' i' zs' hj' hi';obtain⟨r3,b3,b4⟩:=back j2 r2 i2 zs2 hj2 hi2;exact h1.inj j' r0 i' zs' j2 r3 i2 zs2 b1 b2 hz' b3 b4 hz2 hH
 ·obtain⟨r0,b1,b2⟩:=back j' r' i' zs' hj' hi';exact hN j' r0 i' zs' b1 b2 hz'
end

theorem m9 {α:Type} {l:List α} {i:Nat} {x:α} (h:l[i]?=some x):l.set i x=l:=by
 apply List.ext_getElem?;intro k;rw[Hg];split
 ·next e=>
  subst e;rw[if_pos (Fm.1 h).1,h]
 ·rfl

theorem StJ.dt {g m:Nat} {T:TypeId} {S N:Nat->Prop} {w wr:World} {rs:List (List Fv)} {j:Nat} {r:List Fv} (h:StJ g m T S N w wr rs j r) {i:Nat} {old:Fv} (hi:r[i]?=some old) (t:ByteArray) (hf:t.size<=9223372036854775807):StJ g m T S N w (wr.setCell ⟨g,j*m+i,none⟩ (.string t)) rs j (r.set i (.s t)):=h.set hi (.s t) rfl hf
theorem StJ.iu {g m:Nat} {T:TypeId} {S N:Nat->Prop} {w wr:World} {rs:List (List Fv)} {j:Nat} {r:List Fv} (h:StJ g m T S N w wr rs j r) {i:Nat} {old:Fv} (hi:r[i]?=some old) (t:Int):StJ g m T S N w (wr.setCell ⟨g,j*m+i,none⟩ (.int .i64 t)) rs j (r.set i (.i t)):=h.set hi (.i t) rfl trivial
theorem az.st {w wr:World} {a:Option Addr} {len cap m:Nat} {T:TypeId} {rs:List (List Fv)} {S:Nat->Prop} (h:az wr a len cap m T rs S) (hk:aC S w wr) {i:Nat} {r:List Fv} (hi:rs[i]?=some r):∃g,a=some ⟨g,0,none⟩/\StJ g m T S (fun _=>False) w wr rs i r:=by
 obtain⟨h1,h2,h3,h4⟩:=h;rcases h4 with h4|⟨g,cur,H,h5,h6⟩
 ·subst h4;simp at hi
 ·refine⟨g,h5,⟨cur,H,?_,fun _ _ _ _ _ _ _ q=>q⟩,hk,(Fm.1 hi).1⟩;rw[m9 hi];exact h6
end Rc
end Go.Proofs.YtpejepeekdjfoaaGreatDoor

namespace Go.Proofs.YtpejepeekdjfoaaGreatDoor
open Go.RowKit
namespace Rc

section
variable {α:Type} {nm:α->ByteArray} {xs:List α} {t:ByteArray}
theorem DS (h:∀(j:Nat) x,xs[j]?=some x->¬nm x=t):hit nm xs t=false:=by
 unfold hit;split
 ·next x hx=>exact bC (h _ x hx)
 ·rfl
end
theorem ar.yes {p:Prop} {w w':World} {e:Ending} (h:ar p w e w') (hp:p):e=.returned (.bool true)/\Below w.heap.size w w':=by
 obtain⟨r,rfl,hr,hb⟩:=h;exact⟨by rw[hr.2 hp],hb⟩
theorem ar.no {p:Prop} {w w':World} {e:Ending} (h:ar p w e w') (hp:¬p):e=.returned (.bool false)/\Below w.heap.size w w':=by
 obtain⟨r,rfl,hr,hb⟩:=h;cases r
 ·exact⟨rfl,hb⟩
 ·exact absurd (hr.1 rfl) hp
end Rc
end Go.Proofs.YtpejepeekdjfoaaGreatDoor

namespace Go.Proofs.YtpejepeekdjfoaaGreatDoor
open Go.RowKit
namespace Rc
open Mk

def Fc (xs:List Nd) (t:ByteArray) (w:World) (e:Ending) (w':World):Prop:=
 Below w.heap.size w w'/\((∃(j:Nat) (x:Nd),xs[j]?=some x/\x.n=t/\e=.returned (.int .i64 j))\/((∀(j:Nat) x,xs[j]?=some x->¬x.n=t)/\e=.returned (.int .i64 (-1))))

theorem jF (d:Ad) (now:Int) (xs:List Nd) (t:ByteArray) (w:World) (hr:aN w d.a1 d.l1 d.c1 7 (xs.map ndF)):
  Calls Tryz.prog 144 #[.agg #[.slice d.a1 d.l1 d.c1,.slice d.a2 d.l2 d.c2,.slice d.a3 d.l3 d.c3,.slice d.a4 d.l4 d.c4,.slice d.a5 d.l5 d.c5,.int .i64 now],.string t] w (Fc xs t w):=by
 have HR:=aa hr;have hxl:xs.length=d.l1:=dv
 have hlc:=FA hr.2.1 hr.2.2.1;clear hr;go_enter Tryz.func144,Tryz.ntmps144;go_wp2;go_loopw [5] (fun i wr=> ∃k:Nat,k<=d.l1/\i=.int .i64 k/\wr=w.alloc (.cells #[.slice d.a1 d.l1 d.c1,.slice d.a2 d.l2 d.c2,.slice d.a3 d.l3 d.c3,.slice d.a4 d.l4 d.c4,.slice d.a5 d.l5 d.c5,.int .i64 now] 36)/\Hid (∀(j:Nat) z,j<k->xs[j]?=some z->¬z.n=t)) (fun i _=>d.l1 - (intOf i).toNat);case atStart=>exact⟨0,by omega,rfl,rfl,fun _ _ h=>absurd h af⟩
 case round=>
  obtain⟨k,hk,rfl,rfl,HE⟩:=hrel;by_cases hlt:k<d.l1
  ·obtain⟨b,o,x,ha,hb,hx,hat⟩:=cB HR.out hlt;obtain⟨va,vl,vc,hvr,-,-,c0,-,-,-,-,-,-⟩:=aZ hat;have HX:=aa hx;clear hat hx hvr;exact oe
  ·obtain rfl:k=d.l1:=af
   exact nU

def Fe (xs:List Kd) (t:ByteArray) (w:World) (e:Ending) (w':World):Prop:=
 Below w.heap.size w w'/\((∃(j:Nat) (x:Kd),xs[j]?=some x/\x.n=t/\e=.returned (.int .i64 j))\/((∀(j:Nat) x,xs[j]?=some x->¬x.n=t)/\e=.returned (.int .i64 (-1))))

theorem mW (d:Ad) (now:Int) (xs:List Kd) (t:ByteArray) (w:World) (hr:aN w d.a2 d.l2 d.c2 4 (xs.map kdF)):
  Calls Tryz.prog 104 #[.agg #[.slice d.a1 d.l1 d.c1,.slice d.a2 d.l2 d.c2,.slice d.a3 d.l3 d.c3,.slice d.a4 d.l4 d.c4,.slice d.a5 d.l5 d.c5,.int .i64 now],.string t] w (Fe xs t w):=by
 have HR:=aa hr;have hxl:xs.length=d.l2:=dv
 have hlc:=FA hr.2.1 hr.2.2.1;clear hr;go_enter Tryz.func104,Tryz.ntmps104;go_wp2;go_loopw [5] (fun i wr=> ∃k:Nat,k<=d.l2/\i=.int .i64 k/\wr=w.alloc (.cells #[.slice d.a1 d.l1 d.c1,.slice d.a2 d.l2 d.c2,.slice d.a3 d.l3 d.c3,.slice d.a4 d.l4 d.c4,.slice d.a5 d.l5 d.c5,.int .i64 now] 36)/\Hid (∀(j:Nat) z,j<k->xs[j]?=some z->¬z.n=t)) (fun i _=>d.l2 - (intOf i).toNat);case atStart=>exact⟨0,by omega,rfl,rfl,fun _ _ h=>absurd h af⟩
 case round=>
  obtain⟨k,hk,rfl,rfl,HE⟩:=hrel;by_cases hlt:k<d.l2
  ·obtain⟨b,o,x,ha,hb,hx,hat⟩:=eW HR.out hlt;obtain⟨-,-,c0,-,-,-⟩:=cf hat;have HX:=aa hx;clear hat hx;exact oe
  ·obtain rfl:k=d.l2:=af
   exact nU

def Fa (xs:List Vd) (t:ByteArray) (w:World) (e:Ending) (w':World):Prop:=
 Below w.heap.size w w'/\((∃(j:Nat) (x:Vd),xs[j]?=some x/\x.n=t/\e=.returned (.int .i64 j))\/((∀(j:Nat) x,xs[j]?=some x->¬x.n=t)/\e=.returned (.int .i64 (-1))))

theorem jD (d:Ad) (now:Int) (xs:List Vd) (t:ByteArray) (w:World) (hr:aN w d.a3 d.l3 d.c3 8 (xs.map vdF)):
  Calls Tryz.prog 133 #[.agg #[.slice d.a1 d.l1 d.c1,.slice d.a2 d.l2 d.c2,.slice d.a3 d.l3 d.c3,.slice d.a4 d.l4 d.c4,.slice d.a5 d.l5 d.c5,.int .i64 now],.string t] w (Fa xs t w):=by
 have HR:=aa hr;have hxl:xs.length=d.l3:=dv
 have hlc:=FA hr.2.1 hr.2.2.1;clear hr;go_enter Tryz.func133,Tryz.ntmps133;go_wp2;go_loopw [5] (fun i wr=> ∃k:Nat,k<=d.l3/\i=.int .i64 k/\wr=w.alloc (.cells #[.slice d.a1 d.l1 d.c1,.slice d.a2 d.l2 d.c2,.slice d.a3 d.l3 d.c3,.slice d.a4 d.l4 d.c4,.slice d.a5 d.l5 d.c5,.int .i64 now] 36)/\Hid (∀(j:Nat) z,j<k->xs[j]?=some z->¬z.n=t)) (fun i _=>d.l3 - (intOf i).toNat);case atStart=>exact⟨0,by omega,rfl,rfl,fun _ _ h=>absurd h af⟩
 case round=>
  obtain⟨k,hk,rfl,rfl,HE⟩:=hrel;by_cases hlt:k<d.l3
  ·obtain⟨b,o,x,ha,hb,hx,hat⟩:=bN HR.out hlt;obtain⟨va,vl,vc,hvr,-,-,-,-,c0,-,-,-,-,-,-,-⟩:=aK hat;have HX:=aa hx;clear hat hx hvr;exact oe
  ·obtain rfl:k=d.l3:=af
   exact nU

def E_ (xs:List Xd) (t:ByteArray) (w:World) (e:Ending) (w':World):Prop:=
 Below w.heap.size w w'/\((∃(j:Nat) (x:Xd),xs[j]?=some x/\x.n=t/\e=.returned (.int .i64 j))\/((∀(j:Nat) x,xs[j]?=some x->¬x.n=t)/\e=.returned (.int .i64 (-1))))

theorem gA (d:Ad) (now:Int) (xs:List Xd) (t:ByteArray) (w:World) (hr:aN w d.a4 d.l4 d.c4 5 (xs.map xdF)):
  Calls Tryz.prog 103 #[.agg #[.slice d.a1 d.l1 d.c1,.slice d.a2 d.l2 d.c2,.slice d.a3 d.l3 d.c3,.slice d.a4 d.l4 d.c4,.slice d.a5 d.l5 d.c5,.int .i64 now],.string t] w (E_ xs t w):=by
 have HR:=aa hr;have hxl:xs.length=d.l4:=dv
 have hlc:=FA hr.2.1 hr.2.2.1;clear hr;go_enter Tryz.func103,Tryz.ntmps103;go_wp2;go_loopw [5] (fun i wr=> ∃k:Nat,k<=d.l4/\i=.int .i64 k/\wr=w.alloc (.cells #[.slice d.a1 d.l1 d.c1,.slice d.a2 d.l2 d.c2,.slice d.a3 d.l3 d.c3,.slice d.a4 d.l4 d.c4,.slice d.a5 d.l5 d.c5,.int .i64 now] 36)/\Hid (∀(j:Nat) z,j<k->xs[j]?=some z->¬z.n=t)) (fun i _=>d.l4 - (intOf i).toNat);case atStart=>exact⟨0,by omega,rfl,rfl,fun _ _ h=>absurd h af⟩
 case round=>
  obtain⟨k,hk,rfl,rfl,HE⟩:=hrel;by_cases hlt:k<d.l4
  ·obtain⟨b,o,x,ha,hb,hx,hat⟩:=dF HR.out hlt;obtain⟨-,-,-,c0,-,-,-,-⟩:=bw hat;have HX:=aa hx;clear hat hx;exact oe
  ·obtain rfl:k=d.l4:=af
   exact nU

def Fb (xs:List Pd) (t:ByteArray) (w:World) (e:Ending) (w':World):Prop:=
 Below w.heap.size w w'/\((∃(j:Nat) (x:Pd),xs[j]?=some x/\x.n=t/\e=.returned (.int .i64 j))\/((∀(j:Nat) x,xs[j]?=some x->¬x.n=t)/\e=.returned (.int .i64 (-1))))

theorem uB (d:Ad) (now:Int) (xs:List Pd) (t:ByteArray) (w:World) (hr:aN w d.a5 d.l5 d.c5 6 (xs.map pdF)):
  Calls Tryz.prog 50 #[.agg #[.slice d.a1 d.l1 d.c1,.slice d.a2 d.l2 d.c2,.slice d.a3 d.l3 d.c3,.slice d.a4 d.l4 d.c4,.slice d.a5 d.l5 d.c5,.int .i64 now],.string t] w (Fb xs t w):=by
 have HR:=aa hr;have hxl:xs.length=d.l5:=dv
 have hlc:=FA hr.2.1 hr.2.2.1;clear hr;go_enter Tryz.func50,Tryz.ntmps50;go_wp2;go_loopw [5] (fun i wr=> ∃k:Nat,k<=d.l5/\i=.int .i64 k/\wr=w.alloc (.cells #[.slice d.a1 d.l1 d.c1,.slice d.a2 d.l2 d.c2,.slice d.a3 d.l3 d.c3,.slice d.a4 d.l4 d.c4,.slice d.a5 d.l5 d.c5,.int .i64 now] 36)/\Hid (∀(j:Nat) z,j<k->xs[j]?=some z->¬z.n=t)) (fun i _=>d.l5 - (intOf i).toNat);case atStart=>exact⟨0,by omega,rfl,rfl,fun _ _ h=>absurd h af⟩
 case round=>
  obtain⟨k,hk,rfl,rfl,HE⟩:=hrel;by_cases hlt:k<d.l5
  ·obtain⟨b,o,x,ha,hb,hx,hat⟩:=bY HR.out hlt;obtain⟨va,vl,vc,hvr,-,-,-,c0,-,-,-,-,-⟩:=aT hat;have HX:=aa hx;clear hat hx hvr;exact oe
  ·obtain rfl:k=d.l5:=af
   exact nU

theorem di (a:Option Addr) (len cap:Nat) (zs:List ByteArray) (t:ByteArray) (w:World) (hr:ay w a len cap zs):
  Calls Tryz.prog 108 #[.slice a len cap,.string t] w (ar (InL zs t) w):=by
 have HR:=aa hr;have hlc:=FA hr.2.1 hr.2.2.1;have hzl:=hr.1;clear hr;go_enter Tryz.func108,Tryz.ntmps108;go_wp2;go_loop [5] (fun i=> ∃k:Nat,k<=len/\i=.int .i64 k/\Hid (∀(j:Nat) x,j<k->zs[j]?=some x->¬x=t)) (fun i=>len - (intOf i).toNat);case atStart=>exact⟨0,by omega,rfl,fun _ _ h=>absurd h af⟩
 case round=>
  obtain⟨k,hk,rfl,HE⟩:=hrel;by_cases hlt:k<len
  ·obtain⟨b,o,x,rfl,hb,hx,hc,hsz⟩:=HR.at hlt;have HX:=aa hx;clear hx;by_cases hn:x=t
   ·have hq:=a9 hn;have HN:=aa hn;clear hn;go_wp2;go_ret;exact ar.t ⟨k,by rw[HX.out,HN.out]⟩ (Fw _ _)
   ·have hq:=bC hn;have HN:=aa hn;clear hn;go_wp2;refine⟨⟨k+1,by omega,by go_num,fun j z hj hz=>?_⟩,by simp[intOf];omega⟩;exact wW
  ·obtain rfl:len=k:=af
   go_wp2;go_ret;exact ar.f (fun ⟨j,hj⟩=>HE.out j t nA hj rfl) (Fw _ _)

theorem jE (d:Ad) (now:Int) (xs:List Nd) (t:ByteArray) (w:World) (hr:aN w d.a1 d.l1 d.c1 7 (xs.map ndF)) (hs:aP Nd.n xs) {j:Nat} {x:Nd} (hx:xs[j]?=some x) (hn:x.n=t):
  Calls Tryz.prog 144 #[.agg #[.slice d.a1 d.l1 d.c1,.slice d.a2 d.l2 d.c2,.slice d.a3 d.l3 d.c3,.slice d.a4 d.l4 d.c4,.slice d.a5 d.l5 d.c5,.int .i64 now],.string t] w fun e w'=>e=.returned (.int .i64 j)/\Below w.heap.size w w':=by
 refine (jF d now xs t w hr).mono ?_;exact sz
theorem tg (d:Ad) (now:Int) (xs:List Nd) (t:ByteArray) (w:World) (hr:aN w d.a1 d.l1 d.c1 7 (xs.map ndF)) (hn:∀(j:Nat) x,xs[j]?=some x->¬x.n=t):
  Calls Tryz.prog 144 #[.agg #[.slice d.a1 d.l1 d.c1,.slice d.a2 d.l2 d.c2,.slice d.a3 d.l3 d.c3,.slice d.a4 d.l4 d.c4,.slice d.a5 d.l5 d.c5,.int .i64 now],.string t] w fun e w'=>e=.returned (.int .i64 (-1))/\Below w.heap.size w w':=by
 refine (jF d now xs t w hr).mono ?_;exact ss

theorem dY (d:Ad) (now:Int) (xs:List Kd) (t:ByteArray) (w:World) (hr:aN w d.a2 d.l2 d.c2 4 (xs.map kdF)) (hs:aP Kd.n xs) {j:Nat} {x:Kd} (hx:xs[j]?=some x) (hn:x.n=t):
  Calls Tryz.prog 104 #[.agg #[.slice d.a1 d.l1 d.c1,.slice d.a2 d.l2 d.c2,.slice d.a3 d.l3 d.c3,.slice d.a4 d.l4 d.c4,.slice d.a5 d.l5 d.c5,.int .i64 now],.string t] w fun e w'=>e=.returned (.int .i64 j)/\Below w.heap.size w w':=by
 refine (mW d now xs t w hr).mono ?_;exact sz
theorem kQ (d:Ad) (now:Int) (xs:List Kd) (t:ByteArray) (w:World) (hr:aN w d.a2 d.l2 d.c2 4 (xs.map kdF)) (hn:∀(j:Nat) x,xs[j]?=some x->¬x.n=t):
  Calls Tryz.prog 104 #[.agg #[.slice d.a1 d.l1 d.c1,.slice d.a2 d.l2 d.c2,.slice d.a3 d.l3 d.c3,.slice d.a4 d.l4 d.c4,.slice d.a5 d.l5 d.c5,.int .i64 now],.string t] w fun e w'=>e=.returned (.int .i64 (-1))/\Below w.heap.size w w':=by
 refine (mW d now xs t w hr).mono ?_;exact ss

theorem jC (d:Ad) (now:Int) (xs:List Vd) (t:ByteArray) (w:World) (hr:aN w d.a3 d.l3 d.c3 8 (xs.map vdF)) (hs:aP Vd.n xs) {j:Nat} {x:Vd} (hx:xs[j]?=some x) (hn:x.n=t):
  Calls Tryz.prog 133 #[.agg #[.slice d.a1 d.l1 d.c1,.slice d.a2 d.l2 d.c2,.slice d.a3 d.l3 d.c3,.slice d.a4 d.l4 d.c4,.slice d.a5 d.l5 d.c5,.int .i64 now],.string t] w fun e w'=>e=.returned (.int .i64 j)/\Below w.heap.size w w':=by
 refine (jD d now xs t w hr).mono ?_;exact sz
theorem ik (d:Ad) (now:Int) (xs:List Vd) (t:ByteArray) (w:World) (hr:aN w d.a3 d.l3 d.c3 8 (xs.map vdF)) (hn:∀(j:Nat) x,xs[j]?=some x->¬x.n=t):
  Calls Tryz.prog 133 #[.agg #[.slice d.a1 d.l1 d.c1,.slice d.a2 d.l2 d.c2,.slice d.a3 d.l3 d.c3,.slice d.a4 d.l4 d.c4,.slice d.a5 d.l5 d.c5,.int .i64 now],.string t] w fun e w'=>e=.returned (.int .i64 (-1))/\Below w.heap.size w w':=by
 refine (jD d now xs t w hr).mono ?_;exact ss

theorem e_ (d:Ad) (now:Int) (xs:List Xd) (t:ByteArray) (w:World) (hr:aN w d.a4 d.l4 d.c4 5 (xs.map xdF)) (hs:aP Xd.n xs) {j:Nat} {x:Xd} (hx:xs[j]?=some x) (hn:x.n=t):
  Calls Tryz.prog 103 #[.agg #[.slice d.a1 d.l1 d.c1,.slice d.a2 d.l2 d.c2,.slice d.a3 d.l3 d.c3,.slice d.a4 d.l4 d.c4,.slice d.a5 d.l5 d.c5,.int .i64 now],.string t] w fun e w'=>e=.returned (.int .i64 j)/\Below w.heap.size w w':=by
 refine (gA d now xs t w hr).mono ?_;exact sz
theorem fw (d:Ad) (now:Int) (xs:List Xd) (t:ByteArray) (w:World) (hr:aN w d.a4 d.l4 d.c4 5 (xs.map xdF)) (hn:∀(j:Nat) x,xs[j]?=some x->¬x.n=t):
  Calls Tryz.prog 103 #[.agg #[.slice d.a1 d.l1 d.c1,.slice d.a2 d.l2 d.c2,.slice d.a3 d.l3 d.c3,.slice d.a4 d.l4 d.c4,.slice d.a5 d.l5 d.c5,.int .i64 now],.string t] w fun e w'=>e=.returned (.int .i64 (-1))/\Below w.heap.size w w':=by
 refine (gA d now xs t w hr).mono ?_;exact ss

def Ez (c:Cl) (t:ByteArray) (w:World) (e:Ending) (w':World):Prop:=
 Below w.heap.size w w'/\((∃(j:Nat) (v:Vd),c.vs[j]?=some v/\bJ c t v/\e=.returned (.int .i64 j))\/((∀v,¬bJ c t v)/\e=.returned (.int .i64 (-1))))

theorem fB (d:Ad) (c:Cl) (t:ByteArray) (w:World) (hr:aJ w d c.raw) (hx:aP Xd.n c.xs) (hv:aP Vd.n c.vs) (hne:∀(j:Nat) v,c.vs[j]?=some v->¬v.n=⟨#[]⟩):
  Calls Tryz.prog 102 #[.agg #[.slice d.a1 d.l1 d.c1,.slice d.a2 d.l2 d.c2,.slice d.a3 d.l3 d.c3,.slice d.a4 d.l4 d.c4,.slice d.a5 d.l5 d.c5,.int .i64 c.now],.string t] w (Ez c t w):=by
 obtain⟨a1,l1,y1,a2,l2,y2,a3,l3,y3,a4,l4,y4,a5,l5,y5⟩:=d;dsimp only;have HR:=aa hr;have hl4:c.xs.length=l4:=uT
 clear hr;obtain⟨HX,HV,HNE⟩:=iT;have HB:=aa (Fw w.heap.size w);clear hx hv hne;go_enter Tryz.func102,Tryz.ntmps102;go_wp2_with fail;refine (gA ⟨a1,l1,y1,a2,l2,y2,a3,l3,y3,a4,l4,y4,a5,l5,y5⟩ c.now c.xs t _ (HR.x.below (al _ _))).mono ?_;rintro e w1 ⟨hb,hf⟩;obtain⟨HA0,hbx⟩:=aL hb;have Bk:=aa HA0;replace HB:=upB HB hbx;clear hb hbx HA0;rcases hf with ⟨j,x,hx,hn,rfl⟩|⟨hh,rfl⟩;rotate_left
 ·have HH:=aa hh;clear hh;obtain⟨k0,k1,k2,k3,k4,k5⟩:=cs6 Bk;go_wp2;go_ret;exact⟨HB.out,.inr ⟨fun v ⟨i,j,x,e1,e2,_⟩=>HH.out i x e1 e2,rfl⟩⟩
 have hj:j<l4:=by have h1:=(Fm.1 hx).1;omega
 obtain⟨b,o,y,rfl,hbb,hy,hat⟩:=dF HR.x hj;rw[hx] at hy;obtain rfl:=Fq hy;obtain⟨z0,z2,z4,c0,c1,c2,c3,c4⟩:=bw hat;have HX1:=aa hx;have HN1:=aa hn;have e4:=(ak HB.out hbb).trans c4;have hb1:=FE hbb HB.size;have hj0:(0:Int)<=j:=af
 clear hx hn hy hat z0 z2 z4 c0 c1 c2 c3;by_cases he:x.v=⟨#[]⟩
 ·have hq:=cV he;have HEm:=aa he;clear he;obtain⟨k0,k1,k2,k3,k4,k5⟩:=cs6 Bk;go_wp2;go_ret;refine⟨HB.out,.inr ⟨fun v ⟨i,j2,x2,e1,e2,e3,e5⟩=>?_,rfl⟩⟩;obtain⟨_,rfl⟩:=HX.inj e1 HX1.out (e2.trans HN1.symm);exact HNE.out j2 v e3 (e5.trans HEm.out)
 ·have hq:=bc he;have HEm:=aa he;clear he;obtain⟨k0,k1,k2,k3,k4,k5⟩:=cs6 Bk;go_wp2_with fail;by_cases hf:∃(j2:Nat) (v:Vd),c.vs[j2]?=some v/\v.n=x.v
  ·obtain⟨j2,v,h1,h2⟩:=hf;have HF1:=aa h1;have HF2:=aa h2;clear h1 h2;clear k0 k1 k2 k3 k4 k5;have Gk:=Bk;have HW:=HB;have k0:=fun q:Wd w1=>q.slot (o:=0) Gk.out rfl;have k1:=fun q:Wd w1=>q.slot (o:=1) Gk.out rfl;have k2:=fun q:Wd w1=>q.slot (o:=2) Gk.out rfl;have k3:=fun q:Wd w1=>q.slot (o:=3) Gk.out rfl;have k4:=fun q:Wd w1=>q.slot (o:=4) Gk.out rfl;have k5:=fun q:Wd w1=>q.slot (o:=5) Gk.out rfl;have e4w:=fun q:Wd w1=>(q.cell hb1).trans e4;have hne0:=Wd.ne w1;have HC0:=aa (fun q:Wd w1=>jC ⟨a1,l1,y1,a2,l2,y2,a3,l3,y3,(some ⟨b,o,none⟩),l4,y4,a5,l5,y5⟩ c.now c.vs x.v q.w (HR.v.below (HW.trans (q.b.mono HW.size))) HV.out HF1.out HF2.out);go_wp2_with fail;refine ag aq aq ?_;repeat (go_big_quiet_step (first|(go_at_call 133;exact Calls.wide (HC0.out _))|fail))
   refine wpQuiet_nil ?_;rintro _ ⟨q,rfl⟩;have HB2:=upB HW q.b;have Ck:=upK Gk q.b;clear hne0 HW HB HC0 k0 k1 k2 k3 k4 k5 e4w Gk Bk;have HB:=HB2;clear HB2;have Bk:=Ck;clear Ck;go_wp2_with fail;go_ret;exact⟨HB.out,.inl ⟨j2,v,HF1.out,⟨_,_,x,HX1.out,HN1.out,HF1.out,HF2.out⟩,rfl⟩⟩
  ·have HF:=aa hf;clear hf;clear k0 k1 k2 k3 k4 k5;have Gk:=Bk;have HW:=HB;obtain⟨k0,k1,k2,k3,k4,k5⟩:=sl6 Gk;have e4w:=fun q:Wd w1=>(q.cell hb1).trans e4;have hne0:=Wd.ne w1;have HC0:=aa (fun q:Wd w1=>ik ⟨a1,l1,y1,a2,l2,y2,a3,l3,y3,(some ⟨b,o,none⟩),l4,y4,a5,l5,y5⟩ c.now c.vs x.v q.w (HR.v.below (HW.trans (q.b.mono HW.size))) (fun j2 v h1 h2=>HF.out ⟨j2,v,h1,h2⟩));go_wp2_with fail;refine ag aq aq ?_;repeat (go_big_quiet_step (first|(go_at_call 133;exact Calls.wide (HC0.out _))|fail))
   refine wpQuiet_nil ?_;rintro _ ⟨q,rfl⟩;have HB2:=upB HW q.b;have Ck:=upK Gk q.b;clear hne0 HW HB HC0 k0 k1 k2 k3 k4 k5 e4w Gk Bk;have HB:=HB2;clear HB2;have Bk:=Ck;clear Ck;go_wp2_with fail;go_ret;refine⟨HB.out,.inr ⟨fun v ⟨i,j2,x2,e1,e2,e3,e5⟩=>?_,rfl⟩⟩;obtain⟨_,rfl⟩:=HX.inj e1 HX1.out (e2.trans HN1.symm);exact HF.out ⟨j2,v,e3,e5⟩

theorem fA (d:Ad) (c:Cl) (t:ByteArray) (w:World) (hr:aJ w d c.raw) (hx:aP Xd.n c.xs) (hv:aP Vd.n c.vs) (hne:∀(j:Nat) v,c.vs[j]?=some v->¬v.n=⟨#[]⟩) {j:Nat} {v:Vd} (hj:c.vs[j]?=some v) (hb:bJ c t v):
  Calls Tryz.prog 102 #[.agg #[.slice d.a1 d.l1 d.c1,.slice d.a2 d.l2 d.c2,.slice d.a3 d.l3 d.c3,.slice d.a4 d.l4 d.c4,.slice d.a5 d.l5 d.c5,.int .i64 c.now],.string t] w fun e w'=>e=.returned (.int .i64 j)/\Below w.heap.size w w':=by
 refine (fB d c t w hr hx hv hne).mono ?_;rintro e w' ⟨hw,h⟩;rcases h with ⟨i,u,h1,h2,rfl⟩|⟨h1,rfl⟩
 ·obtain rfl:=bJ.inj hx hv h2 hb;obtain⟨rfl,_⟩:=hv.inj h1 hj rfl;exact⟨rfl,hw⟩
 ·exact absurd hb (h1 v)
theorem ga (d:Ad) (c:Cl) (t:ByteArray) (w:World) (hr:aJ w d c.raw) (hx:aP Xd.n c.xs) (hv:aP Vd.n c.vs) (hne:∀(j:Nat) v,c.vs[j]?=some v->¬v.n=⟨#[]⟩) (hb:∀v,¬bJ c t v):
  Calls Tryz.prog 102 #[.agg #[.slice d.a1 d.l1 d.c1,.slice d.a2 d.l2 d.c2,.slice d.a3 d.l3 d.c3,.slice d.a4 d.l4 d.c4,.slice d.a5 d.l5 d.c5,.int .i64 c.now],.string t] w fun e w'=>e=.returned (.int .i64 (-1))/\Below w.heap.size w w':=by
 refine (fB d c t w hr hx hv hne).mono ?_;rintro e w' ⟨hw,h⟩;rcases h with ⟨i,u,h1,h2,rfl⟩|⟨h1,rfl⟩
 ·exact absurd h2 (hb u)
 ·exact⟨rfl,hw⟩
theorem bJ.at {c:Cl} {t:ByteArray} {v:Vd} (h:bJ c t v):∃j:Nat,c.vs[j]?=some v:=by
 obtain⟨_,j,_,_,_,h,_⟩:=h;exact⟨j,h⟩

theorem il (d:Ad) (now:Int) (ps:List Pd) (t:ByteArray) (w:World) (hr:aN w d.a5 d.l5 d.c5 6 (ps.map pdF)) (hl:ps.length<=8) (hp:∀(j:Nat) p,ps[j]?=some p->0<=p.c/\p.c<=1000000):
  Calls Tryz.prog 80 #[.agg #[.slice d.a1 d.l1 d.c1,.slice d.a2 d.l2 d.c2,.slice d.a3 d.l3 d.c3,.slice d.a4 d.l4 d.c4,.slice d.a5 d.l5 d.c5,.int .i64 now],.string t] w fun e w'=>e=.returned (.int .i64 (cpuOf t ps))/\Below w.heap.size w w':=by
 obtain⟨a1,l1,y1,a2,l2,y2,a3,l3,y3,a4,l4,y4,a5,l5,y5⟩:=d;dsimp only at hr ⊢;have HR:=aa hr;have hxl:ps.length=l5:=dv
 have HP:=aa hp;clear hr hp;go_enter Tryz.func80,Tryz.ntmps80;go_wp2;go_loopw [5,6] (fun q i wr=> ∃(k:Nat) (s:Int),k<=l5/\q=.int .i64 s/\i=.int .i64 k/\Hid (s=cpuOf t (ps.take k))/\0<=s/\s<=k*1000000/\wr=w.alloc (.cells #[.slice a1 l1 y1,.slice a2 l2 y2,.slice a3 l3 y3,.slice a4 l4 y4,.slice a5 l5 y5,.int .i64 now] 36)) (fun _ i _=>l5 - (intOf i).toNat);case atStart=>exact⟨0,0,by omega,rfl,rfl,rfl,by omega,by omega,rfl⟩
 case round=>
  obtain⟨k,s,hk,rfl,rfl,HS,hs0,hs1,rfl⟩:=hrel;by_cases hlt:k<l5
  ·obtain⟨b,o,p,rfl,hb,hx,hat⟩:=bY HR.out hlt;obtain⟨va,vl,vc,hvr,z0,z2,z4,c0,c1,c2,c3,c4,c5⟩:=aT hat;have HX:=aa hx;have hpc:=HP.out k p hx;clear hat hx z0 z2 z4 hvr;by_cases hn:p.d=t
   ·have hq:=a9 hn;have HN:=aa hn;clear hn;go_wp2;refine⟨⟨k+1,s+p.c,by omega,by go_num,by go_num,?_,by omega,by omega,by first|rfl|trivial⟩,by simp[intOf];omega⟩;show _=_;rw[eR HX.out,if_pos HN.out,<-HS.out]
   ·have hq:=bC hn;have HN:=aa hn;clear hn;go_wp2;refine⟨⟨k+1,s,by omega,rfl,by go_num,?_,by omega,by omega,by first|rfl|trivial⟩,by simp[intOf];omega⟩;show _=_;rw[eR HX.out,if_neg HN.out,<-HS.out,Int.add_zero]
  ·obtain rfl:l5=k:=af
   go_wp2;go_ret;exact⟨congrArg (fun z=>Ending.returned (.int .i64 z)) (HS.trans (by rw[FF af])),al _ _⟩

theorem Ao (d:Ad) (now:Int) (vs:List Vd) (t:ByteArray) (w:World) (hr:aN w d.a3 d.l3 d.c3 8 (vs.map vdF)) (hl:vs.length<=8):
  Calls Tryz.prog 146 #[.agg #[.slice d.a1 d.l1 d.c1,.slice d.a2 d.l2 d.c2,.slice d.a3 d.l3 d.c3,.slice d.a4 d.l4 d.c4,.slice d.a5 d.l5 d.c5,.int .i64 now],.string t] w fun e w'=>e=.returned (.int .i64 (onOf t vs))/\Below w.heap.size w w':=by
 obtain⟨a1,l1,y1,a2,l2,y2,a3,l3,y3,a4,l4,y4,a5,l5,y5⟩:=d;dsimp only at hr ⊢;have HR:=aa hr;have hxl:vs.length=l3:=dv
 clear hr;go_enter Tryz.func146,Tryz.ntmps146;go_wp2;go_loopw [5,6] (fun q i wr=> ∃(k:Nat) (s:Int),k<=l3/\q=.int .i64 s/\i=.int .i64 k/\Hid (s=onOf t (vs.take k))/\0<=s/\s<=k/\Hid (Below w.heap.size w wr)/\Hid (wr.heap[w.heap.size]?=some (.cells (clo6 a1 l1 y1 a2 l2 y2 a3 l3 y3 a4 l4 y4 a5 l5 y5 now) 36 (0,0)))) (fun _ i _=>l3 - (intOf i).toNat);case atStart=>exact⟨0,0,by omega,rfl,rfl,rfl,by omega,by omega,al _ _,FD⟩
 case round=>
  obtain⟨k,s,hk,rfl,rfl,HS,hs0,hs1,HB,Bk⟩:=hrel;have kk:=ck2 Bk;by_cases hlt:k<l3
  ·obtain⟨b,o,v,rfl,hb,hx,hat⟩:=bN (HR.below HB.out) hlt;obtain⟨va,vl,vc,hvr,z0,z2,z3,z5,c0,c1,c2,c3,c4,c5,c6,c7⟩:=aK hat;have HX:=aa hx;have HT:=aa hvr;clear hat hx z0 z2 z3 z5 hvr;go_wp2_with fail;refine (di va vl vc v.zs t _ HT.out).mono ?_;rintro e w1 ⟨r,rfl,hi,hb2⟩;replace Bk:=upK Bk hb2;replace HB:=upB HB hb2;clear hb2;have HI:=aa hi;clear hi hb kk c0 c1 c2 c3 c4 c5 c6 c7;cases r
   ·go_wp2;refine⟨⟨k+1,s,by omega,rfl,by go_num,?_,by omega,by omega,HB.out,Bk.out⟩,by simp[intOf];omega⟩;exact xK
   ·go_wp2;refine⟨⟨k+1,s+1,by omega,by go_num,by go_num,?_,by omega,by omega,HB.out,Bk.out⟩,by simp[intOf];omega⟩;show _=_;rw[iD HX.out,if_pos (HI.1 cr),<-HS.out]
  ·obtain rfl:l3=k:=af
   exact qK

def lJ (c:Cl) (p q:Pd):Prop:=p.d=⟨#[]⟩\/q.d=⟨#[]⟩\/p.d=q.d\/∀(j:Nat) t,p.zs[j]?=some t->∀v,bJ c t v->v.x=true->¬InL q.zs t

theorem fx (d:Ad) (c:Cl) (p q:Pd) (pa:Option Addr) (pl pc:Nat) (qa:Option Addr) (ql qc:Nat) (w:World) (hr:aJ w d c.raw) (hx:aP Xd.n c.xs) (hv:aP Vd.n c.vs) (hne:∀(j:Nat) v,c.vs[j]?=some v->¬v.n=⟨#[]⟩) (hp:ay w pa pl pc p.zs) (hq:ay w qa ql qc q.zs):
  Calls Tryz.prog 145 #[.agg #[.slice d.a1 d.l1 d.c1,.slice d.a2 d.l2 d.c2,.slice d.a3 d.l3 d.c3,.slice d.a4 d.l4 d.c4,.slice d.a5 d.l5 d.c5,.int .i64 c.now],.agg #[.string p.n,.int .i64 p.c,.string p.z,.slice pa pl pc,.string p.d,.int .i64 p.p],.agg #[.string q.n,.int .i64 q.c,.string q.z,.slice qa ql qc,.string q.d,.int .i64 q.p]] w (ar (lJ c p q) w):=by
 obtain⟨a1,l1,y1,a2,l2,y2,a3,l3,y3,a4,l4,y4,a5,l5,y5⟩:=d;dsimp only;obtain⟨HR,hl3⟩:=uW;clear hr;obtain⟨HX,HV,HNE⟩:=iT;have HP:=aa hp;have HQ0:=aa hq;have hlc:=FA hp.2.1 hp.2.2.1;have hzl:=hp.1;clear hx hv hne hp hq;by_cases hp0:p.d=⟨#[]⟩
 ·have e1:=cV hp0;have HH:=aa hp0;clear hp0;go_enter Tryz.func145,Tryz.ntmps145;go_wp2;go_ret;exact ar.t (.inl HH.out) (bI _ _ _ _)
 by_cases hq0:q.d=⟨#[]⟩
 ·have e1:=bc hp0;have e2:=cV hq0;have HH:=aa hq0;clear hp0 hq0;go_enter Tryz.func145,Tryz.ntmps145;go_wp2;go_ret;exact ar.t (.inr (.inl HH.out)) (bI _ _ _ _)
 by_cases hpq:p.d=q.d
 ·have e1:=bc hp0;have e2:=bc hq0;have e3:=a9 hpq;have HH:=aa hpq;clear hp0 hq0 hpq;go_enter Tryz.func145,Tryz.ntmps145;go_wp2;go_ret;exact ar.t (.inr (.inr (.inl HH.out))) (bI _ _ _ _)
 have e1:=bc hp0;have e2:=bc hq0;have e3:=bC hpq;have HP0:=aa hp0;have HQ1:=aa hq0;have HPQ:=aa hpq;clear hp0 hq0 hpq;go_enter Tryz.func145,Tryz.ntmps145;go_wp2;clear e1 e2 e3;go_loopw [7] (fun i wr=> ∃k:Nat,k<=pl/\i=.int .i64 k/\Hid (∀(j:Nat) t,j<k->p.zs[j]?=some t->∀v,bJ c t v->v.x=true->¬InL q.zs t)/\Hid (Below w.heap.size w wr)/\Hid (wr.heap[w.heap.size]?=some (.cells (clo6 a1 l1 y1 a2 l2 y2 a3 l3 y3 a4 l4 y4 a5 l5 y5 c.now) 36 (0,0)))/\Hid (wr.heap[w.heap.size+1]?=some (.cells (pov p pa pl pc) 64 (0,0)))/\Hid (wr.heap[w.heap.size+1+1]?=some (.cells (pov q qa ql qc) 64 (0,0)))) (fun i _=>pl - (intOf i).toNat);case atStart=>exact⟨0,by omega,rfl,fun _ _ h=>absurd h af,bI _ _ _ _,fF _ _ _ _,dC _ _ _ _,cS _ _ _ _⟩
 case round=>
  obtain⟨k,hk,rfl,HQ,HB,Bk,Bx,By⟩:=hrel;have px3:=ck3 Bx;by_cases hlt:k<pl
  ·obtain⟨b,o,t,rfl,hb,hxt,hc,hsz⟩:=HP.at hlt;have HXt:=aa hxt;have hcw:=(ak HB.out hb).trans hc;have hbw:=FE hb HB.size;clear hxt hsz;have hcase:(∃v,bJ c t v)\/(∀v,¬bJ c t v):=by
    exact yG
   rcases hcase with ⟨v,hbd⟩|hbd
   ·obtain⟨j3,hj3⟩:=hbd.at;have hl3':j3<l3:=by have h1:=(Fm.1 hj3).1;omega
    obtain⟨b3,o3,v',rfl,hb3,hv',hat⟩:=bN HR.v hl3';rw[hj3] at hv';obtain rfl:=Fq hv';obtain⟨va,vl,vc,hvr,z0,z2,z3,z5,c0,c1,c2,c3,c4,c5,c6,c7⟩:=aK hat;have HJ:=aa hj3;have HD:=aa hbd;have hcv:=(ak HB.out hb3).trans c4;have hbv:=FE hb3 HB.size;have hj0:(0:Int)<=j3:=af
    clear hv' hat hvr z0 z2 z3 z5 c0 c1 c2 c3 c4 c5 c6 c7 hj3 hbd;have Gk:=Bk;have Gx:=Bx;have Gy:=By;have HW:=HB;obtain⟨k0,k1,k2,k3,k4,k5⟩:=sl6 Gk;have x3:=fun q:Wd wr=>q.slot (o:=3) Gx.out rfl;have tw:=fun q:Wd wr=>(q.cell hbw).trans hcw;have hne0:=Wd.ne wr;have HC0:=aa (fun q:Wd wr=>fA ⟨a1,l1,y1,a2,l2,y2,(some ⟨b3,o3,none⟩),l3,y3,a4,l4,y4,a5,l5,y5⟩ c t q.w (HR.below (HW.trans (q.b.mono HW.size))) HX.out HV.out HNE.out HJ.out HD.out);go_wp2_with fail;refine ag aq aq ?_;repeat (go_big_quiet_step (first|(go_at_call 102;exact Calls.wide (HC0.out _))|fail))
    refine wpQuiet_nil ?_;rintro _ ⟨q1,rfl⟩;obtain⟨HB1,Ck⟩:=cM;have Cx:=upK Gx q1.b;have Cy:=upK Gy q1.b;clear hne0 HW HB HC0 k0 k1 k2 k3 k4 k5 x3 tw Gk Gx Gy Bk Bx By px3;have HB:=HB1;clear HB1;have Bk:=Ck;clear Ck;have Bx:=Cx;clear Cx;have By:=Cy;clear Cy;have hcw1:=(q1.cell hbw).trans hcw;have hbw1:=FE hbw q1.b.size;have hcv1:=(q1.cell hbv).trans hcv;have hbv1:=FE hbv q1.b.size;clear hcw hbw hcv hbv;rcases G1 v.x with hs|hs;rotate_left
    ·have HSi:=aa hs;rw[hs] at hcv1;clear hs;obtain⟨Gk,Gx,Gy,HW,k2,x3,y3,tw,vw,hne0⟩:=vv;go_wp2_with fail;refine ag aq aq ?_;repeat (go_big_quiet_step (first|fail))
     refine wpQuiet_nil ?_;rintro _ ⟨q2,rfl⟩;obtain⟨HB2,Ck⟩:=dL;have Cx:=upK Gx q2.b;have Cy:=upK Gy q2.b;clear hne0 HW HB k2 x3 y3 tw vw Gk Gx Gy Bk Bx By;have HB:=HB2;clear HB2;have Bk:=Ck;clear Ck;have Bx:=Cx;clear Cx;have By:=Cy;clear Cy;go_wp2_with fail;refine⟨⟨k+1,by omega,by go_num,fun j s hj hs=>?_,HB.out,Bk.out,Bx.out,By.out⟩,by simp[intOf];omega⟩;by_cases e:j=k
     ·subst e;rw[HXt.out] at hs;obtain rfl:=Fq hs;intro v2 h1 h2;obtain rfl:=bJ.inj HX.out HV.out HD.out h1;rw[HSi.out] at h2;cases h2
     ·exact HQ.out j s af hs
    have HSi:=aa hs;rw[hs] at hcv1;clear hs;by_cases hin:InL q.zs t
    ·have HIn:=aa hin;clear hin;obtain⟨Gk,Gx,Gy,HW,k2,x3,y3,tw,vw,hne0⟩:=vv;have HC0:=aa (fun qq:Wd q1.w=>(di qa ql qc q.zs t qq.w (HQ0.below (HW.trans (qq.b.mono HW.size)))).mono (fun _ _ h=>ar.yes h HIn.out));go_wp2_with fail;refine ag aq aq ?_;repeat (go_big_quiet_step (first|(go_at_call 108;exact Calls.wide (HC0.out _))|fail))
     refine wpQuiet_nil ?_;rintro _ ⟨q2,rfl⟩;obtain⟨HB2,Ck⟩:=dL;have Cx:=upK Gx q2.b;have Cy:=upK Gy q2.b;clear hne0 HW HB HC0 k2 x3 y3 tw vw Gk Gx Gy Bk Bx By;have HB:=HB2;clear HB2;have Bk:=Ck;clear Ck;have Bx:=Cx;clear Cx;have By:=Cy;clear Cy;go_wp2;go_ret;refine ar.f (fun h=>?_) HB.out;rcases h with h|h|h|h
     ·exact HP0.out h
     ·exact HQ1.out h
     ·exact HPQ.out h
     ·exact h k t HXt.out v HD.out HSi.out HIn.out
    ·have HIn:=aa hin;clear hin;obtain⟨Gk,Gx,Gy,HW,k2,x3,y3,tw,vw,hne0⟩:=vv;have HC0:=aa (fun qq:Wd q1.w=>(di qa ql qc q.zs t qq.w (HQ0.below (HW.trans (qq.b.mono HW.size)))).mono (fun _ _ h=>ar.no h HIn.out));go_wp2_with fail;refine ag aq aq ?_;repeat (go_big_quiet_step (first|(go_at_call 108;exact Calls.wide (HC0.out _))|fail))
     refine wpQuiet_nil ?_;rintro _ ⟨q2,rfl⟩;obtain⟨HB2,Ck⟩:=dL;have Cx:=upK Gx q2.b;have Cy:=upK Gy q2.b;clear hne0 HW HB HC0 k2 x3 y3 tw vw Gk Gx Gy Bk Bx By;have HB:=HB2;clear HB2;have Bk:=Ck;clear Ck;have Bx:=Cx;clear Cx;have By:=Cy;clear Cy;go_wp2_with fail;refine⟨⟨k+1,by omega,by go_num,fun j s hj hs=>?_,HB.out,Bk.out,Bx.out,By.out⟩,by simp[intOf];omega⟩;by_cases e:j=k
     ·subst e;rw[HXt.out] at hs;obtain rfl:=Fq hs;intro v2 h1 h2;exact HIn.out
     ·exact HQ.out j s af hs
   ·have HD:=aa hbd;clear hbd;have Gk:=Bk;have Gx:=Bx;have Gy:=By;have HW:=HB;obtain⟨k0,k1,k2,k3,k4,k5⟩:=sl6 Gk;have x3:=fun q:Wd wr=>q.slot (o:=3) Gx.out rfl;have tw:=fun q:Wd wr=>(q.cell hbw).trans hcw;have hne0:=Wd.ne wr;have HC0:=aa (fun q:Wd wr=>ga ⟨a1,l1,y1,a2,l2,y2,a3,l3,y3,a4,l4,y4,a5,l5,y5⟩ c t q.w (HR.below (HW.trans (q.b.mono HW.size))) HX.out HV.out HNE.out HD.out);go_wp2_with fail;refine ag aq aq ?_;repeat (go_big_quiet_step (first|(go_at_call 102;exact Calls.wide (HC0.out _))|fail))
    refine wpQuiet_nil ?_;rintro _ ⟨q1,rfl⟩;obtain⟨HB1,Ck⟩:=cM;have Cx:=upK Gx q1.b;have Cy:=upK Gy q1.b;clear hne0 HW HB HC0 k0 k1 k2 k3 k4 k5 x3 tw Gk Gx Gy Bk Bx By px3;have HB:=HB1;clear HB1;have Bk:=Ck;clear Ck;have Bx:=Cx;clear Cx;have By:=Cy;clear Cy;have Gk:=Bk;have Gx:=Bx;have Gy:=By;have HW:=HB;have k2:=fun q:Wd q1.w=>q.slot (o:=2) Gk.out rfl;have x3:=fun q:Wd q1.w=>q.slot (o:=3) Gx.out rfl;have y3:=fun q:Wd q1.w=>q.slot (o:=3) Gy.out rfl;have hne0:=Wd.ne q1.w;go_wp2_with fail;refine ag aq aq ?_;repeat (go_big_quiet_step (first|fail))
    refine wpQuiet_nil ?_;rintro _ ⟨q2,rfl⟩;obtain⟨HB2,Ck⟩:=dL;have Cx:=upK Gx q2.b;have Cy:=upK Gy q2.b;clear hne0 HW HB k2 x3 y3 Gk Gx Gy Bk Bx By;have HB:=HB2;clear HB2;have Bk:=Ck;clear Ck;have Bx:=Cx;clear Cx;have By:=Cy;clear Cy;go_wp2_with fail;refine⟨⟨k+1,by omega,by go_num,fun j s hj hs=>?_,HB.out,Bk.out,Bx.out,By.out⟩,by simp[intOf];omega⟩;by_cases e:j=k
    ·subst e;rw[HXt.out] at hs;obtain rfl:=Fq hs;intro v2 h1;exact absurd h1 (HD.out v2)
    ·exact HQ.out j s af hs
  ·obtain rfl:pl=k:=af
   go_wp2;go_ret;exact ar.t (.inr (.inr (.inr (fun j t ht=>HQ.out j t sf ht)))) HB.out

theorem tj (d:Ad) (c:Cl) (w:World) (hr:aJ w d c.raw):
  Calls Tryz.prog 110 #[.agg #[.slice d.a1 d.l1 d.c1,.slice d.a2 d.l2 d.c2,.slice d.a3 d.l3 d.c3,.slice d.a4 d.l4 d.c4,.slice d.a5 d.l5 d.c5,.int .i64 c.now]] w (ar (cX c) w):=by
 obtain⟨a1,l1,y1,a2,l2,y2,a3,l3,y3,a4,l4,y4,a5,l5,y5⟩:=d;dsimp only;obtain⟨HR,hl1,hm1,hl2,hm2,hl3,hm3,hl4,hm4,hl5,hm5⟩:=pM;clear hr;by_cases hL1:(6:Int)<l1
 ·go_enter Tryz.func110,Tryz.ntmps110;go_wp2;go_ret;exact ar.f (fun h=>by have:=h.1.1;omega) (al _ _)
 by_cases hL2:(8:Int)<l2
 ·go_enter Tryz.func110,Tryz.ntmps110;go_wp2;go_ret;exact ar.f (fun h=>by have:=h.2.1.1;omega) (al _ _)
 by_cases hL3:(8:Int)<l3
 ·go_enter Tryz.func110,Tryz.ntmps110;go_wp2;go_ret;exact ar.f (fun h=>by have:=h.2.2.1.1;omega) (al _ _)
 by_cases hL4:(8:Int)<l4
 ·go_enter Tryz.func110,Tryz.ntmps110;go_wp2;go_ret;exact ar.f (fun h=>by have:=h.2.2.2.1.1;omega) (al _ _)
 by_cases hL5:(8:Int)<l5
 ·go_enter Tryz.func110,Tryz.ntmps110;go_wp2;go_ret;exact ar.f (fun h=>by have:=h.2.2.2.2.1;omega) (al _ _)
 go_enter Tryz.func110,Tryz.ntmps110;go_wp2;go_loopw [3] (fun i wr=> ∃k:Nat,k<=l1/\i=.int .i64 k/\Hid (∀(j:Nat) z,j<k->c.ns[j]?=some z->oA z)/\Hid (∀(j:Nat) z u,j+1<k->c.ns[j+1]?=some z->c.ns[j]?=some u->FB u.n.toList z.n.toList=true)/\Hid (Below w.heap.size w wr)/\Hid (wr.heap[w.heap.size]?=some (.cells (clo6 a1 l1 y1 a2 l2 y2 a3 l3 y3 a4 l4 y4 a5 l5 y5 c.now) 36 (0,0)))) (fun i _=>l1 - (intOf i).toNat);case atStart=>exact⟨0,by omega,rfl,fun _ _ h=>absurd h af,fun _ _ _ h=>absurd h af,al _ _,FD⟩
 case round=>
  obtain⟨k,hk,rfl,HQ,HO,HB,Bk⟩:=hrel;have pk:=ck0 Bk;by_cases hlt:k<l1
  ·obtain⟨b,o,x,rfl,hb,hx,hat⟩:=cB (HR.n.below HB.out) hlt;obtain⟨va,vl,vc,hvr,z0,z1,c0,c1,c2,c3,c4,c5,c6⟩:=aZ hat;have HXx:=aa hx;have HTx:=aa hvr;have HZx0:=aa z0;have HZx1:=aa z1;clear hat hx z0 z1 hvr;by_cases hok:oA x;rotate_left
   ·have HOK:=aa hok;clear hok;have Gk:=Bk;have HW:=HB;have k0:=fun q:Wd wr=>q.slot (o:=0) Gk.out rfl;obtain⟨x0,x1,x2,x3,x4⟩:=fK;obtain⟨x5,x6⟩:=iV;have hne0:=Wd.ne wr;have HC0:=aa (fun q:Wd wr=>(fy x.n x.z x.c x.s x.u x.d va vl vc x.zs q.w HZx0.out HZx1.out (HTx.below q.b)).mono (fun _ _ h=>ar.no h HOK.out));go_wp2_with fail;refine ag aq aq ?_;repeat (go_big_quiet_step (first|(go_at_call 139;exact Calls.wide (HC0.out _))|fail))
    refine wpQuiet_nil ?_;rintro _ ⟨q,rfl⟩;obtain⟨HB1,Ck⟩:=dh;clear hne0 HW HB HC0 k0 x0 x1 x2 x3 x4 x5 x6 Gk Bk c0 c1 c2 c3 c4 c5 c6 pk;have HB:=HB1;clear HB1;have Bk:=Ck;clear Ck;go_wp2;go_ret;exact ar.f (fun h=>HOK.out (h.1.2.1 k x HXx.out)) HB.out
   have HOK:=aa hok;clear hok;by_cases hk0:0<k;rotate_left
   ·obtain⟨hd,Gk⟩:=nC;have HW:=HB;have k0:=fun q:Wd wr=>q.slot (o:=0) Gk.out rfl;obtain⟨x0,x1,x2,x3,x4⟩:=fK;obtain⟨x5,x6⟩:=iV;have hne0:=Wd.ne wr;have HC0:=aa (fun q:Wd wr=>(fy x.n x.z x.c x.s x.u x.d va vl vc x.zs q.w HZx0.out HZx1.out (HTx.below q.b)).mono (fun _ _ h=>ar.yes h HOK.out));go_wp2_with fail;refine ag aq aq ?_;repeat (go_big_quiet_step (first|(go_at_call 139;exact Calls.wide (HC0.out _))|fail))
    refine wpQuiet_nil ?_;rintro _ ⟨q,rfl⟩;obtain⟨HB1,Ck⟩:=dh;clear hne0 HW HB HC0 k0 x0 x1 x2 x3 x4 x5 x6 Gk Bk c0 c1 c2 c3 c4 c5 c6 pk;exact og
   have ek:((k:Int) - 1).toNat=k - 1:=af
   obtain⟨b',o',y,e',hb',hy,haty⟩:=cB (HR.n.below HB.out) (show k - 1<l1 by omega);cases e';have y0:wr.cell? ⟨b,o+(k - 1)*7,none⟩=some (.string y.n):=by
    exact jZ
   have HXy:=aa hy;clear hy haty;cases hless:FB y.n.toList x.n.toList
   ·obtain⟨Gk,HW,k0⟩:=BJ;obtain⟨x0,x1,x2,x3,x4⟩:=fK;obtain⟨x5,x6⟩:=iV;obtain⟨yw,hne0⟩:=fR;have HC0:=aa (fun q:Wd wr=>(fy x.n x.z x.c x.s x.u x.d va vl vc x.zs q.w HZx0.out HZx1.out (HTx.below q.b)).mono (fun _ _ h=>ar.yes h HOK.out));go_wp2_with fail;refine ag aq aq ?_;repeat (go_big_quiet_step (first|(go_at_call 139;exact Calls.wide (HC0.out _))|fail))
    refine wpQuiet_nil ?_;rintro _ ⟨q,rfl⟩;obtain⟨HB1,Ck⟩:=dh;clear hne0 HW HB HC0 k0 x0 x1 x2 x3 x4 x5 x6 yw Gk Bk c0 c1 c2 c3 c4 c5 c6 pk y0;have HB:=HB1;clear HB1;have Bk:=Ck;clear Ck;go_wp2;go_ret;refine ar.f (fun h=>?_) HB.out;have h3:=h.1.2.2 (k - 1) x y ny HXy.out;rw[hless] at h3;cases h3
   ·obtain⟨Gk,HW,k0⟩:=BJ;obtain⟨x0,x1,x2,x3,x4⟩:=fK;obtain⟨x5,x6⟩:=iV;obtain⟨yw,hne0⟩:=fR;have HC0:=aa (fun q:Wd wr=>(fy x.n x.z x.c x.s x.u x.d va vl vc x.zs q.w HZx0.out HZx1.out (HTx.below q.b)).mono (fun _ _ h=>ar.yes h HOK.out));go_wp2_with fail;refine ag aq aq ?_;repeat (go_big_quiet_step (first|(go_at_call 139;exact Calls.wide (HC0.out _))|fail))
    refine wpQuiet_nil ?_;rintro _ ⟨q,rfl⟩;obtain⟨HB1,Ck⟩:=dh;clear hne0 HW HB HC0 k0 x0 x1 x2 x3 x4 x5 x6 yw Gk Bk c0 c1 c2 c3 c4 c5 c6 pk y0;exact oh
  ·obtain rfl:l1=k:=af
   have HR1:Hid (ed oA Nd.n c.ns 6):=⟨by omega,fun j z hz=>HQ.out j z c_ hz,fun j z u hz hu=>HO.out j z u c_ hz hu⟩;clear HQ HO;skip;have kc:=ck1 Bk;go_wp2;go_loopw [4] (fun i wr=> ∃k:Nat,k<=l2/\i=.int .i64 k/\Hid (∀(j:Nat) z,j<k->c.ks[j]?=some z->ri z)/\Hid (∀(j:Nat) z u,j+1<k->c.ks[j+1]?=some z->c.ks[j]?=some u->FB u.n.toList z.n.toList=true)/\Hid (Below w.heap.size w wr)/\Hid (wr.heap[w.heap.size]?=some (.cells (clo6 a1 l1 y1 a2 l2 y2 a3 l3 y3 a4 l4 y4 a5 l5 y5 c.now) 36 (0,0)))) (fun i _=>l2 - (intOf i).toNat);case atStart=>exact⟨0,by omega,rfl,fun _ _ h=>absurd h af,fun _ _ _ h=>absurd h af,HB.out,Bk.out⟩
   case round=>
    obtain⟨k,hk,rfl,HQ,HO,HB,Bk⟩:=hrel;have pk:=ck1 Bk;by_cases hlt:k<l2
    ·obtain⟨b,o,x,rfl,hb,hx,hat⟩:=eW (HR.k.below HB.out) hlt;obtain⟨z0,z3,c0,c1,c2,c3⟩:=cf hat;have HXx:=aa hx;have HZx0:=aa z0;have HZx3:=aa z3;clear hat hx z0 z3;by_cases hok:ri x;rotate_left
     ·have HOK:=aa hok;clear hok;have Gk:=Bk;obtain⟨HW,k1,x0,x1,x2,x3⟩:=sn;have hne0:=Wd.ne wr;have HC0:=aa (fun q:Wd wr=>(eI x.n x.z x.x x.y q.w HZx0.out HZx3.out).mono (fun _ _ h=>ar.no h HOK.out));go_wp2_with fail;refine ag aq aq ?_;repeat (go_big_quiet_step (first|(go_at_call 140;exact Calls.wide (HC0.out _))|fail))
      refine wpQuiet_nil ?_;rintro _ ⟨q,rfl⟩;obtain⟨HB1,Ck⟩:=dh;clear hne0 HW HB HC0 k1 x0 x1 x2 x3 Gk Bk c0 c1 c2 c3 pk;have HB:=HB1;clear HB1;have Bk:=Ck;clear Ck;go_wp2;go_ret;exact ar.f (fun h=>HOK.out (h.2.1.2.1 k x HXx.out)) HB.out
     have HOK:=aa hok;clear hok;by_cases hk0:0<k;rotate_left
     ·obtain⟨hd,Gk⟩:=nC;obtain⟨HW,k1,x0,x1,x2,x3⟩:=sn;have hne0:=Wd.ne wr;have HC0:=aa (fun q:Wd wr=>(eI x.n x.z x.x x.y q.w HZx0.out HZx3.out).mono (fun _ _ h=>ar.yes h HOK.out));go_wp2_with fail;refine ag aq aq ?_;repeat (go_big_quiet_step (first|(go_at_call 140;exact Calls.wide (HC0.out _))|fail))
      refine wpQuiet_nil ?_;rintro _ ⟨q,rfl⟩;obtain⟨HB1,Ck⟩:=dh;clear hne0 HW HB HC0 k1 x0 x1 x2 x3 Gk Bk c0 c1 c2 c3 pk;exact og
     have ek:((k:Int) - 1).toNat=k - 1:=af
     obtain⟨b',o',y,e',hb',hy,haty⟩:=eW (HR.k.below HB.out) (show k - 1<l2 by omega);cases e';have y0:wr.cell? ⟨b,o+(k - 1)*4,none⟩=some (.string y.n):=by
      exact jZ
     have HXy:=aa hy;clear hy haty;cases hless:FB y.n.toList x.n.toList
     ·have Gk:Hid (wr.heap[w.heap.size]?=some (.cells (clo6 a1 l1 y1 (some ⟨b,o,none⟩) l2 y2 a3 l3 y3 a4 l4 y4 a5 l5 y5 c.now) 36 (0,0))):=Bk.out;obtain⟨HW,k1,x0,x1,x2,x3⟩:=sn;obtain⟨yw,hne0⟩:=fR;have HC0:=aa (fun q:Wd wr=>(eI x.n x.z x.x x.y q.w HZx0.out HZx3.out).mono (fun _ _ h=>ar.yes h HOK.out));go_wp2_with fail;refine ag aq aq ?_;repeat (go_big_quiet_step (first|(go_at_call 140;exact Calls.wide (HC0.out _))|fail))
      refine wpQuiet_nil ?_;rintro _ ⟨q,rfl⟩;obtain⟨HB1,Ck⟩:=dh;clear hne0 HW HB HC0 k1 x0 x1 x2 x3 yw Gk Bk c0 c1 c2 c3 pk y0;have HB:=HB1;clear HB1;have Bk:=Ck;clear Ck;go_wp2;go_ret;refine ar.f (fun h=>?_) HB.out;have h3:=h.2.1.2.2 (k - 1) x y ny HXy.out;rw[hless] at h3;cases h3
     ·have Gk:Hid (wr.heap[w.heap.size]?=some (.cells (clo6 a1 l1 y1 (some ⟨b,o,none⟩) l2 y2 a3 l3 y3 a4 l4 y4 a5 l5 y5 c.now) 36 (0,0))):=Bk.out;obtain⟨HW,k1,x0,x1,x2,x3⟩:=sn;obtain⟨yw,hne0⟩:=fR;have HC0:=aa (fun q:Wd wr=>(eI x.n x.z x.x x.y q.w HZx0.out HZx3.out).mono (fun _ _ h=>ar.yes h HOK.out));go_wp2_with fail;refine ag aq aq ?_;repeat (go_big_quiet_step (first|(go_at_call 140;exact Calls.wide (HC0.out _))|fail))
      refine wpQuiet_nil ?_;rintro _ ⟨q,rfl⟩;obtain⟨HB1,Ck⟩:=dh;clear hne0 HW HB HC0 k1 x0 x1 x2 x3 yw Gk Bk c0 c1 c2 c3 pk y0;exact oh
    ·obtain rfl:l2=k:=af
     have HR2:Hid (ed ri Kd.n c.ks 8):=⟨by omega,fun j z hz=>HQ.out j z c_ hz,fun j z u hz hu=>HO.out j z u c_ hz hu⟩;clear HQ HO;skip;have kc:=ck2 Bk;go_wp2;go_loopw [5] (fun i wr=> ∃k:Nat,k<=l3/\i=.int .i64 k/\Hid (∀(j:Nat) z,j<k->c.vs[j]?=some z->pn z)/\Hid (∀(j:Nat) z u,j+1<k->c.vs[j+1]?=some z->c.vs[j]?=some u->FB u.n.toList z.n.toList=true)/\Hid (Below w.heap.size w wr)/\Hid (wr.heap[w.heap.size]?=some (.cells (clo6 a1 l1 y1 a2 l2 y2 a3 l3 y3 a4 l4 y4 a5 l5 y5 c.now) 36 (0,0)))) (fun i _=>l3 - (intOf i).toNat);case atStart=>exact⟨0,by omega,rfl,fun _ _ h=>absurd h af,fun _ _ _ h=>absurd h af,HB.out,Bk.out⟩
     case round=>
      obtain⟨k,hk,rfl,HQ,HO,HB,Bk⟩:=hrel;have pk:=ck2 Bk;by_cases hlt:k<l3
      ·obtain⟨b,o,x,rfl,hb,hx,hat⟩:=bN (HR.v.below HB.out) hlt;obtain⟨va,vl,vc,hvr,z0,z2,z3,z5,c0,c1,c2,c3,c4,c5,c6,c7⟩:=aK hat;have HXx:=aa hx;have HTx:=aa hvr;have HZx0:=aa z0;have HZx2:=aa z2;have HZx3:=aa z3;have HZx5:=aa z5;clear hat hx z0 z2 z3 z5 hvr;by_cases hok:pn x;rotate_left
       ·have HOK:=aa hok;clear hok;have Gk:=Bk;have HW:=HB;have k2:=fun q:Wd wr=>q.slot (o:=2) Gk.out rfl;obtain⟨x0,x1,x2,x3,x4⟩:=fK;obtain⟨x5,x6⟩:=iV;have x7:=fun q:Wd wr=>(q.cell hb).trans c7;have hne0:=Wd.ne wr;have HC0:=aa (fun q:Wd wr=>(gC x.n x.c x.z x.k x.x x.m x.y va vl vc x.zs q.w HZx0.out HZx2.out HZx3.out HZx5.out (HTx.below q.b)).mono (fun _ _ h=>ar.no h HOK.out));go_wp2_with fail;refine ag aq aq ?_;repeat (go_big_quiet_step (first|(go_at_call 141;exact Calls.wide (HC0.out _))|fail))
        refine wpQuiet_nil ?_;rintro _ ⟨q,rfl⟩;obtain⟨HB1,Ck⟩:=dh;clear hne0 HW HB HC0 k2 x0 x1 x2 x3 x4 x5 x6 x7 Gk Bk c0 c1 c2 c3 c4 c5 c6 c7 pk;have HB:=HB1;clear HB1;have Bk:=Ck;clear Ck;go_wp2;go_ret;exact ar.f (fun h=>HOK.out (h.2.2.1.2.1 k x HXx.out)) HB.out
       have HOK:=aa hok;clear hok;by_cases hk0:0<k;rotate_left
       ·obtain⟨hd,Gk⟩:=nC;have HW:=HB;have k2:=fun q:Wd wr=>q.slot (o:=2) Gk.out rfl;obtain⟨x0,x1,x2,x3,x4⟩:=fK;obtain⟨x5,x6⟩:=iV;have x7:=fun q:Wd wr=>(q.cell hb).trans c7;have hne0:=Wd.ne wr;have HC0:=aa (fun q:Wd wr=>(gC x.n x.c x.z x.k x.x x.m x.y va vl vc x.zs q.w HZx0.out HZx2.out HZx3.out HZx5.out (HTx.below q.b)).mono (fun _ _ h=>ar.yes h HOK.out));go_wp2_with fail;refine ag aq aq ?_;repeat (go_big_quiet_step (first|(go_at_call 141;exact Calls.wide (HC0.out _))|fail))
        refine wpQuiet_nil ?_;rintro _ ⟨q,rfl⟩;obtain⟨HB1,Ck⟩:=dh;clear hne0 HW HB HC0 k2 x0 x1 x2 x3 x4 x5 x6 x7 Gk Bk c0 c1 c2 c3 c4 c5 c6 c7 pk;exact og
       have ek:((k:Int) - 1).toNat=k - 1:=af
       obtain⟨b',o',y,e',hb',hy,haty⟩:=bN (HR.v.below HB.out) (show k - 1<l3 by omega);cases e';have y0:wr.cell? ⟨b,o+(k - 1)*8,none⟩=some (.string y.n):=by
        exact jZ
       have HXy:=aa hy;clear hy haty;cases hless:FB y.n.toList x.n.toList
       ·obtain⟨Gk,HW,k2⟩:=BH;obtain⟨x0,x1,x2,x3,x4⟩:=fK;obtain⟨x5,x6⟩:=iV;have x7:=fun q:Wd wr=>(q.cell hb).trans c7;obtain⟨yw,hne0⟩:=fR;have HC0:=aa (fun q:Wd wr=>(gC x.n x.c x.z x.k x.x x.m x.y va vl vc x.zs q.w HZx0.out HZx2.out HZx3.out HZx5.out (HTx.below q.b)).mono (fun _ _ h=>ar.yes h HOK.out));go_wp2_with fail;refine ag aq aq ?_;repeat (go_big_quiet_step (first|(go_at_call 141;exact Calls.wide (HC0.out _))|fail))
        refine wpQuiet_nil ?_;rintro _ ⟨q,rfl⟩;obtain⟨HB1,Ck⟩:=dh;clear hne0 HW HB HC0 k2 x0 x1 x2 x3 x4 x5 x6 x7 yw Gk Bk c0 c1 c2 c3 c4 c5 c6 c7 pk y0;have HB:=HB1;clear HB1;have Bk:=Ck;clear Ck;go_wp2;go_ret;refine ar.f (fun h=>?_) HB.out;have h3:=h.2.2.1.2.2 (k - 1) x y ny HXy.out;rw[hless] at h3;cases h3
       ·obtain⟨Gk,HW,k2⟩:=BH;obtain⟨x0,x1,x2,x3,x4⟩:=fK;obtain⟨x5,x6⟩:=iV;have x7:=fun q:Wd wr=>(q.cell hb).trans c7;obtain⟨yw,hne0⟩:=fR;have HC0:=aa (fun q:Wd wr=>(gC x.n x.c x.z x.k x.x x.m x.y va vl vc x.zs q.w HZx0.out HZx2.out HZx3.out HZx5.out (HTx.below q.b)).mono (fun _ _ h=>ar.yes h HOK.out));go_wp2_with fail;refine ag aq aq ?_;repeat (go_big_quiet_step (first|(go_at_call 141;exact Calls.wide (HC0.out _))|fail))
        refine wpQuiet_nil ?_;rintro _ ⟨q,rfl⟩;obtain⟨HB1,Ck⟩:=dh;clear hne0 HW HB HC0 k2 x0 x1 x2 x3 x4 x5 x6 x7 yw Gk Bk c0 c1 c2 c3 c4 c5 c6 c7 pk y0;exact oh
      ·obtain rfl:l3=k:=af
       have HR3:Hid (ed pn Vd.n c.vs 8):=⟨by omega,fun j z hz=>HQ.out j z c_ hz,fun j z u hz hu=>HO.out j z u c_ hz hu⟩;clear HQ HO;skip;have kc:=ck3 Bk;go_wp2;go_loopw [6] (fun i wr=> ∃k:Nat,k<=l4/\i=.int .i64 k/\Hid (∀(j:Nat) z,j<k->c.xs[j]?=some z->pd z)/\Hid (∀(j:Nat) z u,j+1<k->c.xs[j+1]?=some z->c.xs[j]?=some u->FB u.n.toList z.n.toList=true)/\Hid (Below w.heap.size w wr)/\Hid (wr.heap[w.heap.size]?=some (.cells (clo6 a1 l1 y1 a2 l2 y2 a3 l3 y3 a4 l4 y4 a5 l5 y5 c.now) 36 (0,0)))) (fun i _=>l4 - (intOf i).toNat);case atStart=>exact⟨0,by omega,rfl,fun _ _ h=>absurd h af,fun _ _ _ h=>absurd h af,HB.out,Bk.out⟩
       case round=>
        obtain⟨k,hk,rfl,HQ,HO,HB,Bk⟩:=hrel;have pk:=ck3 Bk;by_cases hlt:k<l4
        ·obtain⟨b,o,x,rfl,hb,hx,hat⟩:=dF (HR.x.below HB.out) hlt;obtain⟨z0,z2,z4,c0,c1,c2,c3,c4⟩:=bw hat;have HXx:=aa hx;have HZx0:=aa z0;have HZx2:=aa z2;have HZx4:=aa z4;clear hat hx z0 z2 z4;by_cases hok:pd x;rotate_left
         ·have HOK:=aa hok;clear hok;have Gk:=Bk;have HW:=HB;have k3:=fun q:Wd wr=>q.slot (o:=3) Gk.out rfl;obtain⟨x0,x1,x2,x3,x4⟩:=fK;have hne0:=Wd.ne wr;have HC0:=aa (fun q:Wd wr=>(eJ x.n x.z x.k x.x x.v q.w HZx0.out HZx2.out HZx4.out).mono (fun _ _ h=>ar.no h HOK.out));go_wp2_with fail;refine ag aq aq ?_;repeat (go_big_quiet_step (first|(go_at_call 142;exact Calls.wide (HC0.out _))|fail))
          refine wpQuiet_nil ?_;rintro _ ⟨q,rfl⟩;obtain⟨HB1,Ck⟩:=dh;clear hne0 HW HB HC0 k3 x0 x1 x2 x3 x4 Gk Bk c0 c1 c2 c3 c4 pk;have HB:=HB1;clear HB1;have Bk:=Ck;clear Ck;go_wp2;go_ret;exact ar.f (fun h=>HOK.out (h.2.2.2.1.2.1 k x HXx.out)) HB.out
         have HOK:=aa hok;clear hok;by_cases hk0:0<k;rotate_left
         ·obtain⟨hd,Gk⟩:=nC;have HW:=HB;have k3:=fun q:Wd wr=>q.slot (o:=3) Gk.out rfl;obtain⟨x0,x1,x2,x3,x4⟩:=fK;have hne0:=Wd.ne wr;have HC0:=aa (fun q:Wd wr=>(eJ x.n x.z x.k x.x x.v q.w HZx0.out HZx2.out HZx4.out).mono (fun _ _ h=>ar.yes h HOK.out));go_wp2_with fail;refine ag aq aq ?_;repeat (go_big_quiet_step (first|(go_at_call 142;exact Calls.wide (HC0.out _))|fail))
          refine wpQuiet_nil ?_;rintro _ ⟨q,rfl⟩;obtain⟨HB1,Ck⟩:=dh;clear hne0 HW HB HC0 k3 x0 x1 x2 x3 x4 Gk Bk c0 c1 c2 c3 c4 pk;exact og
         have ek:((k:Int) - 1).toNat=k - 1:=af
         obtain⟨b',o',y,e',hb',hy,haty⟩:=dF (HR.x.below HB.out) (show k - 1<l4 by omega);cases e';have y0:wr.cell? ⟨b,o+(k - 1)*5,none⟩=some (.string y.n):=by
          exact jZ
         have HXy:=aa hy;clear hy haty;cases hless:FB y.n.toList x.n.toList
         ·obtain⟨Gk,HW,k3⟩:=BG;obtain⟨x0,x1,x2,x3,x4⟩:=fK;obtain⟨yw,hne0⟩:=fR;have HC0:=aa (fun q:Wd wr=>(eJ x.n x.z x.k x.x x.v q.w HZx0.out HZx2.out HZx4.out).mono (fun _ _ h=>ar.yes h HOK.out));go_wp2_with fail;refine ag aq aq ?_;repeat (go_big_quiet_step (first|(go_at_call 142;exact Calls.wide (HC0.out _))|fail))
          refine wpQuiet_nil ?_;rintro _ ⟨q,rfl⟩;obtain⟨HB1,Ck⟩:=dh;clear hne0 HW HB HC0 k3 x0 x1 x2 x3 x4 yw Gk Bk c0 c1 c2 c3 c4 pk y0;have HB:=HB1;clear HB1;have Bk:=Ck;clear Ck;go_wp2;go_ret;refine ar.f (fun h=>?_) HB.out;have h3:=h.2.2.2.1.2.2 (k - 1) x y ny HXy.out;rw[hless] at h3;cases h3
         ·obtain⟨Gk,HW,k3⟩:=BG;obtain⟨x0,x1,x2,x3,x4⟩:=fK;obtain⟨yw,hne0⟩:=fR;have HC0:=aa (fun q:Wd wr=>(eJ x.n x.z x.k x.x x.v q.w HZx0.out HZx2.out HZx4.out).mono (fun _ _ h=>ar.yes h HOK.out));go_wp2_with fail;refine ag aq aq ?_;repeat (go_big_quiet_step (first|(go_at_call 142;exact Calls.wide (HC0.out _))|fail))
          refine wpQuiet_nil ?_;rintro _ ⟨q,rfl⟩;obtain⟨HB1,Ck⟩:=dh;clear hne0 HW HB HC0 k3 x0 x1 x2 x3 x4 yw Gk Bk c0 c1 c2 c3 c4 pk y0;exact oh
        ·obtain rfl:l4=k:=af
         have HR4:Hid (ed pd Xd.n c.xs 8):=⟨by omega,fun j z hz=>HQ.out j z c_ hz,fun j z u hz hu=>HO.out j z u c_ hz hu⟩;clear HQ HO;skip;have kc:=ck4 Bk;go_wp2;go_loopw [7] (fun i wr=> ∃k:Nat,k<=l5/\i=.int .i64 k/\Hid (∀(j:Nat) z,j<k->c.ps[j]?=some z->qO z)/\Hid (∀(j:Nat) z u,j+1<k->c.ps[j+1]?=some z->c.ps[j]?=some u->FB u.n.toList z.n.toList=true)/\Hid (Below w.heap.size w wr)/\Hid (wr.heap[w.heap.size]?=some (.cells (clo6 a1 l1 y1 a2 l2 y2 a3 l3 y3 a4 l4 y4 a5 l5 y5 c.now) 36 (0,0)))) (fun i _=>l5 - (intOf i).toNat);case atStart=>exact⟨0,by omega,rfl,fun _ _ h=>absurd h af,fun _ _ _ h=>absurd h af,HB.out,Bk.out⟩
         case round=>
          obtain⟨k,hk,rfl,HQ,HO,HB,Bk⟩:=hrel;have pk:=ck4 Bk;by_cases hlt:k<l5
          ·obtain⟨b,o,x,rfl,hb,hx,hat⟩:=bY (HR.p.below HB.out) hlt;obtain⟨va,vl,vc,hvr,z0,z2,z4,c0,c1,c2,c3,c4,c5⟩:=aT hat;have HXx:=aa hx;have HTx:=aa hvr;have HZx0:=aa z0;have HZx2:=aa z2;have HZx4:=aa z4;clear hat hx z0 z2 z4 hvr;by_cases hok:qO x;rotate_left
           ·have HOK:=aa hok;clear hok;have Gk:=Bk;have HW:=HB;have k4:=fun q:Wd wr=>q.slot (o:=4) Gk.out rfl;obtain⟨x0,x1,x2,x3,x4⟩:=fK;have x5:=fun q:Wd wr=>(q.cell hb).trans c5;have hne0:=Wd.ne wr;have HC0:=aa (fun q:Wd wr=>(gE x.n x.c x.z va vl vc x.zs x.d x.p q.w HZx0.out HZx2.out HZx4.out (HTx.below q.b)).mono (fun _ _ h=>ar.no h HOK.out));go_wp2_with fail;refine ag aq aq ?_;repeat (go_big_quiet_step (first|(go_at_call 143;exact Calls.wide (HC0.out _))|fail))
            refine wpQuiet_nil ?_;rintro _ ⟨q,rfl⟩;obtain⟨HB1,Ck⟩:=dh;clear hne0 HW HB HC0 k4 x0 x1 x2 x3 x4 x5 Gk Bk c0 c1 c2 c3 c4 c5 pk;have HB:=HB1;clear HB1;have Bk:=Ck;clear Ck;go_wp2;go_ret;exact ar.f (fun h=>HOK.out (h.2.2.2.2.2.1 k x HXx.out)) HB.out
           have HOK:=aa hok;clear hok;by_cases hk0:0<k;rotate_left
           ·obtain⟨hd,Gk⟩:=nC;have HW:=HB;have k4:=fun q:Wd wr=>q.slot (o:=4) Gk.out rfl;obtain⟨x0,x1,x2,x3,x4⟩:=fK;have x5:=fun q:Wd wr=>(q.cell hb).trans c5;have hne0:=Wd.ne wr;have HC0:=aa (fun q:Wd wr=>(gE x.n x.c x.z va vl vc x.zs x.d x.p q.w HZx0.out HZx2.out HZx4.out (HTx.below q.b)).mono (fun _ _ h=>ar.yes h HOK.out));go_wp2_with fail;refine ag aq aq ?_;repeat (go_big_quiet_step (first|(go_at_call 143;exact Calls.wide (HC0.out _))|fail))
            refine wpQuiet_nil ?_;rintro _ ⟨q,rfl⟩;obtain⟨HB1,Ck⟩:=dh;clear hne0 HW HB HC0 k4 x0 x1 x2 x3 x4 x5 Gk Bk c0 c1 c2 c3 c4 c5 pk;exact og
           have ek:((k:Int) - 1).toNat=k - 1:=af
           obtain⟨b',o',y,e',hb',hy,haty⟩:=bY (HR.p.below HB.out) (show k - 1<l5 by omega);cases e';have y0:wr.cell? ⟨b,o+(k - 1)*6,none⟩=some (.string y.n):=by
            exact jZ
           have HXy:=aa hy;clear hy haty;cases hless:FB y.n.toList x.n.toList
           ·obtain⟨Gk,HW,k4⟩:=BF;obtain⟨x0,x1,x2,x3,x4⟩:=fK;have x5:=fun q:Wd wr=>(q.cell hb).trans c5;obtain⟨yw,hne0⟩:=fR;have HC0:=aa (fun q:Wd wr=>(gE x.n x.c x.z va vl vc x.zs x.d x.p q.w HZx0.out HZx2.out HZx4.out (HTx.below q.b)).mono (fun _ _ h=>ar.yes h HOK.out));go_wp2_with fail;refine ag aq aq ?_;repeat (go_big_quiet_step (first|(go_at_call 143;exact Calls.wide (HC0.out _))|fail))
            refine wpQuiet_nil ?_;rintro _ ⟨q,rfl⟩;obtain⟨HB1,Ck⟩:=dh;clear hne0 HW HB HC0 k4 x0 x1 x2 x3 x4 x5 yw Gk Bk c0 c1 c2 c3 c4 c5 pk y0;have HB:=HB1;clear HB1;have Bk:=Ck;clear Ck;go_wp2;go_ret;refine ar.f (fun h=>?_) HB.out;have h3:=h.2.2.2.2.2.2 (k - 1) x y ny HXy.out;rw[hless] at h3;cases h3
           ·obtain⟨Gk,HW,k4⟩:=BF;obtain⟨x0,x1,x2,x3,x4⟩:=fK;have x5:=fun q:Wd wr=>(q.cell hb).trans c5;obtain⟨yw,hne0⟩:=fR;have HC0:=aa (fun q:Wd wr=>(gE x.n x.c x.z va vl vc x.zs x.d x.p q.w HZx0.out HZx2.out HZx4.out (HTx.below q.b)).mono (fun _ _ h=>ar.yes h HOK.out));go_wp2_with fail;refine ag aq aq ?_;repeat (go_big_quiet_step (first|(go_at_call 143;exact Calls.wide (HC0.out _))|fail))
            refine wpQuiet_nil ?_;rintro _ ⟨q,rfl⟩;obtain⟨HB1,Ck⟩:=dh;clear hne0 HW HB HC0 k4 x0 x1 x2 x3 x4 x5 yw Gk Bk c0 c1 c2 c3 c4 c5 pk y0;exact oh
          ·obtain rfl:l5=k:=af
           have HR5:Hid (ed qO Pd.n c.ps 8):=⟨by omega,fun j z hz=>HQ.out j z c_ hz,fun j z u hz hu=>HO.out j z u c_ hz hu⟩;clear HQ HO;go_wp2;go_ret;exact ar.t ⟨HR1.out,HR2.out,HR3.out,HR4.out,HR5.out⟩ HB.out

def Bl (c:Cl) (t:ByteArray):Prop:=∃(i:Nat) (k:Kd),c.ks[i]?=some k/\k.n=t
def SV (c:Cl) (v:Vd):Prop:=Bl c v.k/\(v.m=⟨#[]⟩\/∃(i:Nat) (x:Xd),c.xs[i]?=some x/\x.n=v.m/\x.v=v.n)
def SX (c:Cl) (x:Xd):Prop:=Bl c x.k/\(x.v=⟨#[]⟩\/∃(j:Nat) (v:Vd),c.vs[j]?=some v/\v.n=x.v/\v.m=x.n/\x.z<=v.c/\v.k=x.k/\v.x=x.x)
def rT (c:Cl):Prop:=(∀(j:Nat) z,c.vs[j]?=some z->SV c z)/\(∀(j:Nat) z,c.xs[j]?=some z->SX c z)

theorem pC (d:Ad) (c:Cl) (w:World) (hr:aJ w d c.raw) (hks:aP Kd.n c.ks) (hxs:aP Xd.n c.xs) (hvs:aP Vd.n c.vs):
  Calls Tryz.prog 111 #[.agg #[.slice d.a1 d.l1 d.c1,.slice d.a2 d.l2 d.c2,.slice d.a3 d.l3 d.c3,.slice d.a4 d.l4 d.c4,.slice d.a5 d.l5 d.c5,.int .i64 c.now]] w (ar (rT c) w):=by
 obtain⟨a1,l1,y1,a2,l2,y2,a3,l3,y3,a4,l4,y4,a5,l5,y5⟩:=d;dsimp only;obtain⟨HR,hl1,hm1,hl2,hm2,hl3,hm3,hl4,hm4,hl5,hm5⟩:=pM;clear hr;have HKS:=aa hks;have HXS:=aa hxs;have HVS:=aa hvs;clear hks hxs hvs;go_enter Tryz.func111,Tryz.ntmps111;go_wp2;go_loopw [3] (fun i wr=> ∃k:Nat,k<=l3/\i=.int .i64 k/\Hid (∀(j:Nat) z,j<k->c.vs[j]?=some z->SV c z)/\Hid (Below w.heap.size w wr)/\Hid (wr.heap[w.heap.size]?=some (.cells (clo6 a1 l1 y1 a2 l2 y2 a3 l3 y3 a4 l4 y4 a5 l5 y5 c.now) 36 (0,0)))) (fun i _=>l3 - (intOf i).toNat);case atStart=>exact⟨0,by omega,rfl,fun _ _ h=>absurd h af,al _ _,FD⟩
 case round=>
  obtain⟨k,hk,rfl,HQ,HB,Bk⟩:=hrel;have pk:=ck2 Bk;by_cases hlt:k<l3
  ·obtain⟨b,o,v,rfl,hb,hx,hat⟩:=bN (HR.v.below HB.out) hlt;obtain⟨va,vl,vc,hvr,z0,z2,z3,z5,c0,c1,c2,c3,c4,c5,c6,c7⟩:=aK hat;have HXv:=aa hx;have HTv:=aa hvr;have HZv0:=aa z0;have HZv2:=aa z2;have HZv3:=aa z3;have HZv5:=aa z5;clear hat hx z0 z2 z3 z5 hvr;obtain⟨k0,k1,k2,k3,k4,k5⟩:=cs6 Bk;have ltk_0:=ae Bk.out;go_wp2_with fail;refine (gA ⟨a1,l1,y1,a2,l2,y2,(some ⟨b,o,none⟩),l3,y3,a4,l4,y4,a5,l5,y5⟩ c.now c.xs v.m _ (HR.x.below (HB.trans ((al _ _).mono HB.size)))).mono ?_;rintro e w1 ⟨hb2,hf⟩;clear k0 k1 k2 k3 k4 k5 ltk_0;obtain⟨HA0,hbx⟩:=aL hb2;replace Bk:=upK Bk hbx;have Br:=aa HA0;replace HB:=upB HB hbx;clear hb2 hbx HA0;clear pk hb c0 c1 c2 c3 c4 c5 c6 c7;by_cases hkh:Bl c v.k;rotate_left
   ·have HKH:=aa hkh;clear hkh;obtain⟨r,hre⟩:∃r:Int,e=.returned (.int .i64 r):=by rcases hf with ⟨j,y,_,_,h⟩|⟨_,h⟩ <;> exact⟨_,h⟩
    subst hre;clear hf;obtain⟨Gk,Gr,HW⟩:=bO;obtain⟨k0,k1,k2,k3,k4,k5⟩:=sl6 Gk;obtain⟨r0,r1,r2,r3,r4,r5,r6,r7⟩:=sl8 Gr;have hne0:=Wd.ne w1;have HC0:=aa (fun q:Wd w1=>kQ ⟨a1,l1,y1,a2,l2,y2,(some ⟨b,o,none⟩),l3,y3,a4,l4,y4,a5,l5,y5⟩ c.now c.ks v.k q.w (HR.k.below (HW.trans (q.b.mono HW.size))) (fun j y h1 h2=>HKH.out ⟨j,y,h1,h2⟩));go_wp2_with fail;refine ag aq aq ?_;repeat (go_big_quiet_step (first|(go_at_call 104;exact Calls.wide (HC0.out _))|fail))
    refine wpQuiet_nil ?_;rintro _ ⟨q1,rfl⟩;have HB2:=upB HW q1.b;obtain⟨Ck,Cr⟩:=fP;clear hne0 HW HB HC0 k0 k1 k2 k3 k4 k5 r0 r1 r2 r3 r4 r5 r6 r7 Gk Gr Bk Br;have HB:=HB2;clear HB2;have Bk:=Ck;clear Ck;have Br:=Cr;clear Cr;go_wp2;go_ret;exact ar.f (fun h=>HKH.out (h.1 k v HXv.out).1) HB.out
   obtain⟨i2,kd2,g1,g2⟩:=hkh;have HG1:=aa g1;have HG2:=aa g2;have hi20:¬((i2:Int)<0):=af
   have hi21:decide ((i2:Int)<0)=false:=aS
   clear g1 g2;by_cases he:v.m=⟨#[]⟩
   ·have hq:=cV he;have HEm:=aa he;clear he;obtain⟨r,hre⟩:∃r:Int,e=.returned (.int .i64 r):=by rcases hf with ⟨j,y,_,_,h⟩|⟨_,h⟩ <;> exact⟨_,h⟩
    subst hre;clear hf;obtain⟨Gk,Gr,HW⟩:=bO;obtain⟨k0,k1,k2,k3,k4,k5⟩:=sl6 Gk;obtain⟨r0,r1,r2,r3,r4,r5,r6,r7⟩:=sl8 Gr;obtain⟨hne0,HC0⟩:=BM;go_wp2_with fail;refine ag aq aq ?_;repeat (go_big_quiet_step (first|(go_at_call 104;exact Calls.wide (HC0.out _))|fail))
    refine wpQuiet_nil ?_;rintro _ ⟨q1,rfl⟩;have HB2:=upB HW q1.b;obtain⟨Ck,Cr⟩:=fP;clear hne0 HW HB HC0 k0 k1 k2 k3 k4 k5 r0 r1 r2 r3 r4 r5 r6 r7 Gk Gr Bk Br;have HB:=HB2;clear HB2;have Bk:=Ck;clear Ck;have Br:=Cr;clear Cr;go_wp2_with fail;refine⟨⟨k+1,by omega,by go_num,fun j z hj hz=>?_,HB.out,Bk.out⟩,by simp[intOf];omega⟩;by_cases e:j=k
    ·subst e;rw[HXv.out] at hz;obtain rfl:=Fq hz;exact⟨⟨i2,kd2,HG1.out,HG2.out⟩,.inl HEm.out⟩
    ·exact HQ.out j z af hz
   have hq:=bc he;have HEm:=aa he;clear he;rcases hf with ⟨j4,y,h1,h2,rfl⟩|⟨hh,rfl⟩;rotate_left
   ·have HH:=aa hh;clear hh;obtain⟨Gk,Gr,HW⟩:=bO;obtain⟨k0,k1,k2,k3,k4,k5⟩:=sl6 Gk;obtain⟨r0,r1,r2,r3,r4,r5,r6,r7⟩:=sl8 Gr;obtain⟨hne0,HC0⟩:=BM;go_wp2_with fail;refine ag aq aq ?_;repeat (go_big_quiet_step (first|(go_at_call 104;exact Calls.wide (HC0.out _))|fail))
    refine wpQuiet_nil ?_;rintro _ ⟨q1,rfl⟩;have HB2:=upB HW q1.b;obtain⟨Ck,Cr⟩:=fP;clear hne0 HW HB HC0 k0 k1 k2 k3 k4 k5 r0 r1 r2 r3 r4 r5 r6 r7 Gk Gr Bk Br;have HB:=HB2;clear HB2;have Bk:=Ck;clear Ck;have Br:=Cr;clear Cr;go_wp2;go_ret;refine ar.f (fun h=>?_) HB.out;rcases (h.1 k v HXv.out).2 with h2|⟨i,y,h2,h3,_⟩
    ·exact HEm.out h2
    ·exact HH.out i y h2 h3
   have hl4':j4<l4:=by have h3:=(Fm.1 h1).1;omega
   obtain⟨b4,o4,y',rfl,hb4,hy',hat⟩:=dF HR.x hl4';rw[h1] at hy';obtain rfl:=Fq hy';obtain⟨z0,z2,z4,c0,c1,c2,c3,c4⟩:=bw hat;have HJ:=aa h1;have HN:=aa h2;have hcv:=(ak HB.out hb4).trans c4;have hbv:=FE hb4 HB.size;have hj0:¬((j4:Int)<0):=af
   have hj1:decide ((j4:Int)<0)=false:=aS
   clear hy' hat z0 z2 z4 c0 c1 c2 c3 c4 h1 h2;by_cases hvn:y.v=v.n
   ·have hq2:=a9 hvn;have HVN:=aa hvn;clear hvn;obtain⟨Gk,Gr,HW⟩:=bO;obtain⟨k0,k1,k2,k3,k4,k5⟩:=sl6 Gk;obtain⟨r0,r1,r2,r3,r4,r5,r6,r7⟩:=sl8 Gr;obtain⟨yw,hne0,HC0⟩:=BZ;go_wp2_with fail;refine ag aq aq ?_;repeat (go_big_quiet_step (first|(go_at_call 104;exact Calls.wide (HC0.out _))|fail))
    refine wpQuiet_nil ?_;rintro _ ⟨q1,rfl⟩;have HB2:=upB HW q1.b;obtain⟨Ck,Cr⟩:=fP;clear hne0 HW HB HC0 k0 k1 k2 k3 k4 k5 r0 r1 r2 r3 r4 r5 r6 r7 yw Gk Gr Bk Br hcv hbv;have HB:=HB2;clear HB2;have Bk:=Ck;clear Ck;have Br:=Cr;clear Cr;go_wp2_with fail;refine⟨⟨k+1,by omega,by go_num,fun j z hj hz=>?_,HB.out,Bk.out⟩,by simp[intOf];omega⟩;by_cases e:j=k
    ·subst e;rw[HXv.out] at hz;obtain rfl:=Fq hz;exact⟨⟨i2,kd2,HG1.out,HG2.out⟩,.inr ⟨j4,y,HJ.out,HN.out,HVN.out⟩⟩
    ·exact HQ.out j z af hz
   ·have hq2:=bC hvn;have HVN:=aa hvn;clear hvn;obtain⟨Gk,Gr,HW⟩:=bO;obtain⟨k0,k1,k2,k3,k4,k5⟩:=sl6 Gk;obtain⟨r0,r1,r2,r3,r4,r5,r6,r7⟩:=sl8 Gr;obtain⟨yw,hne0,HC0⟩:=BZ;go_wp2_with fail;refine ag aq aq ?_;repeat (go_big_quiet_step (first|(go_at_call 104;exact Calls.wide (HC0.out _))|fail))
    refine wpQuiet_nil ?_;rintro _ ⟨q1,rfl⟩;have HB2:=upB HW q1.b;obtain⟨Ck,Cr⟩:=fP;clear hne0 HW HB HC0 k0 k1 k2 k3 k4 k5 r0 r1 r2 r3 r4 r5 r6 r7 yw Gk Gr Bk Br hcv hbv;have HB:=HB2;clear HB2;have Bk:=Ck;clear Ck;have Br:=Cr;clear Cr;go_wp2;go_ret;refine ar.f (fun h=>?_) HB.out;rcases (h.1 k v HXv.out).2 with h2|⟨i,y2,h2,h3,h4⟩
    ·exact HEm.out h2
    ·obtain⟨_,rfl⟩:=HXS.inj h2 HJ.out (h3.trans HN.symm);exact HVN.out h4
  ·obtain rfl:l3=k:=af
   have HQ1:Hid (∀(j:Nat) z,c.vs[j]?=some z->SV c z):=fun j z hz=>HQ.out j z c_ hz;clear HQ;have kc:=ck3 Bk;go_wp2;go_loopw [6] (fun i wr=> ∃k:Nat,k<=l4/\i=.int .i64 k/\Hid (∀(j:Nat) z,j<k->c.xs[j]?=some z->SX c z)/\Hid (Below w.heap.size w wr)/\Hid (wr.heap[w.heap.size]?=some (.cells (clo6 a1 l1 y1 a2 l2 y2 a3 l3 y3 a4 l4 y4 a5 l5 y5 c.now) 36 (0,0)))) (fun i _=>l4 - (intOf i).toNat);case atStart=>exact⟨0,by omega,rfl,fun _ _ h=>absurd h af,HB.out,Bk.out⟩
   case round=>
    obtain⟨k,hk,rfl,HQ,HB,Bk⟩:=hrel;have pk:=ck3 Bk;by_cases hlt:k<l4
    ·obtain⟨b,o,x,rfl,hb,hx,hat⟩:=dF (HR.x.below HB.out) hlt;obtain⟨z0,z2,z4,c0,c1,c2,c3,c4⟩:=bw hat;have HXx:=aa hx;have HZx0:=aa z0;have HZx2:=aa z2;have HZx4:=aa z4;clear hat hx z0 z2 z4;obtain⟨k0,k1,k2,k3,k4,k5⟩:=cs6 Bk;have ltk_0:=ae Bk.out;go_wp2_with fail;refine (jD ⟨a1,l1,y1,a2,l2,y2,a3,l3,y3,(some ⟨b,o,none⟩),l4,y4,a5,l5,y5⟩ c.now c.vs x.v _ (HR.v.below (HB.trans ((al _ _).mono HB.size)))).mono ?_;rintro e w1 ⟨hb2,hf⟩;clear k0 k1 k2 k3 k4 k5 ltk_0;obtain⟨HA0,hbx⟩:=aL hb2;replace Bk:=upK Bk hbx;have Br:=aa HA0;replace HB:=upB HB hbx;clear hb2 hbx HA0;clear pk hb c0 c1 c2 c3 c4;by_cases hkh:Bl c x.k;rotate_left
     ·have HKH:=aa hkh;clear hkh;obtain⟨r,hre⟩:∃r:Int,e=.returned (.int .i64 r):=by rcases hf with ⟨j,y,_,_,h⟩|⟨_,h⟩ <;> exact⟨_,h⟩
      subst hre;clear hf;obtain⟨k0,k1,k2,k3,k4,k5⟩:=cs6 Bk;have ltk_1:=ae Bk.out;obtain⟨r0,r1,r2,r3,r4⟩:=cs5 Br;have ltr_1:=ae Br.out;go_wp2_with fail;refine (kQ ⟨a1,l1,y1,a2,l2,y2,a3,l3,y3,(some ⟨b,o,none⟩),l4,y4,a5,l5,y5⟩ c.now c.ks x.k _ (HR.k.below HB.out) (fun j y h1 h2=>HKH.out ⟨j,y,h1,h2⟩)).mono ?_;rintro e w2 ⟨rfl,hb3⟩;clear k0 k1 k2 k3 k4 k5 ltk_1 r0 r1 r2 r3 r4 ltr_1;replace Bk:=upK Bk hb3;replace Br:=upK Br hb3;replace HB:=upB HB hb3;clear hb3;go_wp2;go_ret;exact ar.f (fun h=>HKH.out (h.2 k x HXx.out).1) HB.out
     obtain⟨i2,kd2,g1,g2⟩:=hkh;have HG1:=aa g1;have HG2:=aa g2;have hi20:¬((i2:Int)<0):=af
     have hi21:decide ((i2:Int)<0)=false:=aS
     clear g1 g2;by_cases he:x.v=⟨#[]⟩
     ·have hq:=cV he;have HEm:=aa he;clear he;obtain⟨r,hre⟩:∃r:Int,e=.returned (.int .i64 r):=by rcases hf with ⟨j,y,_,_,h⟩|⟨_,h⟩ <;> exact⟨_,h⟩
      subst hre;clear hf;obtain⟨k0,k1,k2,k3,k4,k5⟩:=cs6 Bk;have ltk_1:=ae Bk.out;obtain⟨r0,r1,r2,r3,r4⟩:=cs5 Br;have ltr_1:=ae Br.out;go_wp2_with fail;refine (dY ⟨a1,l1,y1,a2,l2,y2,a3,l3,y3,(some ⟨b,o,none⟩),l4,y4,a5,l5,y5⟩ c.now c.ks x.k _ (HR.k.below HB.out) HKS.out HG1.out HG2.out).mono ?_;rintro e w2 ⟨rfl,hb3⟩;clear k0 k1 k2 k3 k4 k5 ltk_1 r0 r1 r2 r3 r4 ltr_1;replace Bk:=upK Bk hb3;replace Br:=upK Br hb3;replace HB:=upB HB hb3;clear hb3;obtain⟨k0,k1,k2,k3,k4,k5⟩:=cs6 Bk;have ltk_2:=ae Bk.out;obtain⟨r0,r1,r2,r3,r4⟩:=cs5 Br;have ltr_2:=ae Br.out;go_wp2_with fail;refine⟨⟨k+1,by omega,by go_num,fun j z hj hz=>?_,HB.out,Bk.out⟩,by simp[intOf];omega⟩;by_cases e:j=k
      ·subst e;rw[HXx.out] at hz;obtain rfl:=Fq hz;exact⟨⟨i2,kd2,HG1.out,HG2.out⟩,.inl HEm.out⟩
      ·exact HQ.out j z af hz
     have hq:=bc he;have HEm:=aa he;clear he;rcases hf with ⟨j3,y,h1,h2,rfl⟩|⟨hh,rfl⟩;rotate_left
     ·have HH:=aa hh;clear hh;obtain⟨k0,k1,k2,k3,k4,k5⟩:=cs6 Bk;have ltk_1:=ae Bk.out;obtain⟨r0,r1,r2,r3,r4⟩:=cs5 Br;have ltr_1:=ae Br.out;go_wp2_with fail;refine (dY ⟨a1,l1,y1,a2,l2,y2,a3,l3,y3,(some ⟨b,o,none⟩),l4,y4,a5,l5,y5⟩ c.now c.ks x.k _ (HR.k.below HB.out) HKS.out HG1.out HG2.out).mono ?_;rintro e w2 ⟨rfl,hb3⟩;clear k0 k1 k2 k3 k4 k5 ltk_1 r0 r1 r2 r3 r4 ltr_1;replace Bk:=upK Bk hb3;replace Br:=upK Br hb3;replace HB:=upB HB hb3;clear hb3;have pr:=ck4 Br;obtain⟨Gk,Gr,HW⟩:=bO;have k2:=fun q:Wd w2=>q.slot (o:=2) Gk.out rfl;obtain⟨r0,r1,r2,r3,r4⟩:=sl5 Gr;have hne0:=Wd.ne w2;go_wp2_with fail;refine ag aq aq ?_;repeat (go_big_quiet_step (first|fail))
      refine wpQuiet_nil ?_;rintro _ ⟨q1,rfl⟩;have HB3:=upB HW q1.b;obtain⟨Ck,Cr⟩:=fP;clear hne0 HW HB k2 r0 r1 r2 r3 r4 Gk Gr Bk Br pr;have HB:=HB3;clear HB3;have Bk:=Ck;clear Ck;have Br:=Cr;clear Cr;go_wp2;go_ret;refine ar.f (fun h=>?_) HB.out;rcases (h.2 k x HXx.out).2 with h2|⟨i,y,h2,h3,_⟩
      ·exact HEm.out h2
      ·exact HH.out i y h2 h3
     have hl3':j3<l3:=by have h3:=(Fm.1 h1).1;omega
     obtain⟨b3,o3,y',rfl,hb3,hy',hat⟩:=bN HR.v hl3';rw[h1] at hy';obtain rfl:=Fq hy';obtain⟨va,vl,vc,hvr,z0,z2,z3,z5,c0,c1,c2,c3,c4,c5,c6,c7⟩:=aK hat;have HJ:=aa h1;have HN:=aa h2;have hj0:¬((j3:Int)<0):=af
     have hj1:decide ((j3:Int)<0)=false:=aS
     have HC1:=aa c1;have HC3:=aa c3;have HC4:=aa c4;have HC5:=aa c5;have HB3:=aa hb3;clear hy' hat hvr z0 z2 z3 z5 c0 c1 c2 c3 c4 c5 c6 c7 h1 h2 hb3;obtain⟨k0,k1,k2,k3,k4,k5⟩:=cs6 Bk;have ltk_1:=ae Bk.out;obtain⟨r0,r1,r2,r3,r4⟩:=cs5 Br;have ltr_1:=ae Br.out;go_wp2_with fail;refine (dY ⟨a1,l1,y1,a2,l2,y2,(some ⟨b3,o3,none⟩),l3,y3,(some ⟨b,o,none⟩),l4,y4,a5,l5,y5⟩ c.now c.ks x.k _ (HR.k.below HB.out) HKS.out HG1.out HG2.out).mono ?_;rintro e w2 ⟨rfl,hb3⟩;clear k0 k1 k2 k3 k4 k5 ltk_1 r0 r1 r2 r3 r4 ltr_1;replace Bk:=upK Bk hb3;replace Br:=upK Br hb3;replace HB:=upB HB hb3;clear hb3;have pr:=ck4 Br;have hbv:=FE HB3.out HB.size;have v1:=(ak HB.out HB3.out).trans HC1.out;have v3:=(ak HB.out HB3.out).trans HC3.out;have v4:=(ak HB.out HB3.out).trans HC4.out;have v5:=(ak HB.out HB3.out).trans HC5.out;clear HC1 HC3 HC4 HC5 HB3;by_cases hno:y.m=x.n;rotate_left
     ·have HNo:=aa hno;clear hno;have n1:=bC HNo.out;obtain⟨Gk,Gr,HW⟩:=bO;have k2:=fun q:Wd w2=>q.slot (o:=2) Gk.out rfl;obtain⟨r0,r1,r2,r3,r4⟩:=sl5 Gr;obtain⟨v1w,v3w,v4w,v5w,hne0⟩:=nM;go_wp2_with fail;refine ag aq aq ?_;repeat (go_big_quiet_step (first|fail))
      refine wpQuiet_nil ?_;rintro _ ⟨q1,rfl⟩;have HB3:=upB HW q1.b;obtain⟨Ck,Cr⟩:=fP;clear hne0 HW HB k2 r0 r1 r2 r3 r4 v1w v3w v4w v5w Gk Gr Bk Br pr v1 v3 v4 v5 hbv;have HB:=HB3;clear HB3;have Bk:=Ck;clear Ck;have Br:=Cr;clear Cr;go_wp2;go_ret;refine ar.f (fun h=>?_) HB.out;rcases (h.2 k x HXx.out).2 with h2|⟨i,y2,h2,h3,h4⟩
      ·exact HEm.out h2
      ·obtain⟨_,rfl⟩:=HVS.inj h2 HJ.out (h3.trans HN.symm);exact HNo.out h4.1
     have HY1:=aa hno;have q1:=a9 hno;clear hno;by_cases hno:x.z<=y.c;rotate_left
     ·have HNo:=aa hno;clear hno;have n1:y.c<x.z:=by have:=HNo.out;omega
      obtain⟨Gk,Gr,HW⟩:=bO;have k2:=fun q:Wd w2=>q.slot (o:=2) Gk.out rfl;obtain⟨r0,r1,r2,r3,r4⟩:=sl5 Gr;obtain⟨v1w,v3w,v4w,v5w,hne0⟩:=nM;go_wp2_with fail;refine ag aq aq ?_;repeat (go_big_quiet_step (first|fail))
      refine wpQuiet_nil ?_;rintro _ ⟨q1,rfl⟩;have HB3:=upB HW q1.b;obtain⟨Ck,Cr⟩:=fP;clear hne0 HW HB k2 r0 r1 r2 r3 r4 v1w v3w v4w v5w Gk Gr Bk Br pr v1 v3 v4 v5 hbv;have HB:=HB3;clear HB3;have Bk:=Ck;clear Ck;have Br:=Cr;clear Cr;go_wp2;go_ret;refine ar.f (fun h=>?_) HB.out;rcases (h.2 k x HXx.out).2 with h2|⟨i,y2,h2,h3,h4⟩
      ·exact HEm.out h2
      ·obtain⟨_,rfl⟩:=HVS.inj h2 HJ.out (h3.trans HN.symm);have h5:=h4.2.1;have h6:=HNo.out;omega
     have HY2:=aa hno;have q2:decide (y.c<x.z)=false:=by simp;omega
     clear hno;by_cases hno:y.k=x.k;rotate_left
     ·have HNo:=aa hno;clear hno;have n1:=bC HNo.out;obtain⟨Gk,Gr,HW⟩:=bO;have k2:=fun q:Wd w2=>q.slot (o:=2) Gk.out rfl;obtain⟨r0,r1,r2,r3,r4⟩:=sl5 Gr;obtain⟨v1w,v3w,v4w,v5w,hne0⟩:=nM;go_wp2_with fail;refine ag aq aq ?_;repeat (go_big_quiet_step (first|fail))
      refine wpQuiet_nil ?_;rintro _ ⟨q1,rfl⟩;have HB3:=upB HW q1.b;obtain⟨Ck,Cr⟩:=fP;clear hne0 HW HB k2 r0 r1 r2 r3 r4 v1w v3w v4w v5w Gk Gr Bk Br pr v1 v3 v4 v5 hbv;have HB:=HB3;clear HB3;have Bk:=Ck;clear Ck;have Br:=Cr;clear Cr;go_wp2;go_ret;refine ar.f (fun h=>?_) HB.out;rcases (h.2 k x HXx.out).2 with h2|⟨i,y2,h2,h3,h4⟩
      ·exact HEm.out h2
      ·obtain⟨_,rfl⟩:=HVS.inj h2 HJ.out (h3.trans HN.symm);exact HNo.out h4.2.2.1
     have HY3:=aa hno;have q3:=a9 hno;clear hno;by_cases hno:y.x=x.x;rotate_left
     ·have HNo:=aa hno;clear hno;have n1:(y.x==x.x)=false:=by simpa using HNo.out
      obtain⟨Gk,Gr,HW⟩:=bO;have k2:=fun q:Wd w2=>q.slot (o:=2) Gk.out rfl;obtain⟨r0,r1,r2,r3,r4⟩:=sl5 Gr;obtain⟨v1w,v3w,v4w,v5w,hne0⟩:=nM;go_wp2_with fail;refine ag aq aq ?_;repeat (go_big_quiet_step (first|fail))
      refine wpQuiet_nil ?_;rintro _ ⟨q1,rfl⟩;have HB3:=upB HW q1.b;obtain⟨Ck,Cr⟩:=fP;clear hne0 HW HB k2 r0 r1 r2 r3 r4 v1w v3w v4w v5w Gk Gr Bk Br pr v1 v3 v4 v5 hbv;have HB:=HB3;clear HB3;have Bk:=Ck;clear Ck;have Br:=Cr;clear Cr;go_wp2;go_ret;refine ar.f (fun h=>?_) HB.out;rcases (h.2 k x HXx.out).2 with h2|⟨i,y2,h2,h3,h4⟩
      ·exact HEm.out h2
      ·obtain⟨_,rfl⟩:=HVS.inj h2 HJ.out (h3.trans HN.symm);exact HNo.out h4.2.2.2
     have HY4:=aa hno;have q4:(y.x==x.x)=true:=by simpa using hno
     clear hno;obtain⟨Gk,Gr,HW⟩:=bO;have k2:=fun q:Wd w2=>q.slot (o:=2) Gk.out rfl;obtain⟨r0,r1,r2,r3,r4⟩:=sl5 Gr;obtain⟨v1w,v3w,v4w,v5w,hne0⟩:=nM;go_wp2_with fail;refine ag aq aq ?_;repeat (go_big_quiet_step (first|fail))
     refine wpQuiet_nil ?_;rintro _ ⟨qz,rfl⟩;have HB3:=upB HW qz.b;have Ck:=upK Gk qz.b;have Cr:=upK Gr qz.b;clear hne0 HW HB k2 r0 r1 r2 r3 r4 v1w v3w v4w v5w Gk Gr Bk Br pr v1 v3 v4 v5 hbv;have HB:=HB3;clear HB3;have Bk:=Ck;clear Ck;have Br:=Cr;clear Cr;clear q1 q2 q3 q4;go_wp2_with fail;refine⟨⟨k+1,by omega,by go_num,fun j z hj hz=>?_,HB.out,Bk.out⟩,by simp[intOf];omega⟩;by_cases e:j=k
     ·subst e;rw[HXx.out] at hz;obtain rfl:=Fq hz;exact⟨⟨i2,kd2,HG1.out,HG2.out⟩,.inr ⟨j3,y,HJ.out,HN.out,HY1.out,HY2.out,HY3.out,HY4.out⟩⟩
     ·exact HQ.out j z af hz
    ·obtain rfl:l4=k:=af
     have HQ2:Hid (∀(j:Nat) z,c.xs[j]?=some z->SX c z):=fun j z hz=>HQ.out j z c_ hz;exact me

def PSa (c:Cl) (p:Pd):Prop:=p.d=⟨#[]⟩\/∃(i:Nat) (n:Nd),c.ns[i]?=some n/\n.n=p.d/\(p.z=⟨#[]⟩\/n.z=p.z)
def D1 (c:Cl) (p:Pd) (t:ByteArray):Prop:=(∃(i:Nat) (x:Xd),c.xs[i]?=some x/\x.n=t)/\(p.d=⟨#[]⟩\/∃(v:Vd) (i:Nat) (n:Nd),bJ c t v/\c.ns[i]?=some n/\n.n=p.d/\v.z=n.z)
def PSb (c:Cl) (p:Pd):Prop:=∀(j:Nat) t,p.zs[j]?=some t->D1 c p t
def PSc (c:Cl) (k:Nat) (p:Pd):Prop:=∀(j:Nat) q,j<k->c.ps[j]?=some q->lJ c q p
def PS (c:Cl) (k:Nat) (p:Pd):Prop:=PSa c p/\PSb c p/\PSc c k p
def mG (c:Cl):Prop:=(∀(k:Nat) p,c.ps[k]?=some p->PS c k p)/\∀(j:Nat) n,c.ns[j]?=some n->cpuOf n.n c.ps<=n.c

theorem mZ (d:Ad) (c:Cl) (w:World) (hr:aJ w d c.raw) (hn:aP Nd.n c.ns) (hx:aP Xd.n c.xs) (hv:aP Vd.n c.vs) (hne:∀(j:Nat) v,c.vs[j]?=some v->¬v.n=⟨#[]⟩) (hps8:c.ps.length<=8) (hpc:∀(j:Nat) p,c.ps[j]?=some p->0<=p.c/\p.c<=1000000):
  Calls Tryz.prog 112 #[.agg #[.slice d.a1 d.l1 d.c1,.slice d.a2 d.l2 d.c2,.slice d.a3 d.l3 d.c3,.slice d.a4 d.l4 d.c4,.slice d.a5 d.l5 d.c5,.int .i64 c.now]] w (ar (mG c) w):=by
 obtain⟨a1,l1,y1,a2,l2,y2,a3,l3,y3,a4,l4,y4,a5,l5,y5⟩:=d;dsimp only;obtain⟨HR,hl1,hm1,hl3⟩:=nO;obtain⟨hl5,hm5⟩:=jN;clear hr;have HNR:=aa hn;obtain⟨HX,HV,HNE⟩:=iT;have HL5:=aa hps8;have HPC:=aa hpc;clear hn hx hv hne hps8 hpc;go_enter Tryz.func112,Tryz.ntmps112;go_wp2;go_loopw [3] (fun i wr=> ∃k:Nat,k<=l5/\i=.int .i64 k/\Hid (∀(j:Nat) z,j<k->c.ps[j]?=some z->PS c j z)/\Hid (Below w.heap.size w wr)/\Hid (wr.heap[w.heap.size]?=some (.cells (clo6 a1 l1 y1 a2 l2 y2 a3 l3 y3 a4 l4 y4 a5 l5 y5 c.now) 36 (0,0)))) (fun i _=>l5 - (intOf i).toNat);case atStart=>exact⟨0,by omega,rfl,fun _ _ h=>absurd h af,al _ _,FD⟩
 case round=>
  obtain⟨k,hk,rfl,HQ,HB,Bk⟩:=hrel;have pk:=ck4 Bk;by_cases hlt:k<l5
  ·obtain⟨b,o,p,rfl,hb,hx,hat⟩:=bY (HR.p.below HB.out) hlt;obtain⟨va,vl,vc,hvr,z0,z2,z4,c0,c1,c2,c3,c4,c5⟩:=aT hat;have HXp:=aa hx;have HTp:=aa hvr;clear hat hx z0 z2 z4 hvr;have hvl:=HTp.1;have hvc:=FA HTp.2.1 HTp.2.2.1;have HVL:=aa hvl;clear hvl;obtain⟨k0,k1,k2,k3,k4,k5⟩:=cs6 Bk;have ltk_0:=ae Bk.out;go_wp2_with fail;refine (jF ⟨a1,l1,y1,a2,l2,y2,a3,l3,y3,a4,l4,y4,(some ⟨b,o,none⟩),l5,y5⟩ c.now c.ns p.d _ (HR.n.below (HB.trans ((al _ _).mono HB.size)))).mono ?_;rintro e w1 ⟨hb2,hf⟩;clear k0 k1 k2 k3 k4 k5 ltk_0;obtain⟨HA0,hbx⟩:=aL hb2;replace Bk:=upK Bk hbx;have Br:=aa HA0;replace HTp:=aa (HTp.below hbx);replace HB:=upB HB hbx;clear hb2 hbx HA0;clear pk hb c0 c1 c2 c3 c4 c5;by_cases he:p.d=⟨#[]⟩
   ·have hq:=cV he;have HEm:=aa he;clear he;obtain⟨r5,hre⟩:∃r:Int,e=.returned (.int .i64 r):=by rcases hf with ⟨j,y,_,_,h⟩|⟨_,h⟩ <;> exact⟨_,h⟩
    subst hre;clear hf;obtain⟨Gk,Gr,HW⟩:=bO;have k0:=fun q:Wd w1=>q.slot (o:=0) Gk.out rfl;obtain⟨r0,r1,r2,r3,r4,r5⟩:=sl6 Gr;have hne0:=Wd.ne w1;go_wp2_with fail;refine ag aq aq ?_;repeat (go_big_quiet_step (first|fail))
    refine wpQuiet_nil ?_;rintro _ ⟨q0,rfl⟩;obtain⟨HB2,Ck,Cr,CHTp⟩:=nH;clear hne0 HW HB k0 r0 r1 r2 r3 r4 r5 Gk Gr Bk Br HTp;have HB:=HB2;clear HB2;have HTp:=CHTp;clear CHTp;have Bk:=Ck;clear Ck;have Br:=Cr;clear Cr;have HPa:Hid (PSa c p):=.inl HEm.out;obtain⟨gb,hgb⟩:∃gb,gb=wr.heap.size:=⟨_,rfl⟩;rw[<-hgb] at Br;have pr3:=ck3 Br;rw[hgb] at pr3;go_wp2;rw[<-hgb];clear pr3 hgb;have KV:=Bk;have GV:=Br;have BV:=HB;have TV:=HTp;clear Bk Br HB HTp;obtain⟨W,hW⟩:∃W,W=q0.w:=⟨_,rfl⟩;rw[<-hW] at KV GV BV TV ⊢;clear hW;go_loopw [6] (fun i wr=> ∃kq:Nat,kq<=vl/\i=.int .i64 kq/\Hid (∀(j:Nat) t,j<kq->p.zs[j]?=some t->D1 c p t)/\Hid (Below W.heap.size W wr)) (fun i _=>vl - (intOf i).toNat);case atStart=>exact⟨0,by omega,rfl,fun _ _ h=>absurd h af,Fw _ _⟩
    case round=>
     obtain⟨kq,hkq,rfl,HQ2,HBW⟩:=hrel;obtain⟨HB,Bk⟩:=nG;have Br:=upK GV HBW.out;have pr3:=ck3 Br;by_cases hlt2:kq<vl
     ·obtain⟨b2,o2,t,rfl,hb,hxt,hc,hsz⟩:=(TV.below HBW.out).at hlt2;have HXt:=aa hxt;clear hxt hsz;have hcase:(∃v,bJ c t v)\/(∀v,¬bJ c t v):=by
       exact yG
      rcases hcase with ⟨v,hbd⟩|hbd
      ·obtain⟨j3,hj3⟩:=hbd.at;have hl3':j3<l3:=by have h1:=(Fm.1 hj3).1;omega
       obtain⟨b3,o3,v',rfl,hb3,hv',hat⟩:=bN HR.v hl3';rw[hj3] at hv';obtain rfl:=Fq hv';obtain⟨xa,xl,xc,hvr,z0,z2,z3,z5,d0,d1,d2,d3,d4,d5,d6,d7⟩:=aK hat;have HJ:=aa hj3;have HD:=aa hbd;have HC2:=aa d2;have HB3:=aa hb3;have hj31:decide ((j3:Int)<0)=false:=aS
       clear hv' hat hvr z0 z2 z3 z5 d0 d1 d2 d3 d4 d5 d6 d7 hj3 hbd hb3;obtain⟨Gk,Gr,HW⟩:=bO;obtain⟨k0,k1,k2,k3,k4,k5⟩:=sl6 Gk;have r3:=fun q:Wd wr=>q.slot (o:=3) Gr.out rfl;obtain⟨tw,hne0⟩:=iU;have HC0:=aa (fun q:Wd wr=>fA ⟨a1,l1,y1,a2,l2,y2,(some ⟨b3,o3,none⟩),l3,y3,a4,l4,y4,(some ⟨b,o,none⟩),l5,y5⟩ c t q.w (HR.below (HW.trans (q.b.mono HW.size))) HX.out HV.out HNE.out HJ.out HD.out);go_wp2_with fail;refine ag aq aq ?_;repeat (go_big_quiet_step (first|(go_at_call 102;exact Calls.wide (HC0.out _))|fail))
       refine wpQuiet_nil ?_;rintro _ ⟨q1,rfl⟩;obtain⟨HB1,Ck⟩:=cM;have Cr:=upK Gr q1.b;clear hne0 HW HB HC0 k0 k1 k2 k3 k4 k5 r3 tw Gk Gr Bk Br pr3;have HB:=HB1;clear HB1;have Bk:=Ck;clear Ck;have Br:=Cr;clear Cr;obtain⟨hc1,hb1,HBW1⟩:=sj;clear hc hb HBW;by_cases hg:∃(i:Nat) (x:Xd),c.xs[i]?=some x/\x.n=t;rotate_left
       ·have HG:=aa hg;clear hg;obtain⟨Gk,Gr,HW⟩:=bO;obtain⟨k0,k1,k2,k3,k4,k5⟩:=sl6 Gk;obtain⟨r0,r1,r2,r3,r4,r5⟩:=sl6 Gr;obtain⟨tw,hne0⟩:=jM;have HC0:=aa (fun q:Wd q1.w=>fw ⟨a1,l1,y1,a2,l2,y2,(some ⟨b3,o3,none⟩),l3,y3,a4,l4,y4,(some ⟨b,o,none⟩),l5,y5⟩ c.now c.xs t q.w (HR.x.below (HW.trans (q.b.mono HW.size))) (fun i x h1 h2=>HG.out ⟨i,x,h1,h2⟩));exact Ea
       obtain⟨i4,x4,g1,g2⟩:=hg;obtain⟨HG1,HG2,hi41⟩:=lV;clear g1 g2;obtain⟨Gk,Gr,HW⟩:=bO;obtain⟨k0,k1,k2,k3,k4,k5⟩:=sl6 Gk;obtain⟨r0,r1,r2,r3,r4,r5⟩:=sl6 Gr;obtain⟨tw,hne0⟩:=jM;have HC0:=aa (fun q:Wd q1.w=>e_ ⟨a1,l1,y1,a2,l2,y2,(some ⟨b3,o3,none⟩),l3,y3,a4,l4,y4,(some ⟨b,o,none⟩),l5,y5⟩ c.now c.xs t q.w (HR.x.below (HW.trans (q.b.mono HW.size))) HX.out HG1.out HG2.out);exact xC
      ·have HD:=aa hbd;clear hbd;obtain⟨Gk,Gr,HW⟩:=bO;obtain⟨k0,k1,k2,k3,k4,k5⟩:=sl6 Gk;have r3:=fun q:Wd wr=>q.slot (o:=3) Gr.out rfl;obtain⟨tw,hne0⟩:=iU;have HC0:=aa (fun q:Wd wr=>ga ⟨a1,l1,y1,a2,l2,y2,a3,l3,y3,a4,l4,y4,(some ⟨b,o,none⟩),l5,y5⟩ c t q.w (HR.below (HW.trans (q.b.mono HW.size))) HX.out HV.out HNE.out HD.out);go_wp2_with fail;refine ag aq aq ?_;repeat (go_big_quiet_step (first|(go_at_call 102;exact Calls.wide (HC0.out _))|fail))
       refine wpQuiet_nil ?_;rintro _ ⟨q1,rfl⟩;obtain⟨HB1,Ck⟩:=cM;have Cr:=upK Gr q1.b;clear hne0 HW HB HC0 k0 k1 k2 k3 k4 k5 r3 tw Gk Gr Bk Br pr3;have HB:=HB1;clear HB1;have Bk:=Ck;clear Ck;have Br:=Cr;clear Cr;obtain⟨hc1,hb1,HBW1⟩:=sj;clear hc hb HBW;by_cases hg:∃(i:Nat) (x:Xd),c.xs[i]?=some x/\x.n=t;rotate_left
       ·have HG:=aa hg;clear hg;obtain⟨Gk,Gr,HW⟩:=bO;obtain⟨k0,k1,k2,k3,k4,k5⟩:=sl6 Gk;obtain⟨r0,r1,r2,r3,r4,r5⟩:=sl6 Gr;obtain⟨tw,hne0⟩:=jM;have HC0:=aa (fun q:Wd q1.w=>fw ⟨a1,l1,y1,a2,l2,y2,a3,l3,y3,a4,l4,y4,(some ⟨b,o,none⟩),l5,y5⟩ c.now c.xs t q.w (HR.x.below (HW.trans (q.b.mono HW.size))) (fun i x h1 h2=>HG.out ⟨i,x,h1,h2⟩));exact Ea
       obtain⟨i4,x4,g1,g2⟩:=hg;obtain⟨HG1,HG2,hi41⟩:=lV;clear g1 g2;obtain⟨Gk,Gr,HW⟩:=bO;obtain⟨k0,k1,k2,k3,k4,k5⟩:=sl6 Gk;obtain⟨r0,r1,r2,r3,r4,r5⟩:=sl6 Gr;obtain⟨tw,hne0⟩:=jM;have HC0:=aa (fun q:Wd q1.w=>e_ ⟨a1,l1,y1,a2,l2,y2,a3,l3,y3,a4,l4,y4,(some ⟨b,o,none⟩),l5,y5⟩ c.now c.xs t q.w (HR.x.below (HW.trans (q.b.mono HW.size))) HX.out HG1.out HG2.out);exact xC
     ·obtain rfl:vl=kq:=af
      have HQb:Hid (PSb c p):=fun j t ht=>HQ2.out j t BB ht;clear HQ2;have TV2:=aa (TV.below HBW.out);have KV2:=Bk;have GV2:=Br;have BV2:=HB;clear KV GV BV TV Bk Br HB HBW;obtain⟨W2,hW⟩:∃W2,W2=wr:=⟨_,rfl⟩;rw[<-hW] at KV2 GV2 BV2 TV2;go_wp2;clear pr3;rw[<-hW];clear hW;go_loopw [8] (fun i wr=> ∃kz:Nat,kz<=k/\i=.int .i64 kz/\Hid (∀(j:Nat) q,j<kz->c.ps[j]?=some q->lJ c q p)/\Hid (Below W2.heap.size W2 wr)) (fun i _=>k - (intOf i).toNat);case atStart=>exact⟨0,by omega,rfl,fun _ _ h=>absurd h af,Fw _ _⟩
      case round=>
       obtain⟨kz,hkz,rfl,HQ3,HBW⟩:=hrel;have HB:=aa (BV2.trans (HBW.mono BV2.size));have Bk:=upK KV2 HBW.out;have Br:=upK GV2 HBW.out;have HTp:=aa (TV2.below HBW.out);by_cases hlt3:kz<k
       ·obtain⟨b',o',pq,e',hb',hqq,hatq⟩:=bY (HR.p.below HB.out) (show kz<l5 by omega);cases e';obtain⟨qa,ql,qc,hqr,z0,z2,z4,d0,d1,d2,d3,d4,d5⟩:=aT hatq;have HXq:=aa hqq;have HTq:=aa hqr;clear hatq hqq hqr z0 z2 z4;by_cases hpr:lJ c pq p
        ·have HPr:=aa hpr;clear hpr;obtain⟨Gk,Gr,HW⟩:=bO;obtain⟨k0,k1,k2,k3,k4,k5⟩:=sl6 Gk;obtain⟨r0,r1,r2,r3,r4,r5⟩:=sl6 Gr;obtain⟨q0,q1,q2,q3,q4,q5,hne0⟩:=Ar;have HC0:=aa (fun qw:Wd wr=>(fx ⟨a1,l1,y1,a2,l2,y2,a3,l3,y3,a4,l4,y4,(some ⟨b,o,none⟩),l5,y5⟩ c pq p qa ql qc va vl vc qw.w (HR.below (HW.trans (qw.b.mono HW.size))) HX.out HV.out HNE.out (HTq.below qw.b) (HTp.below qw.b)).mono (fun _ _ h=>ar.yes h HPr.out));exact xD
        ·have HPr:=aa hpr;clear hpr;obtain⟨Gk,Gr,HW⟩:=bO;obtain⟨k0,k1,k2,k3,k4,k5⟩:=sl6 Gk;obtain⟨r0,r1,r2,r3,r4,r5⟩:=sl6 Gr;obtain⟨q0,q1,q2,q3,q4,q5,hne0⟩:=Ar;have HC0:=aa (fun qw:Wd wr=>(fx ⟨a1,l1,y1,a2,l2,y2,a3,l3,y3,a4,l4,y4,(some ⟨b,o,none⟩),l5,y5⟩ c pq p qa ql qc va vl vc qw.w (HR.below (HW.trans (qw.b.mono HW.size))) HX.out HV.out HNE.out (HTq.below qw.b) (HTp.below qw.b)).mono (fun _ _ h=>ar.no h HPr.out));exact xB
       ·exact xy
   have hq:=bc he;have HEm:=aa he;clear he;rcases hf with ⟨j1,n,h1,h2,rfl⟩|⟨hh,rfl⟩;rotate_left
   ·have HH:=aa hh;clear hh;obtain⟨Gk,Gr,HW⟩:=bO;have k0:=fun q:Wd w1=>q.slot (o:=0) Gk.out rfl;obtain⟨r0,r1,r2,r3,r4,r5⟩:=sl6 Gr;have hne0:=Wd.ne w1;go_wp2_with fail;refine ag aq aq ?_;repeat (go_big_quiet_step (first|fail))
    refine wpQuiet_nil ?_;rintro _ ⟨q0,rfl⟩;obtain⟨HB2,Ck,Cr,CHTp⟩:=nH;clear hne0 HW HB k0 r0 r1 r2 r3 r4 r5 Gk Gr Bk Br HTp;have HB:=HB2;clear HB2;have HTp:=CHTp;clear CHTp;have Bk:=Ck;clear Ck;have Br:=Cr;clear Cr;go_wp2;go_ret;refine ar.f (fun h=>?_) HB.out;rcases (h.1 k p HXp.out).1 with h2|⟨i,n,h2,h3,_⟩
    ·exact HEm.out h2
    ·exact HH.out i n h2 h3
   have hl1':j1<l1:=by have h3:=(Fm.1 h1).1;omega
   obtain⟨b1,o1,n',rfl,hb1n,hn',hat⟩:=cB HR.n hl1';rw[h1] at hn';obtain rfl:=Fq hn';obtain⟨na,nl,nc,hnr,z0,z1,d0,d1,d2,d3,d4,d5,d6⟩:=aZ hat;have HJn:=aa h1;have HNn:=aa h2;have HCn:=aa d1;have HBn:=aa hb1n;have hj11:decide ((j1:Int)<0)=false:=aS
   have hbn:=FE hb1n HB.size;have n1:=(ak HB.out hb1n).trans d1;clear hn' hat hnr z0 z1 d0 d1 d2 d3 d4 d5 d6 h1 h2 hb1n;by_cases hz0:p.z=⟨#[]⟩
   ·have hq2:=cV hz0;have HPa:Hid (PSa c p):=.inr ⟨j1,n,HJn.out,HNn.out,.inl hz0⟩;clear hz0;obtain⟨Gk,Gr,HW⟩:=bO;have k0:=fun q:Wd w1=>q.slot (o:=0) Gk.out rfl;obtain⟨r0,r1,r2,r3,r4,r5⟩:=sl6 Gr;have nw:=fun q:Wd w1=>(q.cell hbn).trans n1;have hne0:=Wd.ne w1;go_wp2_with fail;refine ag aq aq ?_;repeat (go_big_quiet_step (first|fail))
    refine wpQuiet_nil ?_;rintro _ ⟨q0,rfl⟩;obtain⟨HB2,Ck,Cr,CHTp⟩:=nH;clear hne0 HW HB k0 r0 r1 r2 r3 r4 r5 nw Gk Gr Bk Br HTp hbn n1;have HB:=HB2;clear HB2;have HTp:=CHTp;clear CHTp;have Bk:=Ck;clear Ck;have Br:=Cr;clear Cr;clear hq2;exact xE
   have hq2:=bc hz0;by_cases hz1:n.z=p.z
   ·have hq3:=a9 hz1;have HPa:Hid (PSa c p):=.inr ⟨j1,n,HJn.out,HNn.out,.inr hz1⟩;clear hz0 hz1;obtain⟨Gk,Gr,HW⟩:=bO;have k0:=fun q:Wd w1=>q.slot (o:=0) Gk.out rfl;obtain⟨r0,r1,r2,r3,r4,r5⟩:=sl6 Gr;have nw:=fun q:Wd w1=>(q.cell hbn).trans n1;have hne0:=Wd.ne w1;go_wp2_with fail;refine ag aq aq ?_;repeat (go_big_quiet_step (first|fail))
    refine wpQuiet_nil ?_;rintro _ ⟨q0,rfl⟩;obtain⟨HB2,Ck,Cr,CHTp⟩:=nH;clear hne0 HW HB k0 r0 r1 r2 r3 r4 r5 nw Gk Gr Bk Br HTp hbn n1;have HB:=HB2;clear HB2;have HTp:=CHTp;clear CHTp;have Bk:=Ck;clear Ck;have Br:=Cr;clear Cr;clear hq2 hq3;exact xE
   ·have hq3:=bC hz1;have HZ0:=aa hz0;have HZ1:=aa hz1;clear hz0 hz1;obtain⟨Gk,Gr,HW⟩:=bO;have k0:=fun q:Wd w1=>q.slot (o:=0) Gk.out rfl;obtain⟨r0,r1,r2,r3,r4,r5⟩:=sl6 Gr;have nw:=fun q:Wd w1=>(q.cell hbn).trans n1;have hne0:=Wd.ne w1;go_wp2_with fail;refine ag aq aq ?_;repeat (go_big_quiet_step (first|fail))
    refine wpQuiet_nil ?_;rintro _ ⟨q0,rfl⟩;obtain⟨HB2,Ck,Cr,CHTp⟩:=nH;clear hne0 HW HB k0 r0 r1 r2 r3 r4 r5 nw Gk Gr Bk Br HTp hbn n1;have HB:=HB2;clear HB2;have HTp:=CHTp;clear CHTp;have Bk:=Ck;clear Ck;have Br:=Cr;clear Cr;go_wp2;go_ret;refine ar.f (fun h=>?_) HB.out;rcases (h.1 k p HXp.out).1 with h2|⟨i,n',h2,h3,h4⟩
    ·exact HEm.out h2
    ·obtain⟨_,rfl⟩:=HNR.inj h2 HJn.out (h3.trans HNn.symm);rcases h4 with h4|h4
     ·exact HZ0.out h4
     ·exact HZ1.out h4
  ·obtain rfl:l5=k:=af
   have HQ1:Hid (∀(k:Nat) p,c.ps[k]?=some p->PS c k p):=fun j z hz=>HQ.out j z c_ hz;clear HQ;go_wp2;clear pk;go_loopw [9] (fun i wr=> ∃k:Nat,k<=l1/\i=.int .i64 k/\Hid (∀(j:Nat) n,j<k->c.ns[j]?=some n->cpuOf n.n c.ps<=n.c)/\Hid (Below w.heap.size w wr)/\Hid (wr.heap[w.heap.size]?=some (.cells (clo6 a1 l1 y1 a2 l2 y2 a3 l3 y3 a4 l4 y4 a5 l5 y5 c.now) 36 (0,0)))) (fun i _=>l1 - (intOf i).toNat);case atStart=>exact⟨0,by omega,rfl,fun _ _ h=>absurd h af,HB.out,Bk.out⟩
   case round=>
    obtain⟨k,hk,rfl,HQ,HB,Bk⟩:=hrel;have pk:=ck0 Bk;by_cases hlt:k<l1
    ·obtain⟨b,o,n,rfl,hb,hx,hat⟩:=cB (HR.n.below HB.out) hlt;obtain⟨va,vl,vc,hvr,z0,z1,c0,c1,c2,c3,c4,c5,c6⟩:=aZ hat;have HXn:=aa hx;clear hat hx z0 z1 hvr;have Gk:=Bk;have HW:=HB;obtain⟨k0,k1,k2,k3,k4,k5⟩:=sl6 Gk;have n0w:=fun q:Wd wr=>(q.cell hb).trans c0;have n2w:=fun q:Wd wr=>(q.cell hb).trans c2;have hne0:=Wd.ne wr;have HC0:=aa (fun q:Wd wr=>il ⟨(some ⟨b,o,none⟩),l1,y1,a2,l2,y2,a3,l3,y3,a4,l4,y4,a5,l5,y5⟩ c.now c.ps n.n q.w (HR.p.below (HW.trans (q.b.mono HW.size))) HL5.out HPC.out);go_wp2_with fail;refine ag aq aq ?_;repeat (go_big_quiet_step (first|(go_at_call 80;exact Calls.wide (HC0.out _))|fail))
     refine wpQuiet_nil ?_;rintro _ ⟨q1,rfl⟩;obtain⟨HB1,Ck⟩:=cM;clear hne0 HW HB HC0 k0 k1 k2 k3 k4 k5 n0w n2w Gk Bk pk c0 c1 c2 c3 c4 c5 c6 hb;have HB:=HB1;clear HB1;have Bk:=Ck;clear Ck;by_cases hq:cpuOf n.n c.ps<=n.c
     ·exact yM
     ·have HCq:=aa hq;go_wp2;go_ret;exact ar.f (fun h=>by have h1:cpuOf n.n c.ps<=n.c:=h.2 k n HXn.out;have h2:=HCq.out;omega) HB.out
    ·exact yp

def ug (c:Cl):Prop:=(∀(j:Nat) z,c.vs[j]?=some z->AQ1 c z)/\∀(j:Nat) n,c.ns[j]?=some n->onOf n.n c.vs<=n.s

theorem kH (d:Ad) (c:Cl) (w:World) (hr:aJ w d c.raw) (hn:aP Nd.n c.ns) (hvs8:c.vs.length<=8):
  Calls Tryz.prog 113 #[.agg #[.slice d.a1 d.l1 d.c1,.slice d.a2 d.l2 d.c2,.slice d.a3 d.l3 d.c3,.slice d.a4 d.l4 d.c4,.slice d.a5 d.l5 d.c5,.int .i64 c.now]] w (ar (ug c) w):=by
 obtain⟨a1,l1,y1,a2,l2,y2,a3,l3,y3,a4,l4,y4,a5,l5,y5⟩:=d;dsimp only;obtain⟨HR,hl1,hm1,hl3⟩:=nO;have hm3:l3<=9223372036854775807:=FA hr.v.2.1 hr.v.2.2.1;clear hr;have HNR:=aa hn;have HL3:=aa hvs8;clear hn hvs8;go_enter Tryz.func113,Tryz.ntmps113;go_wp2;go_loopw [3] (fun i wr=> ∃k:Nat,k<=l3/\i=.int .i64 k/\Hid (∀(j:Nat) z,j<k->c.vs[j]?=some z->AQ1 c z)/\Hid (Below w.heap.size w wr)/\Hid (wr.heap[w.heap.size]?=some (.cells (clo6 a1 l1 y1 a2 l2 y2 a3 l3 y3 a4 l4 y4 a5 l5 y5 c.now) 36 (0,0)))) (fun i _=>l3 - (intOf i).toNat);case atStart=>exact⟨0,by omega,rfl,fun _ _ h=>absurd h af,al _ _,FD⟩
 case round=>
  obtain⟨k,hk,rfl,HQ,HB,Bk⟩:=hrel;have pk:=ck2 Bk;by_cases hlt:k<l3
  ·obtain⟨b,o,v,rfl,hb,hx,hat⟩:=bN (HR.v.below HB.out) hlt;obtain⟨va,vl,vc,hvr,z0,z2,z3,z5,c0,c1,c2,c3,c4,c5,c6,c7⟩:=aK hat;have HXv:=aa hx;have HTv:=aa hvr;clear hat hx z0 z2 z3 z5 hvr;have hvl:=HTv.1;have hvc:=FA HTv.2.1 HTv.2.2.1;have HVL:=aa hvl;clear hvl;have KV:Hid ((wr.alloc (.cells (vov v va vl vc) 99)).heap[w.heap.size]?=some (.cells (clo6 a1 l1 y1 a2 l2 y2 (some ⟨b,o,none⟩) l3 y3 a4 l4 y4 a5 l5 y5 c.now) 36 (0,0))):=(Fy wr (.cells (vov v va vl vc) 99) _ (ae Bk.out)).trans Bk.out;obtain⟨GV,BV⟩:=BO;have TT:=aa (HTv.below (al wr (.cells (vov v va vl vc) 99)));obtain⟨W,hW⟩:∃W,W=wr.alloc (.cells (vov v va vl vc) 99):=⟨_,rfl⟩;obtain⟨gb,hgb⟩:∃gb,gb=wr.heap.size:=⟨_,rfl⟩;rw[<-hW] at KV GV BV TT;rw[<-hgb] at GV;go_wp2;rw[<-hW,<-hgb];clear hW hgb HB Bk HTv c0 c1 c2 c3 c4 c5 c6 c7 hb pk;go_loopw [5] (fun i wr=> ∃kq:Nat,kq<=vl/\i=.int .i64 kq/\Hid (∀(j:Nat) t,j<kq->v.zs[j]?=some t->∃(i:Nat) (n:Nd),c.ns[i]?=some n/\n.n=t/\n.z=v.z)/\Hid (Below W.heap.size W wr)) (fun i _=>vl - (intOf i).toNat);case atStart=>exact⟨0,by omega,rfl,fun _ _ h=>absurd h af,Fw _ _⟩
   case round=>
    obtain⟨kq,hkq,rfl,HQ2,HBW⟩:=hrel;obtain⟨HB,Bk⟩:=nG;have Bv:=upK GV HBW.out;have pv:=ck7 Bv;by_cases hlt2:kq<vl
    ·obtain⟨b2,o2,t,rfl,hb,hx,hc,hsz⟩:=(TT.below HBW.out).at hlt2;have HXt:=aa hx;clear hx hsz;by_cases hnn:∃(i:Nat) (n:Nd),c.ns[i]?=some n/\n.n=t;rotate_left
     ·have HH:=aa hnn;clear hnn;obtain⟨Gk,Gv,HW,k0,k1,k2,k3,k4,k5⟩:=BY;have v7:=fun q:Wd wr=>q.slot (o:=7) Gv.out rfl;obtain⟨tw,hne0⟩:=iU;have HC0:=aa (fun q:Wd wr=>tg ⟨a1,l1,y1,a2,l2,y2,(some ⟨b,o,none⟩),l3,y3,a4,l4,y4,a5,l5,y5⟩ c.now c.ns t q.w (HR.n.below (HW.trans (q.b.mono HW.size))) (fun i n h1 h2=>HH.out ⟨i,n,h1,h2⟩));go_wp2_with fail;refine ag aq aq ?_;repeat (go_big_quiet_step (first|(go_at_call 144;exact Calls.wide (HC0.out _))|fail))
      refine wpQuiet_nil ?_;rintro _ ⟨q1,rfl⟩;obtain⟨HB1,Ck⟩:=cM;have Cv:=upK Gv q1.b;clear hne0 HW HB HC0 k0 k1 k2 k3 k4 k5 v7 tw Gk Gv Bk Bv pv;have HB:=HB1;clear HB1;have Bk:=Ck;clear Ck;have Bv:=Cv;clear Cv;obtain⟨Gk,Gv,HW,k0,v2,v7⟩:=vp;have hne0:=Wd.ne q1.w;go_wp2_with fail;refine ag aq aq ?_;repeat (go_big_quiet_step (first|fail))
      refine wpQuiet_nil ?_;rintro _ ⟨q2,rfl⟩;obtain⟨HB2,Ck⟩:=dL;have Cv:=upK Gv q2.b;clear hne0 HW HB k0 v2 v7 Gk Gv Bk Bv;have HB:=HB2;clear HB2;have Bk:=Ck;clear Ck;have Bv:=Cv;clear Cv;go_wp2;go_ret;refine ar.f (fun h=>?_) HB.out;obtain⟨i,n,h2,h3,_⟩:=(h.1 k v HXv.out) kq t HXt.out;exact HH.out ⟨i,n,h2,h3⟩
     obtain⟨j1,n,h1,h2⟩:=hnn;have hl1':j1<l1:=by have h3:=(Fm.1 h1).1;omega
     obtain⟨b1,o1,n',rfl,hb1n,hn',hat⟩:=cB HR.n hl1';rw[h1] at hn';obtain rfl:=Fq hn';obtain⟨na,nl,nc,hnr,z0,z1,d0,d1,d2,d3,d4,d5,d6⟩:=aZ hat;have HJn:=aa h1;have HNn:=aa h2;have HCn:=aa d1;have HBn:=aa hb1n;have hj11:decide ((j1:Int)<0)=false:=aS
     clear hn' hat hnr z0 z1 d0 d1 d2 d3 d4 d5 d6 h1 h2 hb1n;have Gk:=Bk;have Gv:=Bv;have HW:=HB;obtain⟨k0,k1,k2,k3,k4,k5⟩:=sl6 Gk;have v7:=fun q:Wd wr=>q.slot (o:=7) Gv.out rfl;obtain⟨tw,hne0⟩:=iU;have HC0:=aa (fun q:Wd wr=>jE ⟨(some ⟨b1,o1,none⟩),l1,y1,a2,l2,y2,(some ⟨b,o,none⟩),l3,y3,a4,l4,y4,a5,l5,y5⟩ c.now c.ns t q.w (HR.n.below (HW.trans (q.b.mono HW.size))) HNR.out HJn.out HNn.out);go_wp2_with fail;refine ag aq aq ?_;repeat (go_big_quiet_step (first|(go_at_call 144;exact Calls.wide (HC0.out _))|fail))
     refine wpQuiet_nil ?_;rintro _ ⟨q1,rfl⟩;obtain⟨HB1,Ck⟩:=cM;have Cv:=upK Gv q1.b;clear hne0 HW HB HC0 k0 k1 k2 k3 k4 k5 v7 tw Gk Gv Bk Bv pv hb hc;have HB:=HB1;clear HB1;have Bk:=Ck;clear Ck;have Bv:=Cv;clear Cv;have HBW1:=upB HBW q1.b;have hbn:=FE HBn.out HB.size;have n1:=(ak HB.out HBn.out).trans HCn.out;clear HBW;by_cases hz:n.z=v.z
     ·have q8:=a9 hz;have HZ:=aa hz;clear hz;obtain⟨Gk,Gv,HW,k0,v2,v7⟩:=vp;have nw:=fun q:Wd q1.w=>(q.cell hbn).trans n1;have hne0:=Wd.ne q1.w;go_wp2_with fail;refine ag aq aq ?_;repeat (go_big_quiet_step (first|fail))
      refine wpQuiet_nil ?_;rintro _ ⟨q2,rfl⟩;obtain⟨HB2,Ck⟩:=dL;have Cv:=upK Gv q2.b;clear hne0 HW HB k0 v2 v7 nw Gk Gv Bk Bv hbn n1;have HB:=HB2;clear HB2;have Bk:=Ck;clear Ck;have Bv:=Cv;clear Cv;clear q8;go_wp2_with fail;refine⟨⟨kq+1,by omega,by go_num,fun j s hj hs=>?_,HBW1.trans (q2.b.mono HBW1.size)⟩,by simp[intOf];omega⟩;by_cases e:j=kq
      ·subst e;rw[HXt.out] at hs;obtain rfl:=Fq hs;exact⟨j1,n,HJn.out,HNn.out,HZ.out⟩
      ·exact HQ2.out j s af hs
     ·have q8:=bC hz;have HZ:=aa hz;clear hz;obtain⟨Gk,Gv,HW,k0,v2,v7⟩:=vp;have nw:=fun q:Wd q1.w=>(q.cell hbn).trans n1;have hne0:=Wd.ne q1.w;go_wp2_with fail;refine ag aq aq ?_;repeat (go_big_quiet_step (first|fail))
      refine wpQuiet_nil ?_;rintro _ ⟨q2,rfl⟩;obtain⟨HB2,Ck⟩:=dL;have Cv:=upK Gv q2.b;clear hne0 HW HB k0 v2 v7 nw Gk Gv Bk Bv hbn n1;have HB:=HB2;clear HB2;have Bk:=Ck;clear Ck;have Bv:=Cv;clear Cv;go_wp2;go_ret;refine ar.f (fun h=>?_) HB.out;obtain⟨i,m2,e1,e2,e3⟩:=(h.1 k v HXv.out) kq t HXt.out;obtain⟨_,rfl⟩:=HNR.inj e1 HJn.out (e2.trans HNn.symm);exact HZ.out e3
    ·exact CE
  ·obtain rfl:l3=k:=af
   have HQ1:Hid (∀(j:Nat) z,c.vs[j]?=some z->AQ1 c z):=fun j z hz=>HQ.out j z c_ hz;clear HQ;go_wp2;clear pk;go_loopw [7] (fun i wr=> ∃k:Nat,k<=l1/\i=.int .i64 k/\Hid (∀(j:Nat) n,j<k->c.ns[j]?=some n->onOf n.n c.vs<=n.s)/\Hid (Below w.heap.size w wr)/\Hid (wr.heap[w.heap.size]?=some (.cells (clo6 a1 l1 y1 a2 l2 y2 a3 l3 y3 a4 l4 y4 a5 l5 y5 c.now) 36 (0,0)))) (fun i _=>l1 - (intOf i).toNat);case atStart=>exact⟨0,by omega,rfl,fun _ _ h=>absurd h af,HB.out,Bk.out⟩
   case round=>
    obtain⟨k,hk,rfl,HQ,HB,Bk⟩:=hrel;have pk:=ck0 Bk;by_cases hlt:k<l1
    ·obtain⟨b,o,n,rfl,hb,hx,hat⟩:=cB (HR.n.below HB.out) hlt;obtain⟨va,vl,vc,hvr,z0,z1,c0,c1,c2,c3,c4,c5,c6⟩:=aZ hat;have HXn:=aa hx;clear hat hx z0 z1 hvr;have Gk:=Bk;have HW:=HB;obtain⟨k0,k1,k2,k3,k4,k5⟩:=sl6 Gk;have n0w:=fun q:Wd wr=>(q.cell hb).trans c0;have n2w:=fun q:Wd wr=>(q.cell hb).trans c3;have hne0:=Wd.ne wr;have HC0:=aa (fun q:Wd wr=>Ao ⟨(some ⟨b,o,none⟩),l1,y1,a2,l2,y2,a3,l3,y3,a4,l4,y4,a5,l5,y5⟩ c.now c.vs n.n q.w (HR.v.below (HW.trans (q.b.mono HW.size))) HL3.out);go_wp2_with fail;refine ag aq aq ?_;repeat (go_big_quiet_step (first|(go_at_call 146;exact Calls.wide (HC0.out _))|fail))
     refine wpQuiet_nil ?_;rintro _ ⟨q1,rfl⟩;obtain⟨HB1,Ck⟩:=cM;clear hne0 HW HB HC0 k0 k1 k2 k3 k4 k5 n0w n2w Gk Bk pk c0 c1 c2 c3 c4 c5 c6 hb;have HB:=HB1;clear HB1;have Bk:=Ck;clear Ck;by_cases hq:onOf n.n c.vs<=n.s
     ·exact yM
     ·have HCq:=aa hq;go_wp2;go_ret;exact ar.f (fun h=>by have h1:onOf n.n c.vs<=n.s:=h.2 k n HXn.out;have h2:=HCq.out;omega) HB.out
    ·exact yp

def mI (W:World):Fact:=fun v w=> ∃g,v=.pointer (some ⟨g,0,none⟩)/\W.heap.size<=g/\w.heap[g]?=some (.cells #[.string ⟨#[]⟩,.string ⟨#[]⟩,.int .i64 0,.int .i64 0,.int .i64 0,.bool false,.slice none 0 0] 57 (0,0))
theorem mI.mono (W:World):Fact.bB (mI W):=by
 rintro v w w' ⟨g,h1,h2,h3⟩ hb;exact⟨g,h1,h2,(hb.block g (ae h3)).trans h3⟩
theorem Ef {w:World} {g:Nat} {v0 v1 v2 v3 v4 v5 v6:Value} (h:w.heap[g]?=some (.cells #[.string ⟨#[]⟩,.string ⟨#[]⟩,.int .i64 0,.int .i64 0,.int .i64 0,.bool false,.slice none 0 0] 57 (0,0))):
  (((((((w.setCell ⟨g,0,none⟩ (v0)).setCell ⟨g,1,none⟩ (v1)).setCell ⟨g,2,none⟩ (v2)).setCell ⟨g,3,none⟩ (v3)).setCell ⟨g,4,none⟩ (v4)).setCell ⟨g,5,none⟩ (v5)).setCell ⟨g,6,none⟩ (v6)).heap[g]?=some (.cells #[v0,v1,v2,v3,v4,v5,v6] 57 (0,0)):=by
 have:=aA (i:=6) (aA (i:=5) (aA (i:=4) (aA (i:=3) (aA (i:=2) (aA (i:=1) (aA (i:=0) h v0) v1) v2) v3) v4) v5) v6;simpa using this
theorem pA {W w:World} {g:Nat} {v0 v1 v2 v3 v4 v5 v6:Value} (hg:W.heap.size<=g) (h:Below W.heap.size W w):Below W.heap.size W (((((((w.setCell ⟨g,0,none⟩ (v0)).setCell ⟨g,1,none⟩ (v1)).setCell ⟨g,2,none⟩ (v2)).setCell ⟨g,3,none⟩ (v3)).setCell ⟨g,4,none⟩ (v4)).setCell ⟨g,5,none⟩ (v5)).setCell ⟨g,6,none⟩ (v6)):=
 ah hg (ah hg (ah hg (ah hg (ah hg (ah hg (ah hg h))))))
def EM (c:Cl) (p:Pd) (n:Nd):Prop:=∀(j:Nat) t,p.zs[j]?=some t->∃v,bJ c t v/\InL n.zs v.n

theorem ng (d:Ad) (c:Cl) (p:Pd) (pa:Option Addr) (pl pc:Nat) (j1:Nat) (n:Nd) (w:World) (hr:aJ w d c.raw) (hn:aP Nd.n c.ns) (hx:aP Xd.n c.xs) (hv:aP Vd.n c.vs) (hne:∀(j:Nat) v,c.vs[j]?=some v->¬v.n=⟨#[]⟩) (hp:ay w pa pl pc p.zs) (hj1:c.ns[j1]?=some n) (hnn:n.n=p.d) (hbd:∀(j:Nat) t,p.zs[j]?=some t->∃v,bJ c t v):
  Calls Tryz.prog 147 #[.agg #[.slice d.a1 d.l1 d.c1,.slice d.a2 d.l2 d.c2,.slice d.a3 d.l3 d.c3,.slice d.a4 d.l4 d.c4,.slice d.a5 d.l5 d.c5,.int .i64 c.now],.agg #[.string p.n,.int .i64 p.c,.string p.z,.slice pa pl pc,.string p.d,.int .i64 p.p]] w (ar (EM c p n) w):=by
 obtain⟨a1,l1,y1,a2,l2,y2,a3,l3,y3,a4,l4,y4,a5,l5,y5⟩:=d;dsimp only;have HR:=aa hr;have hl1:c.ns.length=l1:=sh
 have hl3:c.vs.length=l3:=k8
 clear hr;have HNR:=aa hn;obtain⟨HX,HV,HNE⟩:=iT;have HP:=aa hp;have HBD:=aa hbd;have hlc:=FA hp.2.1 hp.2.2.1;have hzl:=hp.1;have hl1':j1<l1:=by have h3:=(Fm.1 hj1).1;omega
 obtain⟨b1,o1,n',rfl,hb1n,hn',hat⟩:=cB HR.n hl1';rw[hj1] at hn';obtain rfl:=Fq hn';obtain⟨na,nl,nc,hnr,z0,z1,d0,d1,d2,d3,d4,d5,d6⟩:=aZ hat;have HJn:=aa hj1;have HNn:=aa hnn;have HTn:=aa hnr;have HBn:=aa hb1n;have HD:Hid (w.cell? ⟨b1,o1+j1*7,none⟩=some (.string n.n)/\w.cell? ⟨b1,o1+j1*7+1,none⟩=some (.string n.z)/\w.cell? ⟨b1,o1+j1*7+2,none⟩=some (.int .i64 n.c)/\w.cell? ⟨b1,o1+j1*7+3,none⟩=some (.int .i64 n.s)/\w.cell? ⟨b1,o1+j1*7+4,none⟩=some (.int .i64 n.u)/\w.cell? ⟨b1,o1+j1*7+5,none⟩=some (.bool n.d)/\w.cell? ⟨b1,o1+j1*7+6,none⟩=some (.slice na nl nc)):=⟨d0,d1,d2,d3,d4,d5,d6⟩;clear hn' hat hnr z0 z1 d0 d1 d2 d3 d4 d5 d6 hj1 hnn hb1n hn hx hv hne hp hbd;obtain⟨W,hW0⟩:∃W,W=(w.alloc (.cells (clo6 (some ⟨b1,o1,none⟩) l1 y1 a2 l2 y2 a3 l3 y3 a4 l4 y4 a5 l5 y5 c.now) 36)).alloc (.cells (pov p pa pl pc) 64):=⟨_,rfl⟩;have GK:Hid (W.heap[w.heap.size]?=some (.cells (clo6 (some ⟨b1,o1,none⟩) l1 y1 a2 l2 y2 a3 l3 y3 a4 l4 y4 a5 l5 y5 c.now) 36 (0,0))):=by rw[hW0];exact cU _ _ _
 have GP:Hid (W.heap[w.heap.size+1]?=some (.cells (pov p pa pl pc) 64 (0,0))):=by rw[hW0];exact bE _ _ _
 have BW:Hid (Below w.heap.size w W):=by rw[hW0];exact aF _ _ _
 go_enter Tryz.func147,Tryz.ntmps147;go_wp2_with fail;rw[<-hW0];clear hW0;rename_i K0 hK0;refine aR aq rfl rfl aq ?_;refine' au.an _ rfl ?_ ?_;rotate_left 1
 ·exact qd
 refine' au.an _ rfl ?_ ?_;rotate_left 1
 ·refine Obl.plain rfl ?_;intro ac wg K hsz hW hf hK;clear hsz;have e7:=hf 7 aj;simp[ai,Fs] at e7;exact wQ
 refine' au.an _ rfl ?_ ?_;rotate_left 1
 ·refine Obl.plain rfl ?_;intro ac wg K hsz hW hf hK;clear hsz;have e2:=hf 2 aj;simp[ai,Fs] at e2;exact wQ
 refine' au.an _ rfl ?_ ?_;rotate_left 1
 ·exact lZ
 refine' au.an _ rfl ?_ ?_;rotate_left 1
 ·refine Obl.plain rfl ?_;intro ac wg K hsz hW hf hK;clear hsz;have e10:=hf 10 aj;simp[ai,Fs] at e10;clear hf;obtain⟨r0,r1,r2,r3,r4,r5⟩:=cs6 ((hW.block _ (ae GP.out)).trans GP.out);exact aU
 refine' au.an (.int .i64 j1) rfl ?_ ?_
 ·refine Obl.plain rfl ?_;intro ac wg K hsz hW hf hK;clear hsz;have e9:=hf 9 aj;simp[ai,Fs] at e9;have e11:=hf 11 aj;simp[ai,Fs] at e11;clear hf;go_simp;refine (jE ⟨(some ⟨b1,o1,none⟩),l1,y1,a2,l2,y2,a3,l3,y3,a4,l4,y4,a5,l5,y5⟩ c.now c.ns p.d _ (HR.n.below (BW.trans (hW.mono BW.size))) HNR.out HJn.out HNn.out).mono ?_;rintro e w5 ⟨rfl,hb5⟩;exact hK _ _ hb5 rfl
 refine' au.an _ rfl ?_ ?_;rotate_left 1
 ·refine Obl.plain rfl ?_;intro ac wg K hsz hW hf hK;clear hsz;have e8:=hf 8 aj;simp[ai,Fs] at e8;have e12:=hf 12 aj;simp[ai,Fs] at e12;clear hf;exact aU
 refine' au.an _ rfl ?_ ?_;rotate_left 1
 ·refine Obl.plain rfl ?_;intro ac wg K hsz hW hf hK;clear hsz;have e13:=hf 13 aj;simp[ai,Fs] at e13;clear hf;have hBg:=BW.trans (hW.mono BW.size);obtain⟨d0,d1,d2,d3,d4,d5,d6⟩:=HD.out;have g0:=(ak hBg HBn.out).trans d0;have g1:=(ak hBg HBn.out).trans d1;have g2:=(ak hBg HBn.out).trans d2;have g3:=(ak hBg HBn.out).trans d3;have g4:=(ak hBg HBn.out).trans d4;have g5:=(ak hBg HBn.out).trans d5;have g6:=(ak hBg HBn.out).trans d6;clear d0 d1 d2 d3 d4 d5 d6 hBg;exact aU
 refine au.step (mI W) rfl (mI.mono W) ?_ ?_
 ·exact nY
 refine au.done ?_;intro q wz hW hf;simp only[FI] at hf;obtain⟨⟨g5,h5,hbW,hgb⟩,h14,-⟩:=hf;have r0:=ck0 hgb;have r1:=ck1 hgb;have r2:=ck2 hgb;have r3:=ck3 hgb;have r4:=ck4 hgb;have r5:=ck5 hgb;have r6:=ck6 hgb;have f0:=av hgb 0;have f1:=av hgb 1;have f2:=av hgb 2;have f3:=av hgb 3;have f4:=av hgb 4;have f5:=av hgb 5;have f6:=av hgb 6;have GN:=aa (Ef (v0:=.string n.n) (v1:=.string n.z) (v2:=.int .i64 n.c) (v3:=.int .i64 n.s) (v4:=.int .i64 n.u) (v5:=.bool n.d) (v6:=.slice na nl nc) hgb);have BN:=aa (pA (v0:=.string n.n) (v1:=.string n.z) (v2:=.int .i64 n.c) (v3:=.int .i64 n.s) (v4:=.int .i64 n.u) (v5:=.bool n.d) (v6:=.slice na nl nc) hbW hW);clear hgb hW;intro K hK;rw[if_pos bF];simp only[aE,Gd,GI,Fz,FH,FM,h5,h14];simp only[List.getLast];go_simp;refine hK _ _ ?_;refine hK0 _ _ ?_;clear hK hK0 K K0;generalize (((((((wz.setCell ⟨g5,0,none⟩ (.string n.n)).setCell ⟨g5,1,none⟩ (.string n.z)).setCell ⟨g5,2,none⟩ (.int .i64 n.c)).setCell ⟨g5,3,none⟩ (.int .i64 n.s)).setCell ⟨g5,4,none⟩ (.int .i64 n.u)).setCell ⟨g5,5,none⟩ (.bool n.d)).setCell ⟨g5,6,none⟩ (.slice na nl nc))=Y at GN BN ⊢;clear r0 f0 r1 f1 r2 f2 r3 f3 r4 f4 r5 f5 r6 f6;have KV:=upK GK BN.out;have PVv:=upK GP BN.out;have BV:=aa (BW.trans (BN.mono BW.size));clear GK GP BW BN hbW;have pp:=ck3 PVv;go_wp2;clear pp;go_loopw [6] (fun i wr=> ∃k:Nat,k<=pl/\i=.int .i64 k/\Hid (∀(j:Nat) t,j<k->p.zs[j]?=some t->∃v,bJ c t v/\InL n.zs v.n)/\Hid (Below Y.heap.size Y wr)) (fun i _=>pl - (intOf i).toNat);case atStart=>exact⟨0,by omega,rfl,fun _ _ h=>absurd h af,Fw _ _⟩
 case round=>
  obtain⟨k,hk,rfl,HQ,HBY⟩:=hrel;have HB:=aa (BV.trans (HBY.mono BV.size));have Bk:=upK KV HBY.out;have Bp:=upK PVv HBY.out;have Bn:=upK GN HBY.out;have pp:=ck3 Bp;by_cases hlt:k<pl
  ·obtain⟨b,o,t,rfl,hb,hxt,hc,hsz⟩:=(HP.below HB.out).at hlt;have HXt:=aa hxt;clear hxt hsz;obtain⟨v,hbd⟩:=HBD.out k t HXt.out;obtain⟨j3,hj3⟩:=hbd.at;have hl3':j3<l3:=by have h1:=(Fm.1 hj3).1;omega
   obtain⟨b3,o3,v',rfl,hb3,hv',hat⟩:=bN HR.v hl3';rw[hj3] at hv';obtain rfl:=Fq hv';obtain⟨xa,xl,xc,hvr,z0,z2,z3,z5,d0,d1,d2,d3,d4,d5,d6,d7⟩:=aK hat;have HJ:=aa hj3;have HDb:=aa hbd;have hbv:=FE hb3 HB.size;have v0:=(ak HB.out hb3).trans d0;clear hv' hat hvr z0 z2 z3 z5 d0 d1 d2 d3 d4 d5 d6 d7 hj3 hbd hb3;by_cases hin:InL n.zs v.n
   ·have HIn:=aa hin;clear hin;have Gk:=Bk;have Gp:=Bp;have Gn:=Bn;have HW:=HB;obtain⟨k0,k1,k2,k3,k4,k5⟩:=sl6 Gk;obtain⟨p3,n6,tw,vw,hne0,HC0⟩:=Cc;have HC1:=aa (fun q:Wd wr=>(di na nl nc n.zs v.n q.w (HTn.below (HW.trans (q.b.mono HW.size)))).mono (fun _ _ h=>ar.yes h HIn.out));go_wp2_with fail;refine ag aq aq ?_;repeat (go_big_quiet_step (first|(go_at_call 102;exact Calls.wide (HC0.out _))|(go_at_call 108;exact Calls.wide (HC1.out _))|fail))
    refine wpQuiet_nil ?_;rintro _ ⟨q2,rfl⟩;have HB1:=upB HW q2.b;have Ck:=upK Gk q2.b;have Cp:=upK Gp q2.b;have Cn:=upK Gn q2.b;clear hne0 HW HB HC0 HC1 k0 k1 k2 k3 k4 k5 p3 n6 tw vw Gk Gp Gn Bk Bp Bn pp hb hc hbv v0;have HB:=HB1;clear HB1;have Bk:=Ck;clear Ck;have Bp:=Cp;clear Cp;have Bn:=Cn;clear Cn;go_wp2_with fail;refine⟨⟨k+1,by omega,by go_num,fun j s hj hs=>?_,HBY.trans (q2.b.mono HBY.size)⟩,by simp[intOf];omega⟩;by_cases e:j=k
    ·subst e;rw[HXt.out] at hs;obtain rfl:=Fq hs;exact⟨v,HDb.out,HIn.out⟩
    ·exact HQ.out j s af hs
   ·have HIn:=aa hin;clear hin;have Gk:=Bk;have Gp:=Bp;have Gn:=Bn;have HW:=HB;obtain⟨k0,k1,k2,k3,k4,k5⟩:=sl6 Gk;obtain⟨p3,n6,tw,vw,hne0,HC0⟩:=Cc;have HC1:=aa (fun q:Wd wr=>(di na nl nc n.zs v.n q.w (HTn.below (HW.trans (q.b.mono HW.size)))).mono (fun _ _ h=>ar.no h HIn.out));go_wp2_with fail;refine ag aq aq ?_;repeat (go_big_quiet_step (first|(go_at_call 102;exact Calls.wide (HC0.out _))|(go_at_call 108;exact Calls.wide (HC1.out _))|fail))
    refine wpQuiet_nil ?_;rintro _ ⟨q2,rfl⟩;have HB1:=upB HW q2.b;have Ck:=upK Gk q2.b;have Cp:=upK Gp q2.b;have Cn:=upK Gn q2.b;clear hne0 HW HB HC0 HC1 k0 k1 k2 k3 k4 k5 p3 n6 tw vw Gk Gp Gn Bk Bp Bn pp hb hc hbv v0;have HB:=HB1;clear HB1;have Bk:=Ck;clear Ck;have Bp:=Cp;clear Cp;have Bn:=Cn;clear Cn;go_wp2;go_ret;refine ar.f (fun h=>?_) HB.out;obtain⟨v2,e1,e2⟩:=h k t HXt.out;obtain rfl:=bJ.inj HX.out HV.out HDb.out e1;exact HIn.out e2
  ·exact yk

theorem lR (d:Ad) (c:Cl) (w:World) (hr:aJ w d c.raw) (hn:aP Nd.n c.ns) (hx:aP Xd.n c.xs) (hv:aP Vd.n c.vs) (hne:∀(j:Nat) v,c.vs[j]?=some v->¬v.n=⟨#[]⟩) (hrun:∀(j:Nat) p,c.ps[j]?=some p->p.p=2->(∃(i:Nat) (n:Nd),c.ns[i]?=some n/\n.n=p.d)/\∀(j:Nat) t,p.zs[j]?=some t->∃v,bJ c t v):
  Calls Tryz.prog 114 #[.agg #[.slice d.a1 d.l1 d.c1,.slice d.a2 d.l2 d.c2,.slice d.a3 d.l3 d.c3,.slice d.a4 d.l4 d.c4,.slice d.a5 d.l5 d.c5,.int .i64 c.now]] w (ar (kv c) w):=by
 obtain⟨a1,l1,y1,a2,l2,y2,a3,l3,y3,a4,l4,y4,a5,l5,y5⟩:=d;dsimp only;obtain⟨HR,hl1,hm1,hl3⟩:=nO;obtain⟨hl5,hm5⟩:=jN;clear hr;have HNR:=aa hn;obtain⟨HX,HV,HNE⟩:=iT;have HRun:=aa hrun;clear hn hx hv hne hrun;go_enter Tryz.func114,Tryz.ntmps114;go_wp2;go_loopw [3] (fun i wr=> ∃k:Nat,k<=l1/\i=.int .i64 k/\Hid (∀(j:Nat) z,j<k->c.ns[j]?=some z->ue c z)/\Hid (Below w.heap.size w wr)/\Hid (wr.heap[w.heap.size]?=some (.cells (clo6 a1 l1 y1 a2 l2 y2 a3 l3 y3 a4 l4 y4 a5 l5 y5 c.now) 36 (0,0)))) (fun i _=>l1 - (intOf i).toNat);case atStart=>exact⟨0,by omega,rfl,fun _ _ h=>absurd h af,al _ _,FD⟩
 case round=>
  obtain⟨k,hk,rfl,HQ,HB,Bk⟩:=hrel;have pk:=ck0 Bk;by_cases hlt:k<l1
  ·obtain⟨b,o,n,rfl,hb,hx,hat⟩:=cB (HR.n.below HB.out) hlt;obtain⟨va,vl,vc,hvr,z0,z1,c0,c1,c2,c3,c4,c5,c6⟩:=aZ hat;have HXn:=aa hx;have HTn:=aa hvr;clear hat hx z0 z1 hvr;have hvl:=HTn.1;have hvc:=FA HTn.2.1 HTn.2.2.1;have HVL:=aa hvl;clear hvl;have KV:Hid ((wr.alloc (.cells #[.string n.n,.string n.z,.int .i64 n.c,.int .i64 n.s,.int .i64 n.u,.bool n.d,.slice va vl vc] 57)).heap[w.heap.size]?=some (.cells (clo6 (some ⟨b,o,none⟩) l1 y1 a2 l2 y2 a3 l3 y3 a4 l4 y4 a5 l5 y5 c.now) 36 (0,0))):=(Fy wr (.cells #[.string n.n,.string n.z,.int .i64 n.c,.int .i64 n.s,.int .i64 n.u,.bool n.d,.slice va vl vc] 57) _ (ae Bk.out)).trans Bk.out;have GV:Hid ((wr.alloc (.cells #[.string n.n,.string n.z,.int .i64 n.c,.int .i64 n.s,.int .i64 n.u,.bool n.d,.slice va vl vc] 57)).heap[wr.heap.size]?=some (.cells #[.string n.n,.string n.z,.int .i64 n.c,.int .i64 n.s,.int .i64 n.u,.bool n.d,.slice va vl vc] 57 (0,0))):=FD;have BV:=aa (HB.trans ((al wr (.cells #[.string n.n,.string n.z,.int .i64 n.c,.int .i64 n.s,.int .i64 n.u,.bool n.d,.slice va vl vc] 57)).mono HB.size));have TT:=aa (HTn.below (al wr (.cells #[.string n.n,.string n.z,.int .i64 n.c,.int .i64 n.s,.int .i64 n.u,.bool n.d,.slice va vl vc] 57)));obtain⟨W,hW⟩:∃W,W=wr.alloc (.cells #[.string n.n,.string n.z,.int .i64 n.c,.int .i64 n.s,.int .i64 n.u,.bool n.d,.slice va vl vc] 57):=⟨_,rfl⟩;obtain⟨gb,hgb⟩:∃gb,gb=wr.heap.size:=⟨_,rfl⟩;rw[<-hW] at KV GV BV TT;rw[<-hgb] at GV;go_wp2;rw[<-hW,<-hgb];clear hW hgb HB Bk HTn c0 c1 c2 c3 c4 c5 c6 hb pk;go_loopw [5] (fun i wr=> ∃kq:Nat,kq<=vl/\i=.int .i64 kq/\Hid (∀(j:Nat) t,j<kq->n.zs[j]?=some t->∃(i:Nat) (v:Vd),c.vs[i]?=some v/\v.n=t/\(n.d=true\/InL v.zs n.n))/\Hid (Below W.heap.size W wr)) (fun i _=>vl - (intOf i).toNat);case atStart=>exact⟨0,by omega,rfl,fun _ _ h=>absurd h af,Fw _ _⟩
   case round=>
    obtain⟨kq,hkq,rfl,HQ2,HBW⟩:=hrel;obtain⟨HB,Bk⟩:=nG;have Bv:=upK GV HBW.out;have pv:=ck6 Bv;by_cases hlt2:kq<vl
    ·obtain⟨b2,o2,t,rfl,hb,hx,hc,hsz⟩:=(TT.below HBW.out).at hlt2;have HXt:=aa hx;clear hx hsz;by_cases hnn:∃(i:Nat) (v:Vd),c.vs[i]?=some v/\v.n=t;rotate_left
     ·have HH:=aa hnn;clear hnn;obtain⟨Gk,Gv,HW,k0,k1,k2,k3,k4,k5⟩:=BY;have v6:=fun q:Wd wr=>q.slot (o:=6) Gv.out rfl;obtain⟨tw,hne0⟩:=iU;have HC0:=aa (fun q:Wd wr=>ik ⟨(some ⟨b,o,none⟩),l1,y1,a2,l2,y2,a3,l3,y3,a4,l4,y4,a5,l5,y5⟩ c.now c.vs t q.w (HR.v.below (HW.trans (q.b.mono HW.size))) (fun i v h1 h2=>HH.out ⟨i,v,h1,h2⟩));go_wp2_with fail;refine ag aq aq ?_;repeat (go_big_quiet_step (first|(go_at_call 133;exact Calls.wide (HC0.out _))|fail))
      refine wpQuiet_nil ?_;rintro _ ⟨q1,rfl⟩;obtain⟨HB1,Ck⟩:=cM;have Cv:=upK Gv q1.b;clear hne0 HW HB HC0 k0 k1 k2 k3 k4 k5 v6 tw Gk Gv Bk Bv pv;have HB:=HB1;clear HB1;have Bk:=Ck;clear Ck;have Bv:=Cv;clear Cv;obtain⟨Gk,Gv,HW,k2,v0,v2,v5,v6⟩:=so;have hne0:=Wd.ne q1.w;go_wp2_with fail;refine ag aq aq ?_;repeat (go_big_quiet_step (first|fail))
      refine wpQuiet_nil ?_;rintro _ ⟨q2,rfl⟩;obtain⟨HB2,Ck⟩:=dL;have Cv:=upK Gv q2.b;clear hne0 HW HB k2 v0 v2 v5 v6 Gk Gv Bk Bv;have HB:=HB2;clear HB2;have Bk:=Ck;clear Ck;have Bv:=Cv;clear Cv;go_wp2;go_ret;refine ar.f (fun h=>?_) HB.out;obtain⟨i,v,h2,h3,_⟩:=(h.1 k n HXn.out) kq t HXt.out;exact HH.out ⟨i,v,h2,h3⟩
     obtain⟨j3,v,h1,h2⟩:=hnn;have hl3':j3<l3:=by have h3:=(Fm.1 h1).1;omega
     obtain⟨b3,o3,v',rfl,hb3,hv',hat⟩:=bN HR.v hl3';rw[h1] at hv';obtain rfl:=Fq hv';obtain⟨xa,xl,xc,hvr,z0,z2,z3,z5,d0,d1,d2,d3,d4,d5,d6,d7⟩:=aK hat;have HJ:=aa h1;have HNv:=aa h2;have HTx:=aa hvr;have HC7:=aa d7;have HB3:=aa hb3;have hj31:decide ((j3:Int)<0)=false:=aS
     clear hv' hat hvr z0 z2 z3 z5 d0 d1 d2 d3 d4 d5 d6 d7 h1 h2 hb3;have Gk:=Bk;have Gv:=Bv;have HW:=HB;obtain⟨k0,k1,k2,k3,k4,k5⟩:=sl6 Gk;have v6:=fun q:Wd wr=>q.slot (o:=6) Gv.out rfl;obtain⟨tw,hne0⟩:=iU;have HC0:=aa (fun q:Wd wr=>jC ⟨(some ⟨b,o,none⟩),l1,y1,a2,l2,y2,(some ⟨b3,o3,none⟩),l3,y3,a4,l4,y4,a5,l5,y5⟩ c.now c.vs t q.w (HR.v.below (HW.trans (q.b.mono HW.size))) HV.out HJ.out HNv.out);go_wp2_with fail;refine ag aq aq ?_;repeat (go_big_quiet_step (first|(go_at_call 133;exact Calls.wide (HC0.out _))|fail))
     refine wpQuiet_nil ?_;rintro _ ⟨q1,rfl⟩;obtain⟨HB1,Ck⟩:=cM;have Cv:=upK Gv q1.b;clear hne0 HW HB HC0 k0 k1 k2 k3 k4 k5 v6 tw Gk Gv Bk Bv pv hb hc;have HB:=HB1;clear HB1;have Bk:=Ck;clear Ck;have Bv:=Cv;clear Cv;have HBW1:=upB HBW q1.b;have hbv:=FE HB3.out HB.size;have v7:=(ak HB.out HB3.out).trans HC7.out;clear HBW;rcases G1 n.d with hd|hd
     ·have HDd:=aa hd;clear hd;have Bv2:Hid (q1.w.heap[gb]?=some (.cells #[.string n.n,.string n.z,.int .i64 n.c,.int .i64 n.s,.int .i64 n.u,.bool true,.slice (some ⟨b2,o2,none⟩) vl vc] 57 (0,0))):=by have:=Bv.out;rw[HDd.out] at this;exact this
      clear Bv;have Bv:=Bv2;clear Bv2;obtain⟨Gk,Gv,HW,k2,v0,v2,v5,v6⟩:=so;have vw:=fun q:Wd q1.w=>(q.cell hbv).trans v7;have hne0:=Wd.ne q1.w;go_wp2_with fail;refine ag aq aq ?_;repeat (go_big_quiet_step (first|fail))
      refine wpQuiet_nil ?_;rintro _ ⟨q2,rfl⟩;obtain⟨HB2,Ck⟩:=dL;have Cv:=upK Gv q2.b;clear hne0 HW HB k2 v0 v2 v5 v6 vw Gk Gv Bk Bv hbv v7;have HB:=HB2;clear HB2;have Bk:=Ck;clear Ck;have Bv:=Cv;clear Cv;go_wp2_with fail;refine⟨⟨kq+1,by omega,by go_num,fun j s hj hs=>?_,HBW1.trans (q2.b.mono HBW1.size)⟩,by simp[intOf];omega⟩;by_cases e:j=kq
      ·subst e;rw[HXt.out] at hs;obtain rfl:=Fq hs;exact⟨j3,v,HJ.out,HNv.out,.inl HDd.out⟩
      ·exact HQ2.out j s af hs
     ·have HDd:=aa hd;clear hd;have Bv2:Hid (q1.w.heap[gb]?=some (.cells #[.string n.n,.string n.z,.int .i64 n.c,.int .i64 n.s,.int .i64 n.u,.bool false,.slice (some ⟨b2,o2,none⟩) vl vc] 57 (0,0))):=by have:=Bv.out;rw[HDd.out] at this;exact this
      clear Bv;have Bv:=Bv2;clear Bv2;by_cases hin:InL v.zs n.n
      ·have HIn:=aa hin;clear hin;obtain⟨Gk,Gv,HW,k2,v0,v2,v5,v6⟩:=so;have vw:=fun q:Wd q1.w=>(q.cell hbv).trans v7;have hne0:=Wd.ne q1.w;have HC0:=aa (fun q:Wd q1.w=>(di xa xl xc v.zs n.n q.w (HTx.below (HW.trans (q.b.mono HW.size)))).mono (fun _ _ h=>ar.yes h HIn.out));go_wp2_with fail;refine ag aq aq ?_;repeat (go_big_quiet_step (first|(go_at_call 108;exact Calls.wide (HC0.out _))|fail))
       refine wpQuiet_nil ?_;rintro _ ⟨q2,rfl⟩;obtain⟨HB2,Ck⟩:=dL;have Cv:=upK Gv q2.b;clear hne0 HW HB HC0 k2 v0 v2 v5 v6 vw Gk Gv Bk Bv hbv v7;have HB:=HB2;clear HB2;have Bk:=Ck;clear Ck;have Bv:=Cv;clear Cv;go_wp2_with fail;refine⟨⟨kq+1,by omega,by go_num,fun j s hj hs=>?_,HBW1.trans (q2.b.mono HBW1.size)⟩,by simp[intOf];omega⟩;by_cases e:j=kq
       ·subst e;rw[HXt.out] at hs;obtain rfl:=Fq hs;exact⟨j3,v,HJ.out,HNv.out,.inr HIn.out⟩
       ·exact HQ2.out j s af hs
      ·have HIn:=aa hin;clear hin;obtain⟨Gk,Gv,HW,k2,v0,v2,v5,v6⟩:=so;have vw:=fun q:Wd q1.w=>(q.cell hbv).trans v7;have hne0:=Wd.ne q1.w;have HC0:=aa (fun q:Wd q1.w=>(di xa xl xc v.zs n.n q.w (HTx.below (HW.trans (q.b.mono HW.size)))).mono (fun _ _ h=>ar.no h HIn.out));go_wp2_with fail;refine ag aq aq ?_;repeat (go_big_quiet_step (first|(go_at_call 108;exact Calls.wide (HC0.out _))|fail))
       refine wpQuiet_nil ?_;rintro _ ⟨q2,rfl⟩;obtain⟨HB2,Ck⟩:=dL;have Cv:=upK Gv q2.b;clear hne0 HW HB HC0 k2 v0 v2 v5 v6 vw Gk Gv Bk Bv hbv v7;have HB:=HB2;clear HB2;have Bk:=Ck;clear Ck;have Bv:=Cv;clear Cv;go_wp2;go_ret;refine ar.f (fun h=>?_) HB.out;obtain⟨i,v2,e1,e2,e3⟩:=(h.1 k n HXn.out) kq t HXt.out;obtain⟨_,rfl⟩:=HV.inj e1 HJ.out (e2.trans HNv.symm);rcases e3 with e3|e3
       ·rw[HDd.out] at e3;cases e3
       ·exact HIn.out e3
    ·obtain rfl:vl=kq:=af
     go_wp2_with fail;refine⟨⟨k+1,by omega,by go_num,fun j z hj hz=>?_,HB.out,Bk.out⟩,by simp[intOf];omega⟩;by_cases e:j=k
     ·subst e;rw[HXn.out] at hz;exact wZ
     ·exact HQ.out j z af hz
  ·obtain rfl:l1=k:=af
   have HQ1:Hid (∀(j:Nat) z,c.ns[j]?=some z->ue c z):=fun j z hz=>HQ.out j z c_ hz;clear HQ;go_wp2;clear pk;go_loopw [7] (fun i wr=> ∃k:Nat,k<=l5/\i=.int .i64 k/\Hid (∀(j:Nat) z,j<k->c.ps[j]?=some z->MQ2 c z)/\Hid (Below w.heap.size w wr)/\Hid (wr.heap[w.heap.size]?=some (.cells (clo6 a1 l1 y1 a2 l2 y2 a3 l3 y3 a4 l4 y4 a5 l5 y5 c.now) 36 (0,0)))) (fun i _=>l5 - (intOf i).toNat);case atStart=>exact⟨0,by omega,rfl,fun _ _ h=>absurd h af,HB.out,Bk.out⟩
   case round=>
    obtain⟨k,hk,rfl,HQ,HB,Bk⟩:=hrel;have pk:=ck4 Bk;by_cases hlt:k<l5
    ·obtain⟨b,o,p,rfl,hb,hx,hat⟩:=bY (HR.p.below HB.out) hlt;obtain⟨va,vl,vc,hvr,z0,z2,z4,c0,c1,c2,c3,c4,c5⟩:=aT hat;have HXp:=aa hx;have HTp:=aa hvr;clear hat hx z0 z2 z4 hvr;by_cases hp2:p.p=2;rotate_left
     ·have HP2:=aa hp2;have hp3:(p.p==2)=false:=by simpa using hp2
      have Gk:Hid ((wr.alloc (.cells #[.string p.n,.int .i64 p.c,.string p.z,.slice va vl vc,.string p.d,.int .i64 p.p] 64)).heap[w.heap.size]?=some (.cells (clo6 a1 l1 y1 a2 l2 y2 a3 l3 y3 a4 l4 y4 (some ⟨b,o,none⟩) l5 y5 c.now) 36 (0,0))):=(Fy _ _ _ (ae Bk.out)).trans (Bk.out);have Gr:Hid ((wr.alloc (.cells #[.string p.n,.int .i64 p.c,.string p.z,.slice va vl vc,.string p.d,.int .i64 p.p] 64)).heap[wr.heap.size]?=some (.cells #[.string p.n,.int .i64 p.c,.string p.z,.slice va vl vc,.string p.d,.int .i64 p.p] 64 (0,0))):=FD;have HW:Hid (Below w.heap.size w (wr.alloc (.cells #[.string p.n,.int .i64 p.c,.string p.z,.slice va vl vc,.string p.d,.int .i64 p.p] 64))):=(HB.trans ((al _ _).mono HB.size));obtain⟨k0,k1,k2,k3,k4,k5⟩:=sl6 Gk;obtain⟨r0,r1,r2,r3,r4,r5⟩:=sl6 Gr;have hne0:=Wd.ne (wr.alloc (.cells #[.string p.n,.int .i64 p.c,.string p.z,.slice va vl vc,.string p.d,.int .i64 p.p] 64));go_wp2_with fail;refine ag aq aq ?_;repeat (go_big_quiet_step (first|fail))
      refine wpQuiet_nil ?_;rintro _ ⟨q1,rfl⟩;obtain⟨HB1,Ck⟩:=cM;have Cr:=upK Gr q1.b;clear hne0 HW HB k0 k1 k2 k3 k4 k5 r0 r1 r2 r3 r4 r5 Gk Gr Bk pk hb c0 c1 c2 c3 c4 c5;have HB:=HB1;clear HB1;have Bk:=Ck;clear Ck;clear Cr;clear hp2 hp3;go_wp2_with fail;refine⟨⟨k+1,by omega,by go_num,fun j z hj hz=>?_,HB.out,Bk.out⟩,by simp[intOf];omega⟩;exact yj
     have HP2:=aa hp2;obtain⟨⟨j1,n,h1,h2⟩,hbd⟩:=HRun.out k p HXp.out hp2;rw[hp2] at c5;clear hp2;have HBD:=aa hbd;have hl1':j1<l1:=by have h3:=(Fm.1 h1).1;omega
     obtain⟨b1,o1,n',rfl,hb1n,hn',hat⟩:=cB HR.n hl1';rw[h1] at hn';obtain rfl:=Fq hn';obtain⟨na,nl,nc,hnr,z0,z1,d0,d1,d2,d3,d4,d5,d6⟩:=aZ hat;have HJn:=aa h1;have HNn:=aa h2;have e5:=(ak HB.out hb1n).trans d5;have hbn:=FE hb1n HB.size;clear hn' hat hnr z0 z1 d0 d1 d2 d3 d4 d5 d6 h1 h2 hb1n hbd;rcases G1 n.d with hd|hd
     ·have HDd:=aa hd;rw[hd] at e5;clear hd;obtain⟨hbnv,e5v⟩:=vu;obtain⟨Gk,Gr,HW⟩:=Di;obtain⟨k0,k1,k2,k3,k4,k5⟩:=sl6 Gk;obtain⟨r0,r1,r2,r3,r4,r5⟩:=sl6 Gr;obtain⟨nw,hne0,HC0⟩:=vB;go_wp2_with fail;refine ag aq aq ?_;repeat (go_big_quiet_step (first|(go_at_call 144;exact Calls.wide (HC0.out _))|fail))
      refine wpQuiet_nil ?_;rintro _ ⟨q1,rfl⟩;obtain⟨HB1,Ck⟩:=cM;have Cr:=upK Gr q1.b;clear hne0 HW HB HC0 k0 k1 k2 k3 k4 k5 r0 r1 r2 r3 r4 r5 nw Gk Gr Bk pk hb hbn e5 hbnv e5v c0 c1 c2 c3 c4 c5;have HB:=HB1;clear HB1;have Bk:=Ck;clear Ck;clear Cr;go_wp2;go_ret;refine ar.f (fun h=>?_) HB.out;obtain⟨i,m,e1,e2,e3,_⟩:=(h.2 k p HXp.out) HP2.out;obtain⟨_,rfl⟩:=HNR.inj e1 HJn.out (e2.trans HNn.symm);rw[HDd.out] at e3;cases e3
     ·by_cases hal:EM c p n
      ·have HAl:=aa hal;clear hal;have HDd:=aa hd;rw[hd] at e5;clear hd;obtain⟨hbnv,e5v⟩:=vu;have HCA:Hid (∀q:Wd (wr.alloc (.cells #[.string p.n,.int .i64 p.c,.string p.z,.slice va vl vc,.string p.d,.int .i64 2] 64)),Calls Tryz.prog 147 #[.agg #[.slice (some ⟨b1,o1,none⟩) l1 y1,.slice a2 l2 y2,.slice a3 l3 y3,.slice a4 l4 y4,.slice (some ⟨b,o,none⟩) l5 y5,.int .i64 c.now],.agg #[.string p.n,.int .i64 p.c,.string p.z,.slice va vl vc,.string p.d,.int .i64 2]] q.w fun e w'=>e=.returned (.bool true)/\Below q.w.heap.size q.w w'):=by
        intro q;have h0:=(ng ⟨(some ⟨b1,o1,none⟩),l1,y1,a2,l2,y2,a3,l3,y3,a4,l4,y4,(some ⟨b,o,none⟩),l5,y5⟩ c p va vl vc j1 n q.w (HR.below (HB.trans (((al wr _).trans (q.b.mono aS)).mono HB.size))) HNR.out HX.out HV.out HNE.out (HTp.below ((al wr _).trans (q.b.mono aS))) HJn.out HNn.out HBD.out).mono (fun _ _ h=>ar.yes h HAl.out);rw[HP2.out] at h0;exact h0
       obtain⟨Gk,Gr,HW⟩:=Di;obtain⟨k0,k1,k2,k3,k4,k5⟩:=sl6 Gk;obtain⟨r0,r1,r2,r3,r4,r5⟩:=sl6 Gr;obtain⟨nw,hne0,HC0⟩:=vB;have HC1:=aa (fun q:Wd (wr.alloc (.cells #[.string p.n,.int .i64 p.c,.string p.z,.slice va vl vc,.string p.d,.int .i64 2] 64))=>HCA.out q);go_wp2_with fail;refine ag aq aq ?_;repeat (go_big_quiet_step (first|(go_at_call 144;exact Calls.wide (HC0.out _))|(go_at_call 147;exact Calls.wide (HC1.out _))|fail))
       refine wpQuiet_nil ?_;rintro _ ⟨q1,rfl⟩;obtain⟨HB1,Ck⟩:=cM;have Cr:=upK Gr q1.b;clear hne0 HW HB HC0 HC1 k0 k1 k2 k3 k4 k5 r0 r1 r2 r3 r4 r5 nw Gk Gr Bk pk hb hbn e5 hbnv e5v c0 c1 c2 c3 c4 c5;have HB:=HB1;clear HB1;have Bk:=Ck;clear Ck;clear Cr;go_wp2_with fail;refine⟨⟨k+1,by omega,by go_num,fun j z hj hz=>?_,HB.out,Bk.out⟩,by simp[intOf];omega⟩;by_cases e:j=k
       ·subst e;rw[HXp.out] at hz;obtain rfl:=Fq hz;exact fun _=>⟨j1,n,HJn.out,HNn.out,HDd.out,HAl.out⟩
       ·exact HQ.out j z af hz
      ·have HAl:=aa hal;clear hal;have HDd:=aa hd;rw[hd] at e5;clear hd;obtain⟨hbnv,e5v⟩:=vu;have HCA:Hid (∀q:Wd (wr.alloc (.cells #[.string p.n,.int .i64 p.c,.string p.z,.slice va vl vc,.string p.d,.int .i64 2] 64)),Calls Tryz.prog 147 #[.agg #[.slice (some ⟨b1,o1,none⟩) l1 y1,.slice a2 l2 y2,.slice a3 l3 y3,.slice a4 l4 y4,.slice (some ⟨b,o,none⟩) l5 y5,.int .i64 c.now],.agg #[.string p.n,.int .i64 p.c,.string p.z,.slice va vl vc,.string p.d,.int .i64 2]] q.w fun e w'=>e=.returned (.bool false)/\Below q.w.heap.size q.w w'):=by
        intro q;have h0:=(ng ⟨(some ⟨b1,o1,none⟩),l1,y1,a2,l2,y2,a3,l3,y3,a4,l4,y4,(some ⟨b,o,none⟩),l5,y5⟩ c p va vl vc j1 n q.w (HR.below (HB.trans (((al wr _).trans (q.b.mono aS)).mono HB.size))) HNR.out HX.out HV.out HNE.out (HTp.below ((al wr _).trans (q.b.mono aS))) HJn.out HNn.out HBD.out).mono (fun _ _ h=>ar.no h HAl.out);rw[HP2.out] at h0;exact h0
       obtain⟨Gk,Gr,HW⟩:=Di;obtain⟨k0,k1,k2,k3,k4,k5⟩:=sl6 Gk;obtain⟨r0,r1,r2,r3,r4,r5⟩:=sl6 Gr;obtain⟨nw,hne0,HC0⟩:=vB;have HC1:=aa (fun q:Wd (wr.alloc (.cells #[.string p.n,.int .i64 p.c,.string p.z,.slice va vl vc,.string p.d,.int .i64 2] 64))=>HCA.out q);go_wp2_with fail;refine ag aq aq ?_;repeat (go_big_quiet_step (first|(go_at_call 144;exact Calls.wide (HC0.out _))|(go_at_call 147;exact Calls.wide (HC1.out _))|fail))
       refine wpQuiet_nil ?_;rintro _ ⟨q1,rfl⟩;obtain⟨HB1,Ck⟩:=cM;have Cr:=upK Gr q1.b;clear hne0 HW HB HC0 HC1 k0 k1 k2 k3 k4 k5 r0 r1 r2 r3 r4 r5 nw Gk Gr Bk pk hb hbn e5 hbnv e5v c0 c1 c2 c3 c4 c5;have HB:=HB1;clear HB1;have Bk:=Ck;clear Ck;clear Cr;go_wp2;go_ret;refine ar.f (fun h=>?_) HB.out;obtain⟨i,m,e1,e2,e3,e4⟩:=(h.2 k p HXp.out) HP2.out;obtain⟨_,rfl⟩:=HNR.inj e1 HJn.out (e2.trans HNn.symm);exact HAl.out e4
    ·obtain rfl:l5=k:=af
     go_wp2;go_ret;exact ar.t ⟨HQ1.out,fun j z hz=>HQ.out j z c_ hz⟩ HB.out

theorem fE {α:Type} {nm:α->ByteArray} {xs:List α} {t:ByteArray} (h:aP nm xs):hit nm xs t=true↔∃(i:Nat) (x:α),xs[i]?=some x/\nm x=t:=by
 constructor
 ·intro e;obtain⟨x,h1,h2⟩:=dq e;exact⟨_,x,h1,h2⟩
 ·rintro⟨i,x,h1,h2⟩;exact (cN h h1 h2).2
theorem lF {c:Cl} (h:cX c):rU c↔rT c:=by
 have hk:=h.2.1.2.2;have hv:=h.2.2.1.2.2;have hx:=h.2.2.2.1.2.2;constructor
 ·rintro⟨h1,h2⟩;refine⟨fun j v e=>?_,fun j x e=>?_⟩
  ·obtain⟨a,b⟩:=h1 j v e;refine⟨(fE hk).1 a,b.imp id ?_⟩;rintro⟨i,j',x,v',e1,e2,e3,e4,e5,e6,_⟩;exact⟨i,x,e1,e2,e5⟩
  ·obtain⟨a,b⟩:=h2 j x e;refine⟨(fE hk).1 a,b.imp id ?_⟩;rintro⟨i,j',x',v',e1,e2,e3,e4,e5,e6,e7,e8,e9⟩;obtain⟨_,rfl⟩:=hx.inj e1 e e2;exact⟨j',v',e3,e4,e6,e7,e8,e9⟩
 ·rintro⟨h1,h2⟩;refine⟨fun j v e=>?_,fun j x e=>?_⟩
  ·obtain⟨a,b⟩:=h1 j v e;refine⟨(fE hk).2 a,b.imp id ?_⟩;rintro⟨i,x,e1,e2,e3⟩;have hne:¬x.v=⟨#[]⟩:=fun q=>h.ne j v e (e3.symm.trans q);obtain⟨_,b2⟩:=h2 i x e1;rcases b2 with b2|⟨j',v',f1,f2,f3,f4,f5,f6⟩
   ·exact absurd b2 hne
   obtain⟨_,rfl⟩:=hv.inj f1 e (f2.trans e3);exact⟨i,j,x,v',e1,e2,e,rfl,e3,rfl,f4,f5,f6⟩
  ·obtain⟨a,b⟩:=h2 j x e;refine⟨(fE hk).2 a,b.imp id ?_⟩;rintro⟨j',v,e1,e2,e3,e4,e5,e6⟩;exact⟨j,j',x,v,e,rfl,e1,e2,rfl,e3,e4,e5,e6⟩
theorem j7 {c:Cl} (h:cX c) (hb:rT c):mH c↔mG c:=by
 have hn:=h.1.2.2;have hv:=h.2.2.1.2.2;have hx:=h.2.2.2.1.2.2;have one:(∀(j:Nat) z,c.vs[j]?=some z->PQ3 c z)↔∀(k:Nat) p,c.ps[k]?=some p->PSc c k p:=by
  constructor
  ·intro h3 k p hp j q hj hq;by_cases e1:q.d=⟨#[]⟩
   ·exact .inl e1
   by_cases e2:p.d=⟨#[]⟩
   ·exact .inr (.inl e2)
   by_cases e3:q.d=p.d
   ·exact .inr (.inr (.inl e3))
   refine .inr (.inr (.inr fun i t ht v hbd hs hin=>e3 ?_));obtain⟨i1,j1,x,f1,f2,f3,f4⟩:=hbd;have hxv:¬x.v=⟨#[]⟩:=fun z=>h.ne j1 v f3 (f4.trans z);have hvm:v.m=t:=by
    rcases (hb.2 i1 x f1).2 with z|⟨j2,v2,g1,g2,g3,_⟩
    ·exact absurd z hxv
    ·obtain⟨_,rfl⟩:=hv.inj g1 f3 (g2.trans f4.symm);rw[g3,f2]
   have ht0:¬v.m=⟨#[]⟩:=fun z=>by
    have h1:=(h.2.2.2.1.2.1 i1 x f1).1.1;rw[f2,<-hvm,z] at h1;exact absurd h1 aj
   have:=h3 j1 v f3 hs ht0;rw[hvm] at this;exact this j k q p hq hp e1 e2 ⟨i,ht⟩ hin
  ·intro h3 j v hj hs hm i1 i2 p q hp hq d1 d2 in1 in2;obtain⟨i4,x,f1,f2,f3⟩:=(hb.1 j v hj).2.resolve_left hm;have hbd:bJ c v.m v:=⟨i4,j,x,f1,f2,hj,f3.symm⟩;rcases Nat.lt_trichotomy i1 i2 with k|k|k
   ·obtain⟨r,hr⟩:=in1;rcases h3 i2 q hq i1 p k hp with z|z|z|z
    ·exact absurd z d1
    ·exact absurd z d2
    ·exact z
    ·exact absurd in2 (z r v.m hr v hbd hs)
   ·subst k;rw[hp] at hq;rw[Fq hq]
   ·obtain⟨r,hr⟩:=in2;rcases h3 i1 p hp i2 q k hq with z|z|z|z
    ·exact absurd z d2
    ·exact absurd z d1
    ·exact z.symm
    ·exact absurd in1 (z r v.m hr v hbd hs)
 constructor
 ·rintro⟨h1,h2,h3⟩;refine⟨fun k p hp=>⟨?_,?_,one.1 h3 k p hp⟩,h2⟩
  ·rcases (h1 k p hp).2 with z|⟨i,n,e1,e2,e3,e4⟩
   ·exact .inl z
   ·exact .inr ⟨i,n,e1,e2,e3.imp id Eq.symm⟩
  ·intro j t ht;refine⟨(fE hx).1 ((h1 k p hp).1 j t ht),?_⟩;rcases (h1 k p hp).2 with z|⟨i,n,e1,e2,e3,e4⟩
   ·exact .inl z
   ·obtain⟨v,f1,f2⟩:=e4 j t ht;exact .inr ⟨v,i,n,f1,e1,e2,f2⟩
 ·rintro⟨h1,h2⟩;refine⟨fun k p hp=>⟨fun j t ht=>(fE hx).2 ((h1 k p hp).2.1 j t ht).1,?_⟩,h2,one.2 (fun k p hp=>(h1 k p hp).2.2)⟩;rcases (h1 k p hp).1 with z|⟨i,n,e1,e2,e3⟩
  ·exact .inl z
  by_cases z:p.d=⟨#[]⟩
  ·exact .inl z
  refine .inr ⟨i,n,e1,e2,e3.imp id Eq.symm,fun j t ht=>?_⟩;obtain⟨v,i',n',f1,f2,f3,f4⟩:=((h1 k p hp).2.1 j t ht).2.resolve_left z;obtain⟨_,rfl⟩:=hn.inj f2 e1 (f3.trans e2.symm);exact⟨v,f1,f4⟩
theorem running {c:Cl} (h:cX c) (hp:mG c) (j:Nat) (p:Pd) (hj:c.ps[j]?=some p) (h2:p.p=2):(∃(i:Nat) (n:Nd),c.ns[i]?=some n/\n.n=p.d)/\∀(j:Nat) t,p.zs[j]?=some t->∃v,bJ c t v:=by
 have hd:¬p.d=⟨#[]⟩:=fun e=>by
  have h1:=(h.2.2.2.2.2.1 j p hj).2.2.2.2;rcases h1 with ⟨h3,_⟩|⟨_,h3⟩
  ·rw[h2] at h3;cases h3
  ·have h4:=h3.1;rw[e] at h4;exact absurd h4 aj
 obtain⟨a,b,_⟩:=hp.1 j p hj;obtain⟨i,n,e1,e2,_⟩:=a.resolve_left hd;refine⟨⟨i,n,e1,e2⟩,fun k t ht=>?_⟩;obtain⟨v,_,_,e3,_⟩:=(b k t ht).2.resolve_left hd;exact⟨v,e3⟩

theorem py (d:Ad) (c:Cl) (w:World) (hr:aJ w d c.raw):
  Calls Tryz.prog 85 #[.agg #[.slice d.a1 d.l1 d.c1,.slice d.a2 d.l2 d.c2,.slice d.a3 d.l3 d.c3,.slice d.a4 d.l4 d.c4,.slice d.a5 d.l5 d.c5,.int .i64 c.now]] w (ar (aB c) w):=by
 obtain⟨HR,HB⟩:=gK;clear hr;go_enter Tryz.func85,Tryz.ntmps85;go_wp2_with fail;refine (lp c.now _).mono ?_;rintro e w1 ⟨r,rfl,hi,hw⟩;have hb:Below (w.alloc (.cells (clv d c.now) 36)).heap.size (w.alloc (.cells (clv d c.now) 36)) w1:=by first|(rw[hw];exact Fw _ _)|(rw[<-hw];exact Fw _ _)
 clear hw;obtain⟨HA0,hbx⟩:=aL hb;have Bk:=aa HA0;replace HB:=upB HB hbx;clear hb hbx HA0;have HI1:=aa hi;clear hi;cases r
 ·exact qG
 obtain⟨k0,k1,k2,k3,k4,k5⟩:=cs6 Bk;go_wp2_with fail;refine (tj d c _ (HR.below HB.out)).mono ?_;rintro e w2 ⟨r,rfl,hi,hb⟩;clear k0 k1 k2 k3 k4 k5;replace Bk:=upK Bk hb;replace HB:=upB HB hb;clear hb;have HI2:=aa hi;clear hi;cases r
 ·exact qI
 have HOK:=aa (HI2.1 cr);obtain⟨k0,k1,k2,k3,k4,k5⟩:=cs6 Bk;go_wp2_with fail;refine (pC d c _ (HR.below HB.out) HOK.2.1.2.2 HOK.2.2.2.1.2.2 HOK.2.2.1.2.2).mono ?_;rintro e w3 ⟨r,rfl,hi,hb⟩;clear k0 k1 k2 k3 k4 k5;replace Bk:=upK Bk hb;replace HB:=upB HB hb;clear hb;have HI3:=aa hi;clear hi;cases r
 ·obtain⟨k0,k1,k2,k3,k4,k5⟩:=cs6 Bk;go_wp2;go_ret;exact ar.f (fun h=>by have:=HI3.2 ((lF HOK.out).1 h.2.2.1);cases this) HB.out
 have HBd:=aa (HI3.1 cr);obtain⟨k0,k1,k2,k3,k4,k5⟩:=cs6 Bk;go_wp2_with fail;refine (mZ d c _ (HR.below HB.out) HOK.1.2.2 HOK.2.2.2.1.2.2 HOK.2.2.1.2.2 HOK.ne (by have:=HOK.2.2.2.2.1;omega) HOK.EP).mono ?_;rintro e w4 ⟨r,rfl,hi,hb⟩;clear k0 k1 k2 k3 k4 k5;replace Bk:=upK Bk hb;replace HB:=upB HB hb;clear hb;have HI4:=aa hi;clear hi;cases r
 ·obtain⟨k0,k1,k2,k3,k4,k5⟩:=cs6 Bk;go_wp2;go_ret;exact ar.f (fun h=>by have:=HI4.2 ((j7 HOK.out HBd.out).1 h.2.2.2.1);cases this) HB.out
 have HPl:=aa (HI4.1 cr);obtain⟨k0,k1,k2,k3,k4,k5⟩:=cs6 Bk;go_wp2_with fail;refine (kH d c _ (HR.below HB.out) HOK.1.2.2 (by have:=HOK.2.2.1.1;omega)).mono ?_;rintro e w5 ⟨r,rfl,hi,hb⟩;clear k0 k1 k2 k3 k4 k5;replace Bk:=upK Bk hb;replace HB:=upB HB hb;clear hb;have HI5:=aa hi;clear hi;cases r
 ·exact yf
 obtain⟨k0,k1,k2,k3,k4,k5⟩:=cs6 Bk;go_wp2_with fail;refine (lR d c _ (HR.below HB.out) HOK.1.2.2 HOK.2.2.2.1.2.2 HOK.2.2.1.2.2 HOK.ne (running HOK.out HPl.out)).mono ?_;rintro e w6 ⟨r,rfl,hi,hb⟩;clear k0 k1 k2 k3 k4 k5;replace Bk:=upK Bk hb;replace HB:=upB HB hb;clear hb;have HI6:=aa hi;clear hi;cases r
 ·exact yd
 go_wp2;go_ret;exact ar.t ⟨HI1.1 cr,HOK.out,(lF HOK.out).2 HBd.out,(j7 HOK.out HBd.out).2 HPl.out,HI5.1 cr,HI6.1 cr⟩ HB.out

def EI (c:Cl) (t:ByteArray) (p:Int):Prop:=(8000<t.size/\p=2)\/(¬8000<t.size/\¬aB c/\p=1)\/(¬8000<t.size/\aB c/\p=0)

theorem uM (d:Ad) (c:Cl) (t:ByteArray) (w:World) (hr:aJ w d c.raw):
  Calls Tryz.prog 49 #[.agg #[.slice d.a1 d.l1 d.c1,.slice d.a2 d.l2 d.c2,.slice d.a3 d.l3 d.c3,.slice d.a4 d.l4 d.c4,.slice d.a5 d.l5 d.c5,.int .i64 c.now],.string t] w fun e w'=> ∃p:Int,e=.returned (.int .i64 p)/\EI c t p/\Below w.heap.size w w':=by
 obtain⟨HR,HB⟩:=gK;clear hr;by_cases hl:8000<t.size
 ·go_enter Tryz.func49,Tryz.ntmps49;go_wp2;go_ret;exact⟨2,rfl,.inl ⟨hl,rfl⟩,al _ _⟩
 go_enter Tryz.func49,Tryz.ntmps49;go_wp2_with fail;refine (py d c _ (HR.below (HB.trans ((al _ _).mono HB.size)))).mono ?_;rintro e w1 ⟨r,rfl,hi,hb⟩;obtain⟨HA0,hbx⟩:=aL hb;replace HB:=upB HB hbx;clear hb hbx HA0;have HI:=aa hi;clear hi;cases r
 ·go_wp2;go_ret;exact⟨1,rfl,.inr (.inl ⟨hl,fun h=>(by have:=HI.2 h;cases this),rfl⟩),HB.out⟩
 ·go_wp2;go_ret;exact⟨0,rfl,.inr (.inr ⟨hl,HI.1 cr,rfl⟩),HB.out⟩

end Rc
end Go.Proofs.YtpejepeekdjfoaaGreatDoor

namespace Go.Proofs.YtpejepeekdjfoaaGreatDoor
open Go.RowKit
namespace Ap

theorem D6 (n:ByteArray) (c:Int) (z:ByteArray) (k:ByteArray) (x:Bool) (m:ByteArray) (y:Bool) (a:Option Addr) (len cap:Nat) (zs:List ByteArray) (w:World) (hr:ay w a len cap zs) (hl:len<=8001):
  Calls Tryz.prog 52 #[.agg #[.string n,.int .i64 c,.string z,.string k,.bool x,.string m,.bool y,.slice a len cap]] w fun e w'=> ∃a' l p,e=.returned (.agg #[.string n,.int .i64 c,.string z,.string k,.bool x,.string m,.bool y,.slice a' l p])/\bT zs w a' l p w':=by
 have hown:(((w.alloc (.cells #[.string n,.int .i64 c,.string z,.string k,.bool x,.string m,.bool y,.slice a len cap] 99)).alloc (.cells #[.string ⟨#[]⟩,.int .i64 0,.string ⟨#[]⟩,.string ⟨#[]⟩,.bool false,.string ⟨#[]⟩,.bool false,.slice none 0 0] 99)).alloc (.cells #[] 9)).ownsRow (w.heap.size+1+1) 9 1 (.slice (some ⟨w.heap.size+1+1,0,none⟩) 0 0) 0 []:=⟨rfl,.inr ⟨w.heap.size+1+1,0,#[],rfl,Ft _,cS _ _ _ _,Ft _,by unfold maxLen;omega,rfl,rfl⟩⟩;have HOW:=aa hown;have hr3:=hr.below (bI w (.cells #[.string n,.int .i64 c,.string z,.string k,.bool x,.string m,.bool y,.slice a len cap] 99) (.cells #[.string ⟨#[]⟩,.int .i64 0,.string ⟨#[]⟩,.string ⟨#[]⟩,.bool false,.string ⟨#[]⟩,.bool false,.slice none 0 0] 99) (.cells #[] 9));have HZ:=aa hr.2.2.2.1;have hzl:=hr.1;have HR3:=aa hr3;clear hown hr3;obtain⟨i0,hi,hz0,hz1,hz2⟩:=info_parts fD;cases a with
 | none=>
  obtain rfl:zs=[]:=by
   rcases hr.2.2.2.2 with h|⟨b,o,e,_⟩
   ·exact h
   ·cases e
  obtain rfl:len=0:=by simpa using hzl.symm
  clear hr HOW HR3 hi hz0 hz1 hz2
  go_enter Tryz.func52,Tryz.ntmps52
  go_wp2
  exact bodyPost_ret (v:=.agg #[.string n,.int .i64 c,.string z,.string k,.bool x,.string m,.bool y,.slice (some ⟨w.heap.size+1+1,0,none⟩) 0 0]) (by simp[results,Tryz.results52,go_sem]) rfl ⟨_,_,_,rfl,⟨rfl,Ft _,by omega,fun j x hx=>by simp at hx,.inl rfl⟩,.inl rfl,bI _ _ _ _⟩
 | some ad=>
  have HN:=aa (sB HR3.out);clear hr
  go_enter Tryz.func52,Tryz.ntmps52
  go_wp2_with (first|(at_builtin;refine wpList_append_own _ rfl _ _ 55 rfl (w.heap.size+1+1) 9 i0 (.string ⟨#[]⟩) 1 16 Tryz.underlying55 hi hz0 hz1 hz2 rfl aj _ 0 _ rfl HOW.out ad len cap (zs.map FK) rfl ?c1 HN.out ?c3 ?c4 ?c5 aS ?_))
  case c1=>simpa using hzl
  case c3=>intro u hu;obtain⟨x,_,rfl⟩:=List.mem_map.1 hu;rfl
  case c4=>unfold maxLen;omega
  case c5=>omega
  intro v' w3 hown3 hgrow hv;have hb3:=(Fw (w.heap.size+1+1) _).grown hgrow aS (fun k hk=>by simp[GZ] at hk;omega);have g0:=(hb3.block w.heap.size af).trans (fF _ _ _ _);have g1:=(hb3.block (w.heap.size+1) af).trans (dC _ _ _ _)
  obtain⟨a',l,p,rfl,hq⟩:∃a' l p,v'=.slice a' l p/\(ay w3 a' l p zs/\(zs=[]\/∃g cur,a'=some ⟨g,0,none⟩/\w.heap.size+1+1<=g/\w3.heap[g]?=some (.cells cur 9 (0,0)))/\Below w.heap.size w w3):=by
   have hbw:=(bI w _ _ _).trans (hb3.mono af);have ho:=hown3;obtain⟨hl1,h⟩:=ho;have hl':=hzl
   rcases h with ⟨rfl,h0⟩|⟨g,cp,cur,rfl,hbg,hg,hnc,hcm,hsz,htk⟩
   ·obtain rfl:zs=[]:=GJ af;exact⟨none,0,0,rfl,⟨rfl,Ft _,by omega,fun j x hx=>by simp at hx,.inl rfl⟩,.inl rfl,hbw⟩
   ·refine⟨some ⟨g,0,none⟩,len,cp,rfl,⟨hl',hnc,by unfold maxLen at hcm;omega,HZ.out,.inr ⟨g,0,rfl,ae hg,fun j x hx=>?_⟩⟩,.inr ⟨g,cur,rfl,hbg,hg⟩,hbw⟩;rw[FX,aw hg]
    have hj:j<len:=by have:=(Fm.1 hx).1;omega
    have e1:(cur.toList.take (len*1))[j]?=some (.string x):=by rw[htk];simp[hx]
    rw[FR,if_pos af] at e1
    simpa using e1
  have HQ:=aa hq;have d0:=ck0 g0;have d1:=ck1 g0;have d2:=ck2 g0;have d3:=ck3 g0;have d4:=ck4 g0;have d5:=ck5 g0;have d6:=ck6 g0;have d7:=ck7 g0;have df7:=av g0 7;have e0:=ck0 g1;have ef0:=av g1 0;have e1:=ck1 g1;have ef1:=av g1 1;have e2:=ck2 g1;have ef2:=av g1 2;have e3:=ck3 g1;have ef3:=av g1 3;have e4:=ck4 g1;have ef4:=av g1 4;have e5:=ck5 g1;have ef5:=av g1 5;have e6:=ck6 g1;have ef6:=av g1 6;have e7:=ck7 g1;have ef7:=av g1 7;have HQ2:=aa (bT.set (bT.set (bT.set (bT.set (bT.set (bT.set (bT.set (bT.set (bT.set HQ.out (b:=w.heap.size) (i:=7) af af (v:=.slice a' l p)) (b:=w.heap.size+1) (i:=0) af af (v:=(.string n))) (b:=w.heap.size+1) (i:=1) af af (v:=(.int .i64 c))) (b:=w.heap.size+1) (i:=2) af af (v:=(.string z))) (b:=w.heap.size+1) (i:=3) af af (v:=(.string k))) (b:=w.heap.size+1) (i:=4) af af (v:=(.bool x))) (b:=w.heap.size+1) (i:=5) af af (v:=(.string m))) (b:=w.heap.size+1) (i:=6) af af (v:=(.bool y))) (b:=w.heap.size+1) (i:=7) af af (v:=(.slice a' l p)));clear hown3 hgrow hv hb3 g0 g1 hq;go_wp2_with fail;refine bodyPost_ret (v:=.agg #[.string n,.int .i64 c,.string z,.string k,.bool x,.string m,.bool y,.slice a' l p]) (by simp[results,Tryz.results52,go_sem, *]) rfl ⟨a',l,p,rfl,HQ2.1,?_,HQ2.2.2⟩
  rcases HQ2.2.1 with h|⟨g,cur,h1,h2,h3⟩
  ·exact .inl h
  ·exact .inr ⟨g,cur,h1,by omega,h3⟩

end Ap
end Go.Proofs.YtpejepeekdjfoaaGreatDoor

namespace Go.Proofs.YtpejepeekdjfoaaGreatDoor
open Go.RowKit
namespace Rc
open Mk

def Fg (Is:Co->Prop) (w:World) (e:Ending) (w':World):Prop:=∃g o,e=.returned (.agg #[.slice g.a1 g.l1 g.c1,.slice g.a2 g.l2 g.c2,.slice g.a3 g.l3 g.c3,.slice g.a4 g.l4 g.c4,.slice g.a5 g.l5 g.c5,.int .i64 o.c.now,.string o.n,.int .i64 o.p])/\Is o/\aJ w' g o.c.raw/\Below w.heap.size w w'

theorem nh {w:World} {g:Nat} {cs:Array Value} {T:TypeId} {f:Nat×Nat} (h:w.heap[g]?=some (.cells cs T f)):Below w.heap.size w (w.setRow g cs):=by
 refine⟨rfl,rfl,rfl,by simp,fun k hk=>?_⟩;by_cases e:k=g
 ·subst e;rw[setRow_heap w k cs cs T f h,h]
 ·exact setRow_other w g k cs e

theorem du {w:World} (t ty e:TypeId) (i:TypeInfo) (ht:Tryz.prog.underlying t=some (.slice e)) (hi:Tryz.prog.info? e=some i) (g cap:Nat):
  (GC #[t,t] ty #[.slice (some ⟨g,0,none⟩) 0 0,.slice none 0 cap]).run Tryz.prog w=.ok (.slice (some ⟨g,0,none⟩) 0 0) w:=by
 simp[GC,run_underlying ht,sizeOf,typeInfo,hi,Builtin.lenOf,Builtin.firstCells,storeCells]

theorem cA.here {w:World} {g l c:Nat} {zs:List ByteArray} {S S':Nat->Prop} (h:cA w (some ⟨g,0,none⟩) l c zs S) (hS:S' g):cA w (some ⟨g,0,none⟩) l c zs S':=
 ⟨h.1,h.2.imp id fun ⟨g',cur,e,_,hg⟩=>by cases e;exact⟨g,cur,rfl,hS,hg⟩⟩

theorem ix {w:World} {g0:Nat} {va:Option Addr} {len cap:Nat} {zs:List ByteArray} (ty:TypeId) (hg:w.heap[g0]?=some (.cells #[] 9 (0,0))) (hr:ay w va len cap zs) (hl:len<=8001):
  ∃a l c w',(GC #[55,55] ty #[.slice (some ⟨g0,0,none⟩) 0 0,.slice va len cap]).run Tryz.prog w=.ok (.slice a l c) w'/\cA w' a l c zs (fun k=>k=g0\/w.heap.size<=k)/\Below w.heap.size w w':=by
 obtain⟨i0,hi,hz0,hz1,hz2⟩:=info_parts fD;have hzl:=hr.1;rcases Nat.eq_zero_or_pos len with h0|h0
 ·subst h0;obtain rfl:zs=[]:=GJ hzl;cases va with
  | none=>exact⟨_,_,_,_,du 55 ty 9 i0 Tryz.underlying55 hi g0 cap,⟨⟨rfl,Ft _,by omega,fun j x hx=>by simp at hx,.inl rfl⟩,.inl rfl⟩,Fw _ _⟩
  | some ad=>
   have h:=run_append_room (P:=Tryz.prog) w 55 ty 9 i0 Tryz.underlying55 hi g0 0 0 #[] hg ad 0 cap [] aS (fun j u hu=>by simp at hu) (fun u hu=>by simp at hu) af aS;exact⟨_,_,_,_,h,⟨⟨rfl,Ft _,by omega,fun j x hx=>by simp at hx,.inl rfl⟩,.inl rfl⟩,by simpa using nh hg⟩
 ·cases va with
  | none=>
   rcases hr.2.2.2.2 with h|⟨b,o,e,_⟩
   ·subst h;simp at hzl;omega
   ·cases e
  | some ad=>
   have h:=run_append_grow (P:=Tryz.prog) w 55 ty 9 i0 (.string ⟨#[]⟩) Tryz.underlying55 hi hz0 ⟨g0,0,none⟩ 0 0 [] aS (fun j u hu=>by simp at hu) ad len cap (zs.map FK) (by rw[hz1];simpa using hzl) (Ap.sB hr) af af (growslice_fits af gI);obtain⟨v',w',hr2,h2,h3,h4⟩:=run_append_own (P:=Tryz.prog) w (base:=0) 55 ty 9 i0 (.string ⟨#[]⟩) 1 16 Tryz.underlying55 hi hz0 hz1 hz2 rfl aj (.slice (some ⟨g0,0,none⟩) 0 0) 0 [] ⟨rfl,.inr ⟨g0,0,#[],rfl,Nat.zero_le _,hg,Ft _,by unfold maxLen;omega,rfl,rfl⟩⟩ ad len cap (zs.map FK) (by simpa using hzl) (Ap.sB hr) (fun u hu=>by obtain⟨x,_,rfl⟩:=List.mem_map.1 hu;rfl) cD af (Nat.zero_le _);rw[h] at hr2
   cases hr2
   rw[FX,List.nil_append] at h2;obtain⟨a',c',e,hT⟩:=cA.j8 h2 hr.2.2.2.1;have hbel:Below w.heap.size w (w.drew.alloc (.cells (([]:List Value).toArray++(zs.map FK).toArray++G6 (FK ⟨#[]⟩).cells (grownCap w (0+len) 0 9 - (0+len))) 9)):=⟨rfl,rfl,rfl,by simp,fun k hk=>heap_alloc_old w.drew _ (by simpa using hk)⟩;simp only[FX] at e h hbel ⊢
   cases e
   exact⟨_,_,_,_,h,hT.here (.inr (Ft _)),hbel⟩
theorem gz {ops:Array Oper} {rest:List Oper} {o:Oper} {a:Act} {w:World} {Q:Exit->Act->World->Prop} (hgd:o.guard=none) (s x:Operand) (ho:o.op=.call { callee:=.builtin .append,args:=#[s,x],argTypes:=#[55,55] }) (g0:Nat) (hs:a.eval s=.slice (some ⟨g0,0,none⟩) 0 0) (hg:w.heap[g0]?=some (.cells #[] 9 (0,0)))
  (va:Option Addr) (len cap:Nat) (hx:a.eval x=.slice va len cap) (zs:List ByteArray) (hr:ay w va len cap zs) (hl:len<=8001)
  (h:∀a' l c w',cA w' a' l c zs (fun k=>k=g0\/w.heap.size<=k)->Below w.heap.size w w'->wpList Tryz.prog ops Q rest (a.put o.dst (.slice a' l c)) w'):wpList Tryz.prog ops Q (o ::rest) a w:=by
 refine wpList_plain hgd fun K hK=>?_;obtain⟨a',l,c,w',hrun,h1,h2⟩:=ix o.type hg hr hl;unfold Oper.wp execOp;simp only[ho,resolve,invoke,builtin,Sem.run_bind,Sem.run_pure,Result.andThen_ok,List.map_toArray,List.map_cons,List.map_nil,hs,hx,hrun];exact hK _ _ (h a' l c w' h1 h2)

theorem ji {w:World} {g0:Nat} {va:Option Addr} {len cap m bytes:Nat} {rs:List (List Fv)} (t ty T:TypeId) (i:TypeInfo) (z:Value) (ht:Tryz.prog.underlying t=some (.slice T)) (hi:Tryz.prog.info? T=some i) (hz:i.zero=some z) (hsize:i.size=m) (hby:i.bytes=bytes) (hzs:z.cells.size=m) (hsz:0<m) (hT:¬T=9) (hg:w.heap[g0]?=some (.cells #[] T (0,0)))
  (hr:aN w va len cap m rs) (hm:∀(j:Nat) r,rs[j]?=some r->r.length=m/\fq r) (hl:len<=8) (hb8:bytes<=1000):
  ∃a c w',(GC #[t,t] ty #[.slice (some ⟨g0,0,none⟩) 0 0,.slice va len cap]).run Tryz.prog w=.ok (.slice a len c) w'/\az w' a len c m T rs (fun k=>k=g0\/w.heap.size<=k)/\Below w.heap.size w w':=by
 rcases Nat.eq_zero_or_pos len with h0|h0
 ·subst h0;obtain rfl:rs=[]:=GJ hr.1;cases va with
  | none=>exact⟨_,_,_,du t ty T i ht hi g0 cap,az.nil _ _ _ _ _ af,Fw _ _⟩
  | some ad=>
   have h:=run_append_room (P:=Tryz.prog) w t ty T i ht hi g0 0 0 #[] hg ad 0 cap [] aS (fun j u hu=>by simp at hu) (fun u hu=>by simp at hu) af aS;exact⟨_,_,_,h,az.nil _ _ _ _ _ af,by simpa using nh hg⟩
 ·have hlen:((rs.map dM).flatten).length=len*m:=by rw[dr (g_ fun j r hj=>(hm j r hj).1),FU,hr.1]
  obtain⟨ad,rfl,hnews⟩:∃ad,va=some ad/\∀(j:Nat) u,((rs.map dM).flatten)[j]?=some u->w.cell? (ad.add j)=some u:=by
   rcases hr.2.2.2 with h|⟨b,o,rfl,_⟩
   ·subst h;have:=hr.1;simp at this;omega
   ·exact⟨_,rfl,lB hr hm⟩
  have h:=run_append_grow (P:=Tryz.prog) w t ty T i z ht hi hz ⟨g0,0,none⟩ 0 0 [] aS (fun j u hu=>by simp at hu) ad len cap (rs.map dM).flatten (by rw[hsize];exact hlen) hnews af af (growslice_fits af (by rw[hby];have:(0+len)*bytes<=8*1000:=Nat.mul_le_mul af hb8;omega));obtain⟨v',w',hr2,h2,h3,h4⟩:=run_append_own (P:=Tryz.prog) w (base:=0) t ty T i z m bytes ht hi hz hsize hby hzs hsz (.slice (some ⟨g0,0,none⟩) 0 0) 0 [] ⟨by simp,.inr ⟨g0,0,#[],rfl,Nat.zero_le _,hg,Ft _,by unfold maxLen;omega,by simp,by simp⟩⟩ ad len cap (rs.map dM).flatten hlen hnews (fG hr hm w (fun _=>True)).one cD (by have:(0+len)*bytes<=8*1000:=Nat.mul_le_mul af hb8;omega) (Nat.zero_le _);rw[h] at hr2;cases hr2;rw[FX,List.nil_append] at h2;obtain⟨a',c',e,hR⟩:=(fG hr hm _ (fun k=>k=g0\/w.heap.size<=k)).own h2 hr.1.symm hT (fun g hg=>by simp[GZ] at hg;exact .inr af);have hbel:Below w.heap.size w (w.drew.alloc (.cells (([]:List Value).toArray++((rs.map dM).flatten).toArray++G6 z.cells (grownCap w (0+len) 0 T - (0+len))) T)):=⟨rfl,rfl,rfl,by simp,fun k hk=>heap_alloc_old w.drew _ (by simpa using hk)⟩;rw[hr.1] at e hR;simp only[FX] at e h hbel hR ⊢;cases e;exact⟨_,_,_,h,hR,hbel⟩
theorem mM {o:Oper} {a:Act} {w:World} {K:Act->World->Prop} {Q:Exit->Act->World->Prop} {g0:Nat} {va:Option Addr} {len cap m bytes:Nat} {rs:List (List Fv)} (s x:Operand) (t T:TypeId) (ho:o.op=.call { callee:=.builtin .append,args:=#[s,x],argTypes:=#[t,t] }) (i:TypeInfo) (z:Value) (ht:Tryz.prog.underlying t=some (.slice T)) (hi:Tryz.prog.info? T=some i) (hz:i.zero=some z) (hsize:i.size=m) (hby:i.bytes=bytes) (hzs:z.cells.size=m) (hsz:0<m) (hT:¬T=9) (hs:a.eval s=.slice (some ⟨g0,0,none⟩) 0 0) (hg:w.heap[g0]?=some (.cells #[] T (0,0)))
  (hx:a.eval x=.slice va len cap) (hr:aN w va len cap m rs) (hm:∀(j:Nat) r,rs[j]?=some r->r.length=m/\fq r) (hl:len<=8) (hb8:bytes<=1000)
  (h:∀a' c' w',az w' a' len c' m T rs (fun k=>k=g0\/w.heap.size<=k)->Below w.heap.size w w'->K (a.put o.dst (.slice a' len c')) w'):o.wp Tryz.prog a w K Q:=by
 obtain⟨a',c',w',hrun,h1,h2⟩:=ji t o.type T i z ht hi hz hsize hby hzs hsz hT hg hr hm hl hb8;unfold Oper.wp execOp;simp only[ho,resolve,invoke,builtin,Sem.run_bind,Sem.run_pure,Result.andThen_ok,List.map_toArray,List.map_cons,List.map_nil,hs,hx,hrun];exact h a' c' w' h1 h2

end Rc
end Go.Proofs.YtpejepeekdjfoaaGreatDoor
