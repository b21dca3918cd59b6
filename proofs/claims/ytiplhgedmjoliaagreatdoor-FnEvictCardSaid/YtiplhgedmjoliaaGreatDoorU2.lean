import Derived.Test.YtiplhgedmjoliaaGreatDoorU1
import Derived.WalkKit
import Derived.LaidEql
import Derived.Stop.Asserts
import Derived.RowKitTokens
import Derived.RegionTactic
import Derived.Lib.Overlaps
import Derived.Lib.SliceRun
import Derived.Lib.AppendZerosOnto
import Derived.Deep.RegionLaw
import Derived.Shelf.RegionOpenPlain
import Derived.Test.YtiplhgedmjoliaaGreatDoorRows
import Derived.Maps.OwnSet
import Derived.DeepKeys4
import Derived.WideKeyEntry
import Derived.OpenShut
import Derived.Deep.AppendLies
import Derived.Lib.Bytealg
import Derived.RangeFuncNested
import Derived.RangeFuncBound
import Derived.RangeFuncCalls
import Derived.RangeFuncLeaves
import Derived.Shelf.Abstract
import Derived.Shelf.RegionOpen
import Derived.OwnWalkIn
import Derived.TacticsInMore
import Derived.LoopNIn
import Derived.LoopIn
import Derived.ScopeJumps
import Derived.WalkMore
/-
 Whether pods are where they may be, as the specification asks it.
-/
set_option maxRecDepth 100000
set_option maxHeartbeats 12800000
open Bool renaming false→G_,true→Hb
open Go.Ending renaming returned→Ha
open Go.IntKind renaming i64→G6
open Go.Obj renaming cells→G7
open Go.Value renaming string→I,slice→J,int→GZ,bool→G8,agg→Hc,pointer→Hf,tuple→Hg
open Option renaming none→U,some→F_
open Or renaming inr→Hd,inl→He
open And renaming intro→Fk
open Array renaming getElem?_push_size→Fs, getD_eq_getD_getElem?→FD, getElem?_eq_some_iff→FJ
open Bool renaming and_eq_true→FU, eq_false_or_eq_true→Gq
open Go.Addr renaming add_lit→FC
open Go.Calls renaming quiet_of_same→FP
open Go.Op renaming bytesLess→Fx
open Go.Region renaming wanted→F5, binds→F9, ready→Ga
open Go.RowKit.Below renaming heap_setCell→Fl, refl→Ft, heap_alloc→Fy
open Go.Value renaming string→Fz, ownBlock→FX
open Go.World renaming setCell→Gb, cell?→Gc, cell?_of_block→Gf, ownsRow_nil→Gj
open List renaming getElem?_eq_some_iff→Fm, lookup→Fo, getElem?_eq_getElem→Fu, length_map→FB, setIfInBounds_toArray→FF, getElem?_map→FG, forall_mem_cons→FH, getElem?_append_left→FI, mem_of_getElem?→FK, set_cons_zero→FL, set_cons_succ→FM, drop_eq_nil_of_le→FN, getElem?_take→FQ, take_of_length_le→FT, getElem?_of_mem→FV, length_take→FW, take_add_one→FZ, eq_nil_of_length_eq_zero→F6, foldr→F7, getElem?_drop→F8, not_mem_nil→Gl, range→Gm, filter_append→Gw, append_assoc→GD, length_cons→GY
open Nat renaming le_refl→Fq, lt_of_lt_of_le→Fw, le_trans→FA, zero_add→FE, le_succ→FO, zero_le→FY, eq_zero_or_pos→GJ
open Option renaming map_eq_some_iff→FR
open Option.some renaming inj→Fp
open Prod.mk renaming injEq→GU
namespace Go.Proofs.YtiplhgedmjoliaaGreatDoor
variable {p:Prop}
namespace Mk
end Mk
open Go.RowKit Mk Go.Extern.Stop Go.Stop Go.Extern Go.ChangeMaps Go.MapKept Go.WideShapes Go.Shelf Go
open Go.WideElems (Fit rd rg pl)
open Go.WideMaps (KeyLaw)
open Go.Maps (Keyed)
variable {α:Type} {B b base g g0 j m:Nat} {H:Nat->Nat->Nat} {P:Program} {Q:Exit->Act->World->Prop} {S:Nat->Prop} {T:TypeId} {W w w':World} {a0:Act} {back:Option Oper} {cs:Array Value} {d:Option Tmp} {front rest:List Oper} {i:TypeInfo} {listed:Array Bool} {o:Oper} {ops:Array Oper} {sp:Tmp} {t:ByteArray} {u v0 v1 v2 v3 v4 v5:Value} {va:Option Addr} {vb:Option Nat} {vss:List (List Value)} {zs:List ByteArray} {nm:α->ByteArray} {xs:List α}
theorem bw(h:p:=by unfold maxLen;omega):p:=h
theorem dh(h:p:=by simp[Value.oneCell']):p:=h
theorem h_(h:p:=by have:=(Fm.1 hy).1;omega):p:=h
theorem dy(h:p:=by simpa using hown5):p:=h
theorem et(h:p:=by simpa using hp):p:=h
theorem hY(h:p:=by rw[dF HVA.out,hvl]):p:=h
theorem ll(h:p:=by rw[FB,FW];omega):p:=h
theorem lk(h:p:=by rw[FB,List.length_drop];omega):p:=h
theorem jm(h:p:=by simp[Gb];omega):p:=h
theorem rI(h:p:=by rw[<-List.flatten_append,List.take_append_drop]):p:=h
theorem lg(h:p:=by rw[FB];omega):p:=h
theorem cQ(h:p:=by rfl):p:=h
theorem nv(h:p:=by rw[FW];omega):p:=h
theorem la(h:p:=by simp[Gb]):p:=h
theorem k_(h:p:=by simpa using ho.1):p:=h
theorem A1(h:p:=by have:=Au (by omega) (by omega) e2;exact⟨this.1.symm,this.2.symm⟩):p:=h
theorem A0(h:p:=by have h1:=(Fm.1 ht).1;have h2:=HVL.out;omega):p:=h
theorem aO(h:p:=by
 go_simp;refine hK _ _ (Ft _ _) ?_;with_reducible rfl):p:=h
theorem EX(h:p:=by
 have hcase:(∃v,bh c t v)\/(∀v,¬bh c t v):=by
  by_cases h:∃v,bh c t v
  ·exact He h
  ·exact Hd (λv hv=>h ⟨v,hv⟩)
 rcases hcase with ⟨v,hbd⟩|hbd
 ·obtain⟨j3,hj3⟩:=hbd.at;have hl3':j3<l3:=by have h1:=(Fm.1 hj3).1;omega
  obtain⟨b3,o3,v',rfl,hb3,hv',hat⟩:=bM HR.v hl3';rw[hj3] at hv';obtain rfl:=Fp hv';obtain⟨xa,xl,xc,hvr,z0,z2,z3,z5,d0,d1,d2,d3,d4,d5,d6,d7⟩:=aP hat;have HJ:=ae hj3;have HD:=ae hbd;have HC2:=ae d2;have HB3:=ae hb3;have hj31:decide ((j3:Int)<0)=G_:=aH
  clear hv' hat hvr z0 z2 z3 z5 d0 d1 d2 d3 d4 d5 d6 d7 hj3 hbd hb3;obtain⟨Gk,Gr,HW⟩:=bJ;obtain⟨k0,k1,k2,k3,k4,k5⟩:=sl6 Gk;have r3:=λq:Wd wr=>q.slot (o:=3) Gr.out rfl;obtain⟨tw,hne0⟩:=jt;have HC0:=ae (λq:Wd wr=>e_ ⟨(F_ ⟨b1,o1,U⟩),l1,y1,a2,l2,y2,(F_ ⟨b3,o3,U⟩),l3,y3,a4,l4,y4,(F_ ⟨b,o,U⟩),l5,y5⟩ c t q.w (HR.below (HW.trans (q.b.mono HW.size))) HX.out HV.out HNE.out HJ.out HD.out);go_wp2_with fail;refine ag au au ?_;repeat (go_big_quiet_step (first|(go_at_call 98;exact Calls.wide (HC0.out _))|fail))
  refine wpQuiet_nil ?_;rintro _ ⟨q1,rfl⟩;have HB1:=upB HW q1.b;obtain⟨Ck,Cr⟩:=cf;clear hne0 HW HB HC0 k0 k1 k2 k3 k4 k5 r3 tw Gk Gr Bk Br pr3;have HB:=HB1;clear HB1;have Bk:=Ck;clear Ck;have Br:=Cr;clear Cr;obtain⟨hc1,hb1,HBW1⟩:=rM;clear hc hb HBW;by_cases hg:∃(i:Nat) (x:Xd),c.xs[i]?=F_ x/\x.n=t;rotate_left
  ·have HG:=ae hg;clear hg;obtain⟨Gk,Gr,HW⟩:=bJ;obtain⟨k0,k1,k2,k3,k4,k5⟩:=sl6 Gk;obtain⟨r0,r1,r2,r3,r4,r5⟩:=sl6 Gr;obtain⟨tw,hne0⟩:=j8;have HC0:=ae (λq:Wd q1.w=>eg ⟨(F_ ⟨b1,o1,U⟩),l1,y1,a2,l2,y2,(F_ ⟨b3,o3,U⟩),l3,y3,a4,l4,y4,(F_ ⟨b,o,U⟩),l5,y5⟩ c.now c.xs t q.w (HR.x.below (HW.trans (q.b.mono HW.size))) (λi x h1 h2=>HG.out ⟨i,x,h1,h2⟩));exact pL
  obtain⟨i4,x4,g1,g2⟩:=hg;obtain⟨HG1,HG2,hi41⟩:=lQ;clear g1 g2;have hbv:=Fw HB3.out HB.size;have v2:=(aj HB.out HB3.out).trans HC2.out;have hbn:=Fw HBn.out HB.size;have n1:=(aj HB.out HBn.out).trans HCn.out;by_cases hz:v.z=n.z
  ·have hzq:=aW hz;have HZ:=ae hz;clear hz;obtain⟨Gk,Gr,HW⟩:=bJ;obtain⟨k0,k1,k2,k3,k4,k5⟩:=sl6 Gk;obtain⟨r0,r1,r2,r3,r4,r5⟩:=sl6 Gr;obtain⟨tw,vw,nw,hne0,HC0⟩:=BE;go_wp2_with fail;refine ag au au ?_;repeat (go_big_quiet_step (first|(go_at_call 95;exact Calls.wide (HC0.out _))|fail))
   refine wpQuiet_nil ?_;rintro _ ⟨q2,rfl⟩;obtain⟨HB2,Ck⟩:=dU;have Cr:=upK Gr q2.b;clear hne0 HW HB HC0 k0 k1 k2 k3 k4 k5 r0 r1 r2 r3 r4 r5 tw vw nw Gk Gr Bk Br hc1 hb1 hbv v2 hbn n1;have HB:=HB2;clear HB2;have Bk:=Ck;clear Ck;have Br:=Cr;clear Cr;clear hzq;go_wp2_with fail;refine⟨⟨kq+1,by omega,by go_num,λj s hj hs=>?_,HBW1.trans (q2.b.mono HBW1.size)⟩,by simp[intOf];omega⟩;by_cases e:j=kq
   ·subst e;rw[HXt.out] at hs;obtain rfl:=Fp hs;exact⟨⟨i4,x4,HG1.out,HG2.out⟩,Hd ⟨v,j1,n,HD.out,HJn.out,HNn.out,HZ.out⟩⟩
   ·exact HQ2.out j s af hs
  ·have hzq:=bH hz;have HZ:=ae hz;clear hz;obtain⟨Gk,Gr,HW⟩:=bJ;obtain⟨k0,k1,k2,k3,k4,k5⟩:=sl6 Gk;obtain⟨r0,r1,r2,r3,r4,r5⟩:=sl6 Gr;obtain⟨tw,vw,nw,hne0,HC0⟩:=BE;go_wp2_with fail;refine ag au au ?_;repeat (go_big_quiet_step (first|(go_at_call 95;exact Calls.wide (HC0.out _))|fail))
   refine wpQuiet_nil ?_;rintro _ ⟨q2,rfl⟩;obtain⟨HB2,Ck⟩:=dU;have Cr:=upK Gr q2.b;clear hne0 HW HB HC0 k0 k1 k2 k3 k4 k5 r0 r1 r2 r3 r4 r5 tw vw nw Gk Gr Bk Br hc1 hb1 hbv v2 hbn n1;have HB:=HB2;clear HB2;have Bk:=Ck;clear Ck;have Br:=Cr;clear Cr;go_wp2;go_ret;refine av.f (λh=>?_) HB.out;have h9:=(h.1 k p HXp.out).2.1 kq t HXt.out;rcases h9.2 with h2|⟨v',i,n',h2,h3,h4,h5⟩
   ·exact HEm.out h2
   ·obtain rfl:=bh.inj HX.out HV.out HD.out h2;obtain⟨_,rfl⟩:=HNR.inj h3 HJn.out (h4.trans HNn.symm);exact HZ.out h5
 ·have HD:=ae hbd;clear hbd;obtain⟨Gk,Gr,HW⟩:=bJ;obtain⟨k0,k1,k2,k3,k4,k5⟩:=sl6 Gk;have r3:=λq:Wd wr=>q.slot (o:=3) Gr.out rfl;obtain⟨tw,hne0⟩:=jt;have HC0:=ae (λq:Wd wr=>fl ⟨(F_ ⟨b1,o1,U⟩),l1,y1,a2,l2,y2,a3,l3,y3,a4,l4,y4,(F_ ⟨b,o,U⟩),l5,y5⟩ c t q.w (HR.below (HW.trans (q.b.mono HW.size))) HX.out HV.out HNE.out HD.out);go_wp2_with fail;refine ag au au ?_;repeat (go_big_quiet_step (first|(go_at_call 98;exact Calls.wide (HC0.out _))|fail))
  refine wpQuiet_nil ?_;rintro _ ⟨q1,rfl⟩;have HB1:=upB HW q1.b;obtain⟨Ck,Cr⟩:=cf;clear hne0 HW HB HC0 k0 k1 k2 k3 k4 k5 r3 tw Gk Gr Bk Br pr3;have HB:=HB1;clear HB1;have Bk:=Ck;clear Ck;have Br:=Cr;clear Cr;obtain⟨hc1,hb1,HBW1⟩:=rM;clear hc hb HBW;by_cases hg:∃(i:Nat) (x:Xd),c.xs[i]?=F_ x/\x.n=t;rotate_left
  ·have HG:=ae hg;clear hg;obtain⟨Gk,Gr,HW⟩:=bJ;obtain⟨k0,k1,k2,k3,k4,k5⟩:=sl6 Gk;obtain⟨r0,r1,r2,r3,r4,r5⟩:=sl6 Gr;obtain⟨tw,hne0⟩:=j8;have HC0:=ae (λq:Wd q1.w=>eg ⟨(F_ ⟨b1,o1,U⟩),l1,y1,a2,l2,y2,a3,l3,y3,a4,l4,y4,(F_ ⟨b,o,U⟩),l5,y5⟩ c.now c.xs t q.w (HR.x.below (HW.trans (q.b.mono HW.size))) (λi x h1 h2=>HG.out ⟨i,x,h1,h2⟩));exact pL
  obtain⟨i4,x4,g1,g2⟩:=hg;obtain⟨HG1,HG2,hi41⟩:=lQ;clear g1 g2;obtain⟨Gk,Gr,HW⟩:=bJ;obtain⟨k0,k1,k2,k3,k4,k5⟩:=sl6 Gk;obtain⟨r0,r1,r2,r3,r4,r5⟩:=sl6 Gr;obtain⟨tw,hne0⟩:=j8;have HC0:=ae (λq:Wd q1.w=>ei ⟨(F_ ⟨b1,o1,U⟩),l1,y1,a2,l2,y2,a3,l3,y3,a4,l4,y4,(F_ ⟨b,o,U⟩),l5,y5⟩ c.now c.xs t q.w (HR.x.below (HW.trans (q.b.mono HW.size))) HX.out HG1.out HG2.out);go_wp2_with fail;refine ag au au ?_;repeat (go_big_quiet_step (first|(go_at_call 95;exact Calls.wide (HC0.out _))|fail))
  refine wpQuiet_nil ?_;rintro _ ⟨q2,rfl⟩;obtain⟨HB2,Ck⟩:=dU;have Cr:=upK Gr q2.b;clear hne0 HW HB HC0 k0 k1 k2 k3 k4 k5 r0 r1 r2 r3 r4 r5 tw Gk Gr Bk Br hc1 hb1;have HB:=HB2;clear HB2;have Bk:=Ck;clear Ck;have Br:=Cr;clear Cr;go_wp2;go_ret;refine av.f (λh=>?_) HB.out;have h9:=(h.1 k p HXp.out).2.1 kq t HXt.out;rcases h9.2 with h2|⟨v',i,n',h2,_⟩
  ·exact HEm.out h2
  ·exact HD.out v' h2):p:=h
theorem EW(h:p:=by
 obtain rfl:vl=kq:=af
 have HQb:Hid (PSb c p):=λj t ht=>HQ2.out j t A0 ht;clear HQ2;have TV2:=ae (TV.below HBW.out);have KV2:=Bk;have GV2:=Br;have BV2:=HB;clear KV GV BV TV Bk Br HB HBW;obtain⟨W2,hW⟩:∃W2,W2=wr:=⟨_,rfl⟩;rw[<-hW] at KV2 GV2 BV2 TV2;go_wp2;clear pr3;rw[<-hW];clear hW;go_loopw [8] (λi wr=> ∃kz:Nat,kz<=k/\i=GZ G6 kz/\Hid (∀(j:Nat) q,j<kz->c.ps[j]?=F_ q->lL c q p)/\Hid (Below W2.heap.size W2 wr)) (λi _=>k - (intOf i).toNat);case atStart=>exact⟨0,by omega,rfl,λ_ _ h=>absurd h af,Ft _ _⟩
 case round=>
  obtain⟨kz,hkz,rfl,HQ3,HBW⟩:=hrel;have HB:=ae (BV2.trans (HBW.mono BV2.size));have Bk:=upK KV2 HBW.out;have Br:=upK GV2 HBW.out;have HTp:=ae (TV2.below HBW.out);by_cases hlt3:kz<k
  ·obtain⟨b',o',pq,e',hb',hqq,hatq⟩:=bN (HR.p.below HB.out) (show kz<l5 by omega);cases e';obtain⟨qa,ql,qc,hqr,z0,z2,z4,d0,d1,d2,d3,d4,d5⟩:=aR hatq;have HXq:=ae hqq;have HTq:=ae hqr;clear hatq hqq hqr z0 z2 z4;by_cases hpr:lL c pq p
   ·have HPr:=ae hpr;clear hpr;obtain⟨Gk,Gr,HW⟩:=bJ;obtain⟨k0,k1,k2,k3,k4,k5⟩:=sl6 Gk;obtain⟨r0,r1,r2,r3,r4,r5⟩:=sl6 Gr;obtain⟨q0,q1,q2,q3,q4,q5,hne0⟩:=z8;have HC0:=ae (λqw:Wd wr=>(fW ⟨(F_ ⟨b1,o1,U⟩),l1,y1,a2,l2,y2,a3,l3,y3,a4,l4,y4,(F_ ⟨b,o,U⟩),l5,y5⟩ c pq p qa ql qc va vl vc qw.w (HR.below (HW.trans (qw.b.mono HW.size))) HX.out HV.out HNE.out (HTq.below qw.b) (HTp.below qw.b)).mono (λ_ _ h=>av.yes h HPr.out));exact xb
   ·have HPr:=ae hpr;clear hpr;obtain⟨Gk,Gr,HW⟩:=bJ;obtain⟨k0,k1,k2,k3,k4,k5⟩:=sl6 Gk;obtain⟨r0,r1,r2,r3,r4,r5⟩:=sl6 Gr;obtain⟨q0,q1,q2,q3,q4,q5,hne0⟩:=z8;have HC0:=ae (λqw:Wd wr=>(fW ⟨(F_ ⟨b1,o1,U⟩),l1,y1,a2,l2,y2,a3,l3,y3,a4,l4,y4,(F_ ⟨b,o,U⟩),l5,y5⟩ c pq p qa ql qc va vl vc qw.w (HR.below (HW.trans (qw.b.mono HW.size))) HX.out HV.out HNE.out (HTq.below qw.b) (HTp.below qw.b)).mono (λ_ _ h=>av.no h HPr.out));exact wX
  ·exact wV):p:=h
theorem CK(h:p:=by
 exact pL):p:=h
theorem jy(h:p:=by
 refine Obl.plain rfl ?_;intro ac wg K hsz hW hf hK;clear hsz;clear hf;go_simp;exact hK _ _ (aq _ _) ⟨_,rfl,hW.size,Fs⟩):p:=h
theorem rY(h:p:=by
 have h1:vss[0]?=F_ (vss[0]'(by omega)):=Fu _;have h2:0<(vss[0]'(by omega)).length:=by rw[HVA.out 0 _ h1];decide
 obtain⟨g,e,_⟩:=HCQ.out _ _ (fu HVA.out h1 (Fu h2));cases e):p:=h
theorem ka(h:p:=by
 go_simp;refine hK _ _ (Rv.other ah (Ft _ _)) ?_;with_reducible rfl):p:=h
theorem Cf(h:p:=by
 rcases h with ⟨h,rfl⟩|⟨k,_,rfl,_,_⟩
 ·exact⟨He,λh1=>h1.elim id (λe=>e ▸ h)⟩
 ·have h1:s∈zs↔s∈zs.take k\/s∈zs.drop k:=by rw[<-List.mem_append,List.take_append_drop]
  rw[List.mem_append,List.mem_append,List.mem_singleton,h1];constructor
  ·rintro ((h|h)|h)
   ·exact He (He h)
   ·exact Hd h
   ·exact He (Hd h)
  ·rintro ((h|h)|h)
   ·exact He (He h)
   ·exact Hd h
   ·exact He (Hd h)):p:=h
theorem lr(h:p:=by
 rintro v w w' ⟨b,h1,h2,h3⟩ hb;exact⟨b,h1,h2,(hb.block _ (aa h3)).trans h3⟩):p:=h
theorem rV(h:p:=by
 obtain⟨b,e,h3⟩:=HC.out j u hj;exact⟨b,e,Fw (br h3) HB.size,(aj HB.out (br h3)).trans h3⟩):p:=h
theorem B_(h:p:=by
 obtain rfl:vl=kq:=af
 go_wp2_with fail;refine⟨⟨k+1,by omega,by go_num,λj z hj hz=>?_,HB.out,Bk.out⟩,by simp[intOf];omega⟩;by_cases e:j=k
 ·subst e;rw[HXv.out] at hz;exact wm
 ·exact HQ.out j z af hz):p:=h
theorem B6(h:p:=by
 rw[<-e1] at hs3;have HS1:=ae hs1;have HS2:=ae hs2';have HS3:=ae hs3;have HS4:=ae hs4;obtain⟨o0,o1,o2,o3,o4,o5⟩:=cs6 bo5;have fo0:=al bo5 0;have fo2:=al bo5 2;have fo4:=al bo5 4;clear hs1 hs2' hs3 hs4 bo5 hown5 hgrow e1;go_wp2;exact⟨⟨k+1,_,H',_,by omega,by go_num,HS1,HS2,HS3,HS4⟩,by simp[intOf];omega⟩):p:=h
theorem B5(h:p:=by
 rcases hown.2 with ⟨rfl,rfl⟩|⟨g,cap,cur,rfl,_,_,hnc,_⟩
 ·cases ax <;> simp[Builtin.append_,run_underlying ht,sizeOf,typeInfo,hi,Builtin.lenOf,Builtin.firstCells,loadCells,loadCellsFrom]
 ·cases ax <;> simp[Builtin.append_,run_underlying ht,sizeOf,typeInfo,hi,Builtin.lenOf,Builtin.firstCells,hnc,storeCells,loadCells,loadCellsFrom]):p:=h
theorem B2(h:p:=by
 have h1:=FK hz;simp only[List.mem_append,List.mem_singleton] at h1;rcases h1 with (h1|rfl)|h1
 ·obtain⟨i,hi⟩:=FV (List.mem_of_mem_take h1);exact hr.2.2.2.1 i z hi
 ·exact ht
 ·obtain⟨i,hi⟩:=FV (List.mem_of_mem_drop h1);exact hr.2.2.2.1 i z hi):p:=h
theorem yL(h:p:=by
 have HCq:=ae hq;go_wp2_with fail;refine⟨⟨k+1,by omega,by go_num,λj z hj hz=>?_,HB.out,Bk.out⟩,by simp[intOf];omega⟩;by_cases e:j=k
 ·subst e;rw[HXn.out] at hz;obtain rfl:=Fp hz;exact HCq.out
 ·exact HQ.out j z af hz):p:=h
theorem pX(h:p:=by
 obtain⟨k0,k1,k2,k3,k4,k5⟩:=cs6 Bk;go_wp2;go_ret;exact av.f (λh=>by have:=HI2.2 h.2.1;cases this) HB.out):p:=h
theorem pW(h:p:=by
 obtain⟨k0,k1,k2,k3,k4,k5⟩:=cs6 Bk;go_wp2;go_ret;exact av.f (λh=>by have:=HI1.2 h.1;cases this) HB.out):p:=h
theorem yB(h:p:=by
 rw[FG,FR] at hu;obtain⟨z,hz,rfl⟩:=hu;obtain⟨b,o,x,rfl,hb,hx,hc,hsz⟩:=hr.at (k:=j) da;rw[hz] at hx;cases hx;exact⟨b,o,rfl,hb,hc⟩):p:=h
theorem yx(h:p:=by
 unfold Oper.wp execOp;simp only[ho,resolve,invoke,builtin,Sem.run_bind,Sem.run_pure,Result.andThen_ok,List.map_toArray,List.map_cons,List.map_nil,hs,hx,hr];exact hK _ _ (h v w (by simpa using hown) (World.grownBy.refl _ _))):p:=h
theorem yu(h:p:=by
 go_wp2;refine⟨⟨k+1,by omega,by go_num,λj z hj hz=>?_⟩,by simp[intOf];omega⟩;by_cases e:j=k
 ·subst e;rw[HX.out] at hz;obtain rfl:=Fp hz;exact hless
 ·exact HE.out j z af hz):p:=h
theorem ym(h:p:=by
 unfold Oper.wp execOp;simp only[ho,resolve,invoke,builtin,Sem.run_bind,Sem.run_pure,Result.andThen_ok,List.map_toArray,List.map_cons,List.map_nil,hs,hx,hr];exact hK _ _ (h v' w' h2 h3)):p:=h
theorem yg(h:p:=by
 obtain rfl:l1=k:=af
 go_wp2;go_ret;exact av.t ⟨HQ1.out,λj n hz=>HQ.out j n da hz⟩ HB.out):p:=h
theorem yf(h:p:=by
 intro a' c' w' hR hb6;have hsw:=hW.size;exact hK _ _ hb6 ⟨a',c',rfl,hR.bI (λk _ s=>by show W.heap.size<=k;rcases s with rfl|s <;> omega)⟩):p:=h
theorem x_(h:p:=by
 rcases h with ⟨_,rfl⟩|⟨k,hk,rfl,_,_⟩
 ·omega
 ·simp only[List.length_append,FW,List.length_drop,List.length_singleton];omega):p:=h
theorem x8(h:p:=by
 obtain rfl:pl=k:=af
 go_wp2;go_ret;exact av.t (λj t ht=>HQ.out j t rH ht) HB.out):p:=h
theorem xZ(h:p:=by
 by_cases e:j=k
 ·subst e;rw[HXp.out] at hz;obtain rfl:=Fp hz;exact λh=>absurd h HP2.out
 ·exact HQ.out j z af hz):p:=h
theorem xW(h:p:=by
 obtain⟨i,j,x,h1,h2,h3,h4⟩:=h;obtain⟨i',j',x',k1,k2,k3,k4⟩:=h';obtain⟨_,rfl⟩:=hx.inj h1 k1 (h2.trans k2.symm);rw[h4,k4]):p:=h
theorem xU(h:p:=by
 obtain⟨j,hj⟩:=FV ha;rw[FQ] at hj;split at hj
 ·next hjk=>exact hlt j a hjk hj
 ·cases hj):p:=h
theorem xR(h:p:=by
 obtain⟨k0,k1,k2,k3,k4,k5⟩:=cs6 Bk;go_wp2;go_ret;exact av.f (λh=>by have:=HI5.2 h.2.2.2.2.1;cases this) HB.out):p:=h
theorem xQ(h:p:=by
 obtain⟨k0,k1,k2,k3,k4,k5⟩:=cs6 Bk;go_wp2;go_ret;exact av.f (λh=>by have:=HI6.2 h.2.2.2.2.2;cases this) HB.out):p:=h
theorem xM(h:p:=by
 obtain⟨g9,o9,e,_⟩:=HC.out 0 _ (by rw[FG,Fu (show 0<zs.length by omega)];rfl);cases e):p:=h
theorem xD(h:p:=by
 have h1:=fP x.toList t.toList;rw[h] at h1;have h2:=bH (λe=>hn e.symm);rw[h2] at h1;simpa using h1):p:=h
theorem De(h:p:=by
 subst e;rw[HXt.out] at hs;obtain rfl:=Fp hs;exact⟨⟨i4,x4,HG1.out,HG2.out⟩,He HEm.out⟩):p:=h
theorem pL(h:p:=by
 go_wp2_with fail;refine ag au au ?_;repeat (go_big_quiet_step (first|(go_at_call 95;exact Calls.wide (HC0.out _))|fail))
 refine wpQuiet_nil ?_;rintro _ ⟨q2,rfl⟩;obtain⟨HB2,Ck⟩:=dU;have Cr:=upK Gr q2.b;clear hne0 HW HB HC0 k0 k1 k2 k3 k4 k5 r0 r1 r2 r3 r4 r5 tw Gk Gr Bk Br hc1 hb1;have HB:=HB2;clear HB2;have Bk:=Ck;clear Ck;have Br:=Cr;clear Cr;go_wp2;go_ret;refine av.f (λh=>?_) HB.out;have h9:=(h.1 k p HXp.out).2.1 kq t HXt.out;exact HG.out h9.1):p:=h
theorem jc(h:p:=by
 exact vr):p:=h
theorem fM(h:p:=by
 clear hf;obtain⟨k0,k1,k2,k3,k4,k5⟩:=cs6 ((hW.block _ (aa Bk.out)).trans Bk.out);exact aO):p:=h
theorem xg(h:p:=by
 obtain⟨gb,hgb⟩:∃gb,gb=wr.heap.size:=⟨_,rfl⟩;rw[<-hgb] at Br;have pr3:=ck3 Br;rw[hgb] at pr3;go_wp2;rw[<-hgb];clear pr3 hgb;have KV:=Bk;have GV:=Br;have BV:=HB;have TV:=HTp;clear Bk Br HB HTp;obtain⟨W,hW⟩:∃W,W=q0.w:=⟨_,rfl⟩;rw[<-hW] at KV GV BV TV ⊢;clear hW;go_loopw [6] (λi wr=> ∃kq:Nat,kq<=vl/\i=GZ G6 kq/\Hid (∀(j:Nat) t,j<kq->p.zs[j]?=F_ t->DI c p t)/\Hid (Below W.heap.size W wr)) (λi _=>vl - (intOf i).toNat);case atStart=>exact⟨0,by omega,rfl,λ_ _ h=>absurd h af,Ft _ _⟩
 case round=>
  obtain⟨kq,hkq,rfl,HQ2,HBW⟩:=hrel;obtain⟨HB,Bk⟩:=nF;have Br:=upK GV HBW.out;have pr3:=ck3 Br;by_cases hlt2:kq<vl
  ·obtain⟨b2,o2,t,rfl,hb,hxt,hc,hsz⟩:=(TV.below HBW.out).at hlt2;have HXt:=ae hxt;clear hxt hsz;exact EX
  ·exact EW):p:=h
theorem gL(h:p:=by
 refine Obl.plain rfl ?_;intro ac wg K hsz hW hf hK;clear hsz;have e3:=hf 3 ah;simp[ai,Fo] at e3;clear hf;exact aO):p:=h
theorem xe(h:p:=by
 have e11:=hf 11 ah;simp[ai,Fo] at e11;clear hf;exact aO):p:=h
theorem xb(h:p:=by
 go_wp2_with fail;refine ag au au ?_;repeat (go_big_quiet_step (first|(go_at_call 99;exact Calls.wide (HC0.out _))|fail))
 refine wpQuiet_nil ?_;rintro _ ⟨q9,rfl⟩;have HB1:=upB HW q9.b;have Ck:=upK Gk q9.b;have Cr:=upK Gr q9.b;clear hne0 HW HB HC0 k0 k1 k2 k3 k4 k5 r0 r1 r2 r3 r4 r5 q0 q1 q2 q3 q4 q5 Gk Gr Bk Br d0 d1 d2 d3 d4 d5;have HB:=HB1;clear HB1;have Bk:=Ck;clear Ck;have Br:=Cr;clear Cr;go_wp2_with fail;refine⟨⟨kz+1,by omega,by go_num,λj s hj hs=>?_,HBW.trans (q9.b.mono HBW.size)⟩,by simp[intOf];omega⟩;by_cases e:j=kz
 ·subst e;rw[HXq.out] at hs;obtain rfl:=Fp hs;exact HPr.out
 ·exact HQ3.out j s af hs):p:=h
theorem i_(h:p:=by
 refine Obl.plain rfl ?_;intro ac wg K hsz hW hf hK;clear hsz;have e6:=hf 6 ah;simp[ai,Fo] at e6;clear hf;exact aO):p:=h
theorem iZ(h:p:=by
 refine Obl.plain rfl ?_;intro ac wg K hsz hW hf hK;clear hsz;have e5:=hf 5 ah;simp[ai,Fo] at e5;clear hf;exact aO):p:=h
theorem iY(h:p:=by
 refine Obl.plain rfl ?_;intro ac wg K hsz hW hf hK;clear hsz;have e8:=hf 8 ah;simp[ai,Fo] at e8;clear hf;exact aO):p:=h
theorem iX(h:p:=by
 refine Obl.plain rfl ?_;intro ac wg K hsz hW hf hK;clear hsz;have e2:=hf 2 ah;simp[ai,Fo] at e2;clear hf;exact aO):p:=h
theorem w_(h:p:=by
 go_wp2_with fail;refine ag au au ?_;repeat (go_big_quiet_step (first|(go_at_call 95;exact Calls.wide (HC0.out _))|fail))
 refine wpQuiet_nil ?_;rintro _ ⟨q2,rfl⟩;obtain⟨HB2,Ck⟩:=dU;have Cr:=upK Gr q2.b;clear hne0 HW HB HC0 k0 k1 k2 k3 k4 k5 r0 r1 r2 r3 r4 r5 tw Gk Gr Bk Br hc1 hb1;have HB:=HB2;clear HB2;have Bk:=Ck;clear Ck;have Br:=Cr;clear Cr;go_wp2_with fail;refine⟨⟨kq+1,by omega,by go_num,λj s hj hs=>?_,HBW1.trans (q2.b.mono HBW1.size)⟩,by simp[intOf];omega⟩;by_cases e:j=kq
 ·exact De
 ·exact HQ2.out j s af hs):p:=h
theorem wX(h:p:=by
 go_wp2_with fail;refine ag au au ?_;repeat (go_big_quiet_step (first|(go_at_call 99;exact Calls.wide (HC0.out _))|fail))
 refine wpQuiet_nil ?_;rintro _ ⟨q9,rfl⟩;have HB1:=upB HW q9.b;have Ck:=upK Gk q9.b;have Cr:=upK Gr q9.b;clear hne0 HW HB HC0 k0 k1 k2 k3 k4 k5 r0 r1 r2 r3 r4 r5 q0 q1 q2 q3 q4 q5 Gk Gr Bk Br d0 d1 d2 d3 d4 d5;have HB:=HB1;clear HB1;have Bk:=Ck;clear Ck;have Br:=Cr;clear Cr;go_wp2;go_ret;exact av.f (λh=>HPr.out ((h.1 k p HXp.out).2.2 kz pq hlt3 HXq.out)) HB.out):p:=h
theorem wV(h:p:=by
 obtain rfl:k=kz:=af
 go_wp2_with fail;refine⟨⟨k+1,by omega,by go_num,λj z hj hz=>?_,HB.out,Bk.out⟩,by simp[intOf];omega⟩;by_cases e:j=k
 ·subst e;rw[HXp.out] at hz;obtain rfl:=Fp hz;exact⟨HPa.out,HQb.out,λj2 q2 hj2 hq2=>HQ3.out j2 q2 hj2 hq2⟩
 ·exact HQ.out j z af hz):p:=h
theorem wK(h:p:=by
 refine Gi.Obl.plain rfl ?_;intro ac wg K lo hi hsz hW hpr hf hap hK;clear hsz hap hpr;have hW:wr.grownBy wg v.ownBlock:=hW;have e3:=hf 3 ah;simp[Gi.ai,Fo] at e3;clear hf;exact ka):p:=h
theorem wG(h:p:=by
 obtain⟨a',c',e,hR⟩:=h45.own ho4 hle.symm ah (λg hg=>Hd (by have:=(ho4.lt g hg).1;omega));rw[hle] at e hR;rw[hj] at hR;exact⟨a',c',e,hR⟩):p:=h
theorem pG(h:p:=by
 have e37:=hf 37 ah;simp[ai,Fo] at e37;clear hf;exact aO):p:=h
theorem wD(h:p:=by
 refine Obl.plain rfl ?_;intro ac wg K hsz hW hf hK;clear hsz;have e40:=hf 40 ah;simp[ai,Fo] at e40;clear hf;exact aO):p:=h
theorem wC(h:p:=by
 refine Obl.plain rfl ?_;intro ac wg K hsz hW hf hK;clear hsz;have e44:=hf 44 ah;simp[ai,Fo] at e44;clear hf;exact aO):p:=h
theorem wm(h:p:=by
 obtain rfl:=Fp hz;exact λj s hs=>HQ2.out j s (by have h1:=(Fm.1 hs).1;have h2:=HVL.out;omega) hs):p:=h
theorem vW(h:p:=by
 clear hf;obtain⟨k0,k1,k2,k3,k4,k5⟩:=cs6 ((hW.block _ (aa GK.out)).trans GK.out);exact aO):p:=h
theorem vU(h:p:=by
 rcases hown.2 with ⟨rfl,_⟩|⟨g,cap,cur,rfl,_⟩
 ·exact⟨_,_,_,rfl⟩
 ·exact⟨_,_,_,rfl⟩):p:=h
theorem pw(h:p:=by
 refine Obl.plain rfl ?_;intro ac wg K hsz hW hf hK;clear hsz;have e2:=hf 2 ah;simp[ai,Fo] at e2;exact fM):p:=h
theorem vr(h:p:=by
 refine Obl.plain rfl ?_;intro ac wg K hsz hW hf hK;clear hsz;have e1:=hf 1 ah;simp[ai,Fo] at e1;clear hf;exact aO):p:=h
theorem cq(h:p:=by
 have fr0:=al Br.out 0;have fr1:=al Br.out 1;have fr2:=al Br.out 2;have fr3:=al Br.out 3;have fr4:=al Br.out 4;have fr5:=al Br.out 5;have fr6:=al Br.out 6;have fr7:=al Br.out 7;exact Fk fr0 (Fk fr1 (Fk fr2 (Fk fr3 (Fk fr4 (Fk fr5 (Fk fr6 fr7))))))):p:=h
theorem z8(h:p:=by
 have q0:∀q:Wd wr,q.w.cell? ⟨b,o+kz*6,U⟩=F_ (I pq.n):=λq=>(q.cell (hb')).trans (d0);have q1:∀q:Wd wr,q.w.cell? ⟨b,o+kz*6+1,U⟩=F_ (GZ G6 pq.c):=λq=>(q.cell (hb')).trans (d1);have q2:∀q:Wd wr,q.w.cell? ⟨b,o+kz*6+2,U⟩=F_ (I pq.z):=λq=>(q.cell (hb')).trans (d2);have q3:∀q:Wd wr,q.w.cell? ⟨b,o+kz*6+3,U⟩=F_ (J qa ql qc):=λq=>(q.cell (hb')).trans (d3);have q4:∀q:Wd wr,q.w.cell? ⟨b,o+kz*6+4,U⟩=F_ (I pq.d):=λq=>(q.cell (hb')).trans (d4);have q5:∀q:Wd wr,q.w.cell? ⟨b,o+kz*6+5,U⟩=F_ (GZ G6 pq.p):=λq=>(q.cell (hb')).trans (d5);have hne0:=Wd.ne wr;exact Fk q0 (Fk q1 (Fk q2 (Fk q3 (Fk q4 (Fk q5 hne0)))))):p:=h
theorem Da(h:p:=by
 have Gk:Hid ((wr.alloc (G7 #[I p.n,GZ G6 p.c,I p.z,J va vl vc,I p.d,GZ G6 2] 40)).heap[w.heap.size]?=F_ (G7 (clo6 (F_ ⟨b1,o1,U⟩) l1 y1 a2 l2 y2 a3 l3 y3 a4 l4 y4 (F_ ⟨b,o,U⟩) l5 y5 c.now) 29 (0,0))):=(Fy _ _ _ (aa Bk.out)).trans (Bk.out);have Gr:Hid ((wr.alloc (G7 #[I p.n,GZ G6 p.c,I p.z,J va vl vc,I p.d,GZ G6 2] 40)).heap[wr.heap.size]?=F_ (G7 #[I p.n,GZ G6 p.c,I p.z,J va vl vc,I p.d,GZ G6 2] 40 (0,0))):=Fs;have HW:Hid (Below w.heap.size w (wr.alloc (G7 #[I p.n,GZ G6 p.c,I p.z,J va vl vc,I p.d,GZ G6 2] 40))):=(HB.trans ((aq _ _).mono HB.size));exact Fk Gk (Fk Gr HW)):p:=h
theorem uJ(h:p:=by
 have nw:=λq:Wd (wr.alloc (G7 #[I p.n,GZ G6 p.c,I p.z,J va vl vc,I p.d,GZ G6 2] 40))=>(q.cell hbnv).trans e5v;have hne0:=Wd.ne (wr.alloc (G7 #[I p.n,GZ G6 p.c,I p.z,J va vl vc,I p.d,GZ G6 2] 40));have HC0:=ae (λq:Wd (wr.alloc (G7 #[I p.n,GZ G6 p.c,I p.z,J va vl vc,I p.d,GZ G6 2] 40))=>eX ⟨(F_ ⟨b1,o1,U⟩),l1,y1,a2,l2,y2,a3,l3,y3,a4,l4,y4,(F_ ⟨b,o,U⟩),l5,y5⟩ c.now c.ns p.d q.w (HR.n.below (HW.trans (q.b.mono HW.size))) HNR.out HJn.out HNn.out);exact Fk nw (Fk hne0 HC0)):p:=h
theorem jx(h:p:=by
 have hl5:c.ps.length=l5:=uu
 have hm5:l5<=9223372036854775807:=FA hr.p.2.1 hr.p.2.2.1;exact Fk hl5 hm5):p:=h
theorem nK(h:p:=by
 have HR:=ae hr;have hl1:c.ns.length=l1:=rJ
 have hm1:l1<=9223372036854775807:=FA hr.n.2.1 hr.n.2.2.1;have hl3:c.vs.length=l3:=j5
 exact Fk HR (Fk hl1 (Fk hm1 hl3))):p:=h
theorem rT(h:p:=by
 have HW:=HB;have k0:=λq:Wd wr=>q.slot (o:=0) Gk.out rfl;have k1:=λq:Wd wr=>q.slot (o:=1) Gk.out rfl;have k2:=λq:Wd wr=>q.slot (o:=2) Gk.out rfl;have k3:=λq:Wd wr=>q.slot (o:=3) Gk.out rfl;have k4:=λq:Wd wr=>q.slot (o:=4) Gk.out rfl;have k5:=λq:Wd wr=>q.slot (o:=5) Gk.out rfl;exact Fk HW (Fk k0 (Fk k1 (Fk k2 (Fk k3 (Fk k4 k5)))))):p:=h
theorem ic(h:p:=by
 have fr0:=al Br.out 0;have fr1:=al Br.out 1;have fr2:=al Br.out 2;have fr3:=al Br.out 3;have fr4:=al Br.out 4;have fr5:=al Br.out 5;exact Fk fr0 (Fk fr1 (Fk fr2 (Fk fr3 (Fk fr4 fr5))))):p:=h
theorem rS(h:p:=by
 have Gk:=Bk;have Gv:=Bv;have HW:=HB;have k2:=λq:Wd q1.w=>q.slot (o:=2) Gk.out rfl;have v0:=λq:Wd q1.w=>q.slot (o:=0) Gv.out rfl;have v2:=λq:Wd q1.w=>q.slot (o:=2) Gv.out rfl;have v5:=λq:Wd q1.w=>q.slot (o:=5) Gv.out rfl;have v6:=λq:Wd q1.w=>q.slot (o:=6) Gv.out rfl;exact Fk Gk (Fk Gv (Fk HW (Fk k2 (Fk v0 (Fk v2 (Fk v5 v6))))))):p:=h
theorem rR(h:p:=by
 have HOW:Hid ((w.alloc (G7 #[] 9)).ownsRow w.heap.size 9 1 (J (F_ ⟨w.heap.size,0,U⟩) 0 0) 0 []):=World.ownsRow_made w #[] 0 (Fq _) (FY _) aH;have hik:(k:Int)<=cap:=af
 have hkn:k<=cap:=af
 exact Fk HOW (Fk hik hkn)):p:=h
theorem uH(h:p:=by
 have hbnv:b1<(wr.alloc (G7 #[I p.n,GZ G6 p.c,I p.z,J va vl vc,I p.d,GZ G6 2] 40)).heap.size:=by simp;omega
 have e5v:=(aj (aq wr (G7 #[I p.n,GZ G6 p.c,I p.z,J va vl vc,I p.d,GZ G6 2] 40)) hbn).trans e5;exact Fk hbnv e5v):p:=h
theorem uG(h:p:=by
 have hXs:=HBX.size;have HBW:=ae (HBX.trans (HK.low (X:=w.heap.size) hXs (λk s=>by rcases s with rfl|s <;> omega)));have BkR:=ae ((HK.block w.heap.size af (λs=>by rcases s with s|s <;> omega)).trans Bk.out);have hKs:=HK.size;exact Fk hXs (Fk HBW (Fk BkR hKs))):p:=h
theorem BF(h:p:=by
 have p3:=λq:Wd wr=>q.slot (o:=3) Gp.out rfl;have n6:=λq:Wd wr=>q.slot (o:=6) Gn.out rfl;have tw:=λq:Wd wr=>(q.cell hb).trans hc;have vw:=λq:Wd wr=>(q.cell hbv).trans v0;have hne0:=Wd.ne wr;have HC0:=ae (λq:Wd wr=>e_ ⟨(F_ ⟨b1,o1,U⟩),l1,y1,a2,l2,y2,(F_ ⟨b3,o3,U⟩),l3,y3,a4,l4,y4,a5,l5,y5⟩ c t q.w (HR.below (HW.trans (q.b.mono HW.size))) HX.out HV.out HNE.out HJ.out HDb.out);exact Fk p3 (Fk n6 (Fk tw (Fk vw (Fk hne0 HC0))))):p:=h
theorem BE(h:p:=by
 have tw:=λq:Wd q1.w=>(q.cell hb1).trans hc1;have vw:=λq:Wd q1.w=>(q.cell hbv).trans v2;have nw:=λq:Wd q1.w=>(q.cell hbn).trans n1;have hne0:=Wd.ne q1.w;have HC0:=ae (λq:Wd q1.w=>ei ⟨(F_ ⟨b1,o1,U⟩),l1,y1,a2,l2,y2,(F_ ⟨b3,o3,U⟩),l3,y3,a4,l4,y4,(F_ ⟨b,o,U⟩),l5,y5⟩ c.now c.xs t q.w (HR.x.below (HW.trans (q.b.mono HW.size))) HX.out HG1.out HG2.out);exact Fk tw (Fk vw (Fk nw (Fk hne0 HC0)))):p:=h
theorem uB(h:p:=by
 have Gk:=Bk;have Gv:=Bv;have HW:=HB;have k0:=λq:Wd q1.w=>q.slot (o:=0) Gk.out rfl;have v2:=λq:Wd q1.w=>q.slot (o:=2) Gv.out rfl;have v7:=λq:Wd q1.w=>q.slot (o:=7) Gv.out rfl;exact Fk Gk (Fk Gv (Fk HW (Fk k0 (Fk v2 v7))))):p:=h
theorem jt(h:p:=by
 have tw:=λq:Wd wr=>(q.cell hb).trans hc;have hne0:=Wd.ne wr;exact Fk tw hne0):p:=h
theorem j8(h:p:=by
 have tw:=λq:Wd q1.w=>(q.cell hb1).trans hc1;have hne0:=Wd.ne q1.w;exact Fk tw hne0):p:=h
theorem nG(h:p:=by
 have HB2:=upB HW q0.b;have Ck:=upK Gk q0.b;have Cr:=upK Gr q0.b;have CHTp:=ae ((HTp.out).below q0.b);exact Fk HB2 (Fk Ck (Fk Cr CHTp))):p:=h
theorem Bl(h:p:=by
 have Bk:=ae ((HL.block w.heap.size af).trans (heap_alloc_new w (G7 (clo6 a1 l1 y1 a2 l2 y2 a3 l3 y3 a4 l4 y4 a5 l5 y5 c.now) 29)));have HB:=ae ((aq w (G7 (clo6 a1 l1 y1 a2 l2 y2 a3 l3 y3 a4 l4 y4 a5 l5 y5 c.now) 29)).trans (HL.mono af));exact Fk Bk HB):p:=h
theorem jr(h:p:=by
 have HR:=ae hr;have HB:=ae (Ft w.heap.size w);exact Fk HR HB):p:=h
theorem nF(h:p:=by
 have HB:=ae (BV.trans (HBW.mono BV.size));have Bk:=upK KV HBW.out;exact Fk HB Bk):p:=h
theorem A9(h:p:=by
 have GV:Hid ((wr.alloc (G7 (vov v va vl vc) 95)).heap[wr.heap.size]?=F_ (G7 (vov v va vl vc) 95 (0,0))):=Fs;have BV:=ae (HB.trans ((aq wr (G7 (vov v va vl vc) 95)).mono HB.size));exact Fk GV BV):p:=h
theorem rM(h:p:=by
 have hc1:=(q1.cell hb).trans hc;have hb1:=Fw hb q1.b.size;have HBW1:=upB HBW q1.b;exact Fk hc1 (Fk hb1 HBW1)):p:=h
theorem A5(h:p:=by
 have Br:Hid (W.heap[w.heap.size+1]?=F_ (G7 (clo6 U 0 0 U 0 0 U 0 0 U 0 0 U 0 0 0) 29 (0,0))):=by rw[hW0];exact cL _ _ _
 have hWs:W.heap.size=w.heap.size+1+1:=by rw[hW0];simp
 exact Fk Br hWs):p:=h
theorem uT(h:p:=by
 have HON:Hid (∀(l:List ByteArray) u,u∈l.map Fz->u.oneCell'=Hb):=λl u hu=>by obtain⟨z,_,rfl⟩:=List.mem_map.1 hu;rfl
 have HW:Hid (Below w.heap.size w w):=Ft _ _;exact Fk HON HW):p:=h
theorem uO(h:p:=by
 have hs2:wr.heap.size+1<w2.heap.size:=by have:=hb2.size;simp at this;omega
 have hsl:∀k,(k=wr.heap.size+1\/wr.heap.size+1+1<=k)->wr.heap.size+1<=k:=λk s=>by omega
 exact Fk hs2 hsl):p:=h
theorem dB(h:p:=by
 have Bk:=ae HA0;have Br:=ae HA1;exact Fk Bk Br):p:=h
theorem uN(h:p:=by
 have hk1:¬(k:Int)<len:=af
 have HP:Hid (Put t zs (zs.take k++[t]++zs.drop k)):=Hd ⟨k,by omega,rfl,HE.out,λy hy=>by have:=(Fm.1 hy).1;omega⟩;exact Fk hk1 HP):p:=h
theorem lQ(h:p:=by
 have HG1:=ae g1;have HG2:=ae g2;have hi41:decide ((i4:Int)<0)=G_:=aH
 exact Fk HG1 (Fk HG2 hi41)):p:=h
theorem uM(h:p:=by
 have HG:Hid (∀zs:List ByteArray,x.zs=zs->zs≠[]->wr.heap.size<=g):=λzs e hz=>by subst e;have:=hsl _ (hg.lt hz).1;omega
 have HB4:=ae hb4;have HO4:=ae (cw HO.out hb4);exact Fk HG (Fk HB4 HO4)):p:=h
namespace Rc
def PSa(c:Cl) (p:Pd):Prop:=p.d=⟨#[]⟩\/∃(i:Nat) (n:Nd),c.ns[i]?=F_ n/\n.n=p.d/\(p.z=⟨#[]⟩\/n.z=p.z)
def DI(c:Cl) (p:Pd) (t:ByteArray):Prop:=(∃(i:Nat) (x:Xd),c.xs[i]?=F_ x/\x.n=t)/\(p.d=⟨#[]⟩\/∃(v:Vd) (i:Nat) (n:Nd),bh c t v/\c.ns[i]?=F_ n/\n.n=p.d/\v.z=n.z)
def PSb(c:Cl) (p:Pd):Prop:=∀(j:Nat) t,p.zs[j]?=F_ t->DI c p t
def PSc(c:Cl) (k:Nat) (p:Pd):Prop:=∀(j:Nat) q,j<k->c.ps[j]?=F_ q->lL c q p
def PS(c:Cl) (k:Nat) (p:Pd):Prop:=PSa c p/\PSb c p/\PSc c k p
def my(c:Cl):Prop:=(∀(k:Nat) p,c.ps[k]?=F_ p->PS c k p)/\∀(j:Nat) n,c.ns[j]?=F_ n->cpuOf n.n c.ps<=n.c
theorem mX(d:Ad) (c:Cl) (w:World) (hr:aE w d c.raw) (hn:aJ Nd.n c.ns) (hx:aJ Xd.n c.xs) (hv:aJ Vd.n c.vs) (hne:∀(j:Nat) v,c.vs[j]?=F_ v->¬v.n=⟨#[]⟩) (hps8:c.ps.length<=8) (hpc:∀(j:Nat) p,c.ps[j]?=F_ p->0<=p.c/\p.c<=1000000):
  Calls Tryz.prog 52 #[Hc #[J d.a1 d.l1 d.c1,J d.a2 d.l2 d.c2,J d.a3 d.l3 d.c3,J d.a4 d.l4 d.c4,J d.a5 d.l5 d.c5,GZ G6 c.now]] w (av (my c) w):=by
 obtain⟨a1,l1,y1,a2,l2,y2,a3,l3,y3,a4,l4,y4,a5,l5,y5⟩:=d;dsimp only;obtain⟨HR,hl1,hm1,hl3⟩:=nK;obtain⟨hl5,hm5⟩:=jx;clear hr;have HNR:=ae hn;obtain⟨HX,HV,HNE⟩:=fK;have HL5:=ae hps8;have HPC:=ae hpc;clear hn hx hv hne hps8 hpc;go_enter Tryz.func52,Tryz.ntmps52;go_wp2;go_loopw [3] (λi wr=> ∃k:Nat,k<=l5/\i=GZ G6 k/\Hid (∀(j:Nat) z,j<k->c.ps[j]?=F_ z->PS c j z)/\Hid (Below w.heap.size w wr)/\Hid (wr.heap[w.heap.size]?=F_ (G7 (clo6 a1 l1 y1 a2 l2 y2 a3 l3 y3 a4 l4 y4 a5 l5 y5 c.now) 29 (0,0)))) (λi _=>l5 - (intOf i).toNat);case atStart=>exact⟨0,by omega,rfl,λ_ _ h=>absurd h af,aq _ _,Fs⟩
 case round=>
  obtain⟨k,hk,rfl,HQ,HB,Bk⟩:=hrel;have pk:=ck4 Bk;by_cases hlt:k<l5
  ·obtain⟨b,o,p,rfl,hb,hx,hat⟩:=bN (HR.p.below HB.out) hlt;obtain⟨va,vl,vc,hvr,z0,z2,z4,c0,c1,c2,c3,c4,c5⟩:=aR hat;have HXp:=ae hx;have HTp:=ae hvr;clear hat hx z0 z2 z4 hvr;have hvl:=HTp.1;have hvc:=FA HTp.2.1 HTp.2.2.1;have HVL:=ae hvl;clear hvl;obtain⟨k0,k1,k2,k3,k4,k5⟩:=cs6 Bk;have ltk_0:=aa Bk.out;go_wp2_with fail;refine (gV ⟨a1,l1,y1,a2,l2,y2,a3,l3,y3,a4,l4,y4,(F_ ⟨b,o,U⟩),l5,y5⟩ c.now c.ns p.d _ (HR.n.below (HB.trans ((aq _ _).mono HB.size)))).mono ?_;rintro e w1 ⟨hb2,hf⟩;clear k0 k1 k2 k3 k4 k5 ltk_0;obtain⟨HA0,hbx⟩:=aT hb2;replace Bk:=upK Bk hbx;have Br:=ae HA0;replace HTp:=ae (HTp.below hbx);replace HB:=upB HB hbx;clear hb2 hbx HA0;clear pk hb c0 c1 c2 c3 c4 c5;by_cases he:p.d=⟨#[]⟩
   ·have hq:=cC he;have HEm:=ae he;clear he;obtain⟨r5,hre⟩:∃r:Int,e=Ha (GZ G6 r):=by rcases hf with ⟨j,y,_,_,h⟩|⟨_,h⟩ <;> exact⟨_,h⟩
    subst hre;clear hf;obtain⟨Gk,Gr,HW⟩:=bJ;have k0:=λq:Wd w1=>q.slot (o:=0) Gk.out rfl;obtain⟨r0,r1,r2,r3,r4,r5⟩:=sl6 Gr;have hne0:=Wd.ne w1;go_wp2_with fail;refine ag au au ?_;repeat (go_big_quiet_step (first|fail))
    refine wpQuiet_nil ?_;rintro _ ⟨q0,rfl⟩;obtain⟨HB2,Ck,Cr,CHTp⟩:=nG;clear hne0 HW HB k0 r0 r1 r2 r3 r4 r5 Gk Gr Bk Br HTp;have HB:=HB2;clear HB2;have HTp:=CHTp;clear CHTp;have Bk:=Ck;clear Ck;have Br:=Cr;clear Cr;have HPa:Hid (PSa c p):=He HEm.out;obtain⟨gb,hgb⟩:∃gb,gb=wr.heap.size:=⟨_,rfl⟩;rw[<-hgb] at Br;have pr3:=ck3 Br;rw[hgb] at pr3;go_wp2;rw[<-hgb];clear pr3 hgb;have KV:=Bk;have GV:=Br;have BV:=HB;have TV:=HTp;clear Bk Br HB HTp;obtain⟨W,hW⟩:∃W,W=q0.w:=⟨_,rfl⟩;rw[<-hW] at KV GV BV TV ⊢;clear hW;go_loopw [6] (λi wr=> ∃kq:Nat,kq<=vl/\i=GZ G6 kq/\Hid (∀(j:Nat) t,j<kq->p.zs[j]?=F_ t->DI c p t)/\Hid (Below W.heap.size W wr)) (λi _=>vl - (intOf i).toNat);case atStart=>exact⟨0,by omega,rfl,λ_ _ h=>absurd h af,Ft _ _⟩
    case round=>
     obtain⟨kq,hkq,rfl,HQ2,HBW⟩:=hrel;obtain⟨HB,Bk⟩:=nF;have Br:=upK GV HBW.out;have pr3:=ck3 Br;by_cases hlt2:kq<vl
     ·obtain⟨b2,o2,t,rfl,hb,hxt,hc,hsz⟩:=(TV.below HBW.out).at hlt2;have HXt:=ae hxt;clear hxt hsz;have hcase:(∃v,bh c t v)\/(∀v,¬bh c t v):=by
       exact yE
      rcases hcase with ⟨v,hbd⟩|hbd
      ·obtain⟨j3,hj3⟩:=hbd.at;have hl3':j3<l3:=by have h1:=(Fm.1 hj3).1;omega
       obtain⟨b3,o3,v',rfl,hb3,hv',hat⟩:=bM HR.v hl3';rw[hj3] at hv';obtain rfl:=Fp hv';obtain⟨xa,xl,xc,hvr,z0,z2,z3,z5,d0,d1,d2,d3,d4,d5,d6,d7⟩:=aP hat;have HJ:=ae hj3;have HD:=ae hbd;have HC2:=ae d2;have HB3:=ae hb3;have hj31:decide ((j3:Int)<0)=G_:=aH
       clear hv' hat hvr z0 z2 z3 z5 d0 d1 d2 d3 d4 d5 d6 d7 hj3 hbd hb3;obtain⟨Gk,Gr,HW⟩:=bJ;obtain⟨k0,k1,k2,k3,k4,k5⟩:=sl6 Gk;have r3:=λq:Wd wr=>q.slot (o:=3) Gr.out rfl;obtain⟨tw,hne0⟩:=jt;have HC0:=ae (λq:Wd wr=>e_ ⟨a1,l1,y1,a2,l2,y2,(F_ ⟨b3,o3,U⟩),l3,y3,a4,l4,y4,(F_ ⟨b,o,U⟩),l5,y5⟩ c t q.w (HR.below (HW.trans (q.b.mono HW.size))) HX.out HV.out HNE.out HJ.out HD.out);go_wp2_with fail;refine ag au au ?_;repeat (go_big_quiet_step (first|(go_at_call 98;exact Calls.wide (HC0.out _))|fail))
       refine wpQuiet_nil ?_;rintro _ ⟨q1,rfl⟩;have HB1:=upB HW q1.b;obtain⟨Ck,Cr⟩:=cf;clear hne0 HW HB HC0 k0 k1 k2 k3 k4 k5 r3 tw Gk Gr Bk Br pr3;have HB:=HB1;clear HB1;have Bk:=Ck;clear Ck;have Br:=Cr;clear Cr;obtain⟨hc1,hb1,HBW1⟩:=rM;clear hc hb HBW;by_cases hg:∃(i:Nat) (x:Xd),c.xs[i]?=F_ x/\x.n=t;rotate_left
       ·have HG:=ae hg;clear hg;obtain⟨Gk,Gr,HW⟩:=bJ;obtain⟨k0,k1,k2,k3,k4,k5⟩:=sl6 Gk;obtain⟨r0,r1,r2,r3,r4,r5⟩:=sl6 Gr;obtain⟨tw,hne0⟩:=j8;have HC0:=ae (λq:Wd q1.w=>eg ⟨a1,l1,y1,a2,l2,y2,(F_ ⟨b3,o3,U⟩),l3,y3,a4,l4,y4,(F_ ⟨b,o,U⟩),l5,y5⟩ c.now c.xs t q.w (HR.x.below (HW.trans (q.b.mono HW.size))) (λi x h1 h2=>HG.out ⟨i,x,h1,h2⟩));exact CK
       obtain⟨i4,x4,g1,g2⟩:=hg;obtain⟨HG1,HG2,hi41⟩:=lQ;clear g1 g2;obtain⟨Gk,Gr,HW⟩:=bJ;obtain⟨k0,k1,k2,k3,k4,k5⟩:=sl6 Gk;obtain⟨r0,r1,r2,r3,r4,r5⟩:=sl6 Gr;obtain⟨tw,hne0⟩:=j8;have HC0:=ae (λq:Wd q1.w=>ei ⟨a1,l1,y1,a2,l2,y2,(F_ ⟨b3,o3,U⟩),l3,y3,a4,l4,y4,(F_ ⟨b,o,U⟩),l5,y5⟩ c.now c.xs t q.w (HR.x.below (HW.trans (q.b.mono HW.size))) HX.out HG1.out HG2.out);exact w_
      ·have HD:=ae hbd;clear hbd;obtain⟨Gk,Gr,HW⟩:=bJ;obtain⟨k0,k1,k2,k3,k4,k5⟩:=sl6 Gk;have r3:=λq:Wd wr=>q.slot (o:=3) Gr.out rfl;obtain⟨tw,hne0⟩:=jt;have HC0:=ae (λq:Wd wr=>fl ⟨a1,l1,y1,a2,l2,y2,a3,l3,y3,a4,l4,y4,(F_ ⟨b,o,U⟩),l5,y5⟩ c t q.w (HR.below (HW.trans (q.b.mono HW.size))) HX.out HV.out HNE.out HD.out);go_wp2_with fail;refine ag au au ?_;repeat (go_big_quiet_step (first|(go_at_call 98;exact Calls.wide (HC0.out _))|fail))
       refine wpQuiet_nil ?_;rintro _ ⟨q1,rfl⟩;have HB1:=upB HW q1.b;obtain⟨Ck,Cr⟩:=cf;clear hne0 HW HB HC0 k0 k1 k2 k3 k4 k5 r3 tw Gk Gr Bk Br pr3;have HB:=HB1;clear HB1;have Bk:=Ck;clear Ck;have Br:=Cr;clear Cr;obtain⟨hc1,hb1,HBW1⟩:=rM;clear hc hb HBW;by_cases hg:∃(i:Nat) (x:Xd),c.xs[i]?=F_ x/\x.n=t;rotate_left
       ·have HG:=ae hg;clear hg;obtain⟨Gk,Gr,HW⟩:=bJ;obtain⟨k0,k1,k2,k3,k4,k5⟩:=sl6 Gk;obtain⟨r0,r1,r2,r3,r4,r5⟩:=sl6 Gr;obtain⟨tw,hne0⟩:=j8;have HC0:=ae (λq:Wd q1.w=>eg ⟨a1,l1,y1,a2,l2,y2,a3,l3,y3,a4,l4,y4,(F_ ⟨b,o,U⟩),l5,y5⟩ c.now c.xs t q.w (HR.x.below (HW.trans (q.b.mono HW.size))) (λi x h1 h2=>HG.out ⟨i,x,h1,h2⟩));exact CK
       obtain⟨i4,x4,g1,g2⟩:=hg;obtain⟨HG1,HG2,hi41⟩:=lQ;clear g1 g2;obtain⟨Gk,Gr,HW⟩:=bJ;obtain⟨k0,k1,k2,k3,k4,k5⟩:=sl6 Gk;obtain⟨r0,r1,r2,r3,r4,r5⟩:=sl6 Gr;obtain⟨tw,hne0⟩:=j8;have HC0:=ae (λq:Wd q1.w=>ei ⟨a1,l1,y1,a2,l2,y2,a3,l3,y3,a4,l4,y4,(F_ ⟨b,o,U⟩),l5,y5⟩ c.now c.xs t q.w (HR.x.below (HW.trans (q.b.mono HW.size))) HX.out HG1.out HG2.out);exact w_
     ·obtain rfl:vl=kq:=af
      have HQb:Hid (PSb c p):=λj t ht=>HQ2.out j t A0 ht;clear HQ2;have TV2:=ae (TV.below HBW.out);have KV2:=Bk;have GV2:=Br;have BV2:=HB;clear KV GV BV TV Bk Br HB HBW;obtain⟨W2,hW⟩:∃W2,W2=wr:=⟨_,rfl⟩;rw[<-hW] at KV2 GV2 BV2 TV2;go_wp2;clear pr3;rw[<-hW];clear hW;go_loopw [8] (λi wr=> ∃kz:Nat,kz<=k/\i=GZ G6 kz/\Hid (∀(j:Nat) q,j<kz->c.ps[j]?=F_ q->lL c q p)/\Hid (Below W2.heap.size W2 wr)) (λi _=>k - (intOf i).toNat);case atStart=>exact⟨0,by omega,rfl,λ_ _ h=>absurd h af,Ft _ _⟩
      case round=>
       obtain⟨kz,hkz,rfl,HQ3,HBW⟩:=hrel;have HB:=ae (BV2.trans (HBW.mono BV2.size));have Bk:=upK KV2 HBW.out;have Br:=upK GV2 HBW.out;have HTp:=ae (TV2.below HBW.out);by_cases hlt3:kz<k
       ·obtain⟨b',o',pq,e',hb',hqq,hatq⟩:=bN (HR.p.below HB.out) (show kz<l5 by omega);cases e';obtain⟨qa,ql,qc,hqr,z0,z2,z4,d0,d1,d2,d3,d4,d5⟩:=aR hatq;have HXq:=ae hqq;have HTq:=ae hqr;clear hatq hqq hqr z0 z2 z4;by_cases hpr:lL c pq p
        ·have HPr:=ae hpr;clear hpr;obtain⟨Gk,Gr,HW⟩:=bJ;obtain⟨k0,k1,k2,k3,k4,k5⟩:=sl6 Gk;obtain⟨r0,r1,r2,r3,r4,r5⟩:=sl6 Gr;obtain⟨q0,q1,q2,q3,q4,q5,hne0⟩:=z8;have HC0:=ae (λqw:Wd wr=>(fW ⟨a1,l1,y1,a2,l2,y2,a3,l3,y3,a4,l4,y4,(F_ ⟨b,o,U⟩),l5,y5⟩ c pq p qa ql qc va vl vc qw.w (HR.below (HW.trans (qw.b.mono HW.size))) HX.out HV.out HNE.out (HTq.below qw.b) (HTp.below qw.b)).mono (λ_ _ h=>av.yes h HPr.out));exact xb
        ·have HPr:=ae hpr;clear hpr;obtain⟨Gk,Gr,HW⟩:=bJ;obtain⟨k0,k1,k2,k3,k4,k5⟩:=sl6 Gk;obtain⟨r0,r1,r2,r3,r4,r5⟩:=sl6 Gr;obtain⟨q0,q1,q2,q3,q4,q5,hne0⟩:=z8;have HC0:=ae (λqw:Wd wr=>(fW ⟨a1,l1,y1,a2,l2,y2,a3,l3,y3,a4,l4,y4,(F_ ⟨b,o,U⟩),l5,y5⟩ c pq p qa ql qc va vl vc qw.w (HR.below (HW.trans (qw.b.mono HW.size))) HX.out HV.out HNE.out (HTq.below qw.b) (HTp.below qw.b)).mono (λ_ _ h=>av.no h HPr.out));exact wX
       ·exact wV
   have hq:=bg he;have HEm:=ae he;clear he;rcases hf with ⟨j1,n,h1,h2,rfl⟩|⟨hh,rfl⟩;rotate_left
   ·have HH:=ae hh;clear hh;obtain⟨Gk,Gr,HW⟩:=bJ;have k0:=λq:Wd w1=>q.slot (o:=0) Gk.out rfl;obtain⟨r0,r1,r2,r3,r4,r5⟩:=sl6 Gr;have hne0:=Wd.ne w1;go_wp2_with fail;refine ag au au ?_;repeat (go_big_quiet_step (first|fail))
    refine wpQuiet_nil ?_;rintro _ ⟨q0,rfl⟩;obtain⟨HB2,Ck,Cr,CHTp⟩:=nG;clear hne0 HW HB k0 r0 r1 r2 r3 r4 r5 Gk Gr Bk Br HTp;have HB:=HB2;clear HB2;have HTp:=CHTp;clear CHTp;have Bk:=Ck;clear Ck;have Br:=Cr;clear Cr;go_wp2;go_ret;refine av.f (λh=>?_) HB.out;rcases (h.1 k p HXp.out).1 with h2|⟨i,n,h2,h3,_⟩
    ·exact HEm.out h2
    ·exact HH.out i n h2 h3
   have hl1':j1<l1:=by have h3:=(Fm.1 h1).1;omega
   obtain⟨b1,o1,n',rfl,hb1n,hn',hat⟩:=bO HR.n hl1';rw[h1] at hn';obtain rfl:=Fp hn';obtain⟨na,nl,nc,hnr,z0,z1,d0,d1,d2,d3,d4,d5,d6⟩:=aU hat;have HJn:=ae h1;have HNn:=ae h2;have HCn:=ae d1;have HBn:=ae hb1n;have hj11:decide ((j1:Int)<0)=G_:=aH
   have hbn:=Fw hb1n HB.size;have n1:=(aj HB.out hb1n).trans d1;clear hn' hat hnr z0 z1 d0 d1 d2 d3 d4 d5 d6 h1 h2 hb1n;by_cases hz0:p.z=⟨#[]⟩
   ·have hq2:=cC hz0;have HPa:Hid (PSa c p):=Hd ⟨j1,n,HJn.out,HNn.out,He hz0⟩;clear hz0;obtain⟨Gk,Gr,HW⟩:=bJ;have k0:=λq:Wd w1=>q.slot (o:=0) Gk.out rfl;obtain⟨r0,r1,r2,r3,r4,r5⟩:=sl6 Gr;have nw:=λq:Wd w1=>(q.cell hbn).trans n1;have hne0:=Wd.ne w1;go_wp2_with fail;refine ag au au ?_;repeat (go_big_quiet_step (first|fail))
    refine wpQuiet_nil ?_;rintro _ ⟨q0,rfl⟩;obtain⟨HB2,Ck,Cr,CHTp⟩:=nG;clear hne0 HW HB k0 r0 r1 r2 r3 r4 r5 nw Gk Gr Bk Br HTp hbn n1;have HB:=HB2;clear HB2;have HTp:=CHTp;clear CHTp;have Bk:=Ck;clear Ck;have Br:=Cr;clear Cr;clear hq2;exact xg
   have hq2:=bg hz0;by_cases hz1:n.z=p.z
   ·have hq3:=aW hz1;have HPa:Hid (PSa c p):=Hd ⟨j1,n,HJn.out,HNn.out,Hd hz1⟩;clear hz0 hz1;obtain⟨Gk,Gr,HW⟩:=bJ;have k0:=λq:Wd w1=>q.slot (o:=0) Gk.out rfl;obtain⟨r0,r1,r2,r3,r4,r5⟩:=sl6 Gr;have nw:=λq:Wd w1=>(q.cell hbn).trans n1;have hne0:=Wd.ne w1;go_wp2_with fail;refine ag au au ?_;repeat (go_big_quiet_step (first|fail))
    refine wpQuiet_nil ?_;rintro _ ⟨q0,rfl⟩;obtain⟨HB2,Ck,Cr,CHTp⟩:=nG;clear hne0 HW HB k0 r0 r1 r2 r3 r4 r5 nw Gk Gr Bk Br HTp hbn n1;have HB:=HB2;clear HB2;have HTp:=CHTp;clear CHTp;have Bk:=Ck;clear Ck;have Br:=Cr;clear Cr;clear hq2 hq3;exact xg
   ·have hq3:=bH hz1;have HZ0:=ae hz0;have HZ1:=ae hz1;clear hz0 hz1;obtain⟨Gk,Gr,HW⟩:=bJ;have k0:=λq:Wd w1=>q.slot (o:=0) Gk.out rfl;obtain⟨r0,r1,r2,r3,r4,r5⟩:=sl6 Gr;have nw:=λq:Wd w1=>(q.cell hbn).trans n1;have hne0:=Wd.ne w1;go_wp2_with fail;refine ag au au ?_;repeat (go_big_quiet_step (first|fail))
    refine wpQuiet_nil ?_;rintro _ ⟨q0,rfl⟩;obtain⟨HB2,Ck,Cr,CHTp⟩:=nG;clear hne0 HW HB k0 r0 r1 r2 r3 r4 r5 nw Gk Gr Bk Br HTp hbn n1;have HB:=HB2;clear HB2;have HTp:=CHTp;clear CHTp;have Bk:=Ck;clear Ck;have Br:=Cr;clear Cr;go_wp2;go_ret;refine av.f (λh=>?_) HB.out;rcases (h.1 k p HXp.out).1 with h2|⟨i,n',h2,h3,h4⟩
    ·exact HEm.out h2
    ·obtain⟨_,rfl⟩:=HNR.inj h2 HJn.out (h3.trans HNn.symm);rcases h4 with h4|h4
     ·exact HZ0.out h4
     ·exact HZ1.out h4
  ·obtain rfl:l5=k:=af
   have HQ1:Hid (∀(k:Nat) p,c.ps[k]?=F_ p->PS c k p):=λj z hz=>HQ.out j z da hz;clear HQ;go_wp2;clear pk;go_loopw [9] (λi wr=> ∃k:Nat,k<=l1/\i=GZ G6 k/\Hid (∀(j:Nat) n,j<k->c.ns[j]?=F_ n->cpuOf n.n c.ps<=n.c)/\Hid (Below w.heap.size w wr)/\Hid (wr.heap[w.heap.size]?=F_ (G7 (clo6 a1 l1 y1 a2 l2 y2 a3 l3 y3 a4 l4 y4 a5 l5 y5 c.now) 29 (0,0)))) (λi _=>l1 - (intOf i).toNat);case atStart=>exact⟨0,by omega,rfl,λ_ _ h=>absurd h af,HB.out,Bk.out⟩
   case round=>
    obtain⟨k,hk,rfl,HQ,HB,Bk⟩:=hrel;have pk:=ck0 Bk;by_cases hlt:k<l1
    ·obtain⟨b,o,n,rfl,hb,hx,hat⟩:=bO (HR.n.below HB.out) hlt;obtain⟨va,vl,vc,hvr,z0,z1,c0,c1,c2,c3,c4,c5,c6⟩:=aU hat;have HXn:=ae hx;clear hat hx z0 z1 hvr;have Gk:=Bk;have HW:=HB;obtain⟨k0,k1,k2,k3,k4,k5⟩:=sl6 Gk;have n0w:=λq:Wd wr=>(q.cell hb).trans c0;have n2w:=λq:Wd wr=>(q.cell hb).trans c2;have hne0:=Wd.ne wr;have HC0:=ae (λq:Wd wr=>iL ⟨(F_ ⟨b,o,U⟩),l1,y1,a2,l2,y2,a3,l3,y3,a4,l4,y4,a5,l5,y5⟩ c.now c.ps n.n q.w (HR.p.below (HW.trans (q.b.mono HW.size))) HL5.out HPC.out);go_wp2_with fail;refine ag au au ?_;repeat (go_big_quiet_step (first|(go_at_call 100;exact Calls.wide (HC0.out _))|fail))
     refine wpQuiet_nil ?_;rintro _ ⟨q1,rfl⟩;obtain⟨HB1,Ck⟩:=eK;clear hne0 HW HB HC0 k0 k1 k2 k3 k4 k5 n0w n2w Gk Bk pk c0 c1 c2 c3 c4 c5 c6 hb;have HB:=HB1;clear HB1;have Bk:=Ck;clear Ck;by_cases hq:cpuOf n.n c.ps<=n.c
     ·exact yL
     ·have HCq:=ae hq;go_wp2;go_ret;exact av.f (λh=>by have h1:cpuOf n.n c.ps<=n.c:=h.2 k n HXn.out;have h2:=HCq.out;omega) HB.out
    ·exact yg
def tM(c:Cl):Prop:=(∀(j:Nat) z,c.vs[j]?=F_ z->AQ1 c z)/\∀(j:Nat) n,c.ns[j]?=F_ n->onOf n.n c.vs<=n.s
theorem kG(d:Ad) (c:Cl) (w:World) (hr:aE w d c.raw) (hn:aJ Nd.n c.ns) (hvs8:c.vs.length<=8):
  Calls Tryz.prog 53 #[Hc #[J d.a1 d.l1 d.c1,J d.a2 d.l2 d.c2,J d.a3 d.l3 d.c3,J d.a4 d.l4 d.c4,J d.a5 d.l5 d.c5,GZ G6 c.now]] w (av (tM c) w):=by
 obtain⟨a1,l1,y1,a2,l2,y2,a3,l3,y3,a4,l4,y4,a5,l5,y5⟩:=d;dsimp only;obtain⟨HR,hl1,hm1,hl3⟩:=nK;have hm3:l3<=9223372036854775807:=FA hr.v.2.1 hr.v.2.2.1;clear hr;have HNR:=ae hn;have HL3:=ae hvs8;clear hn hvs8;go_enter Tryz.func53,Tryz.ntmps53;go_wp2;go_loopw [3] (λi wr=> ∃k:Nat,k<=l3/\i=GZ G6 k/\Hid (∀(j:Nat) z,j<k->c.vs[j]?=F_ z->AQ1 c z)/\Hid (Below w.heap.size w wr)/\Hid (wr.heap[w.heap.size]?=F_ (G7 (clo6 a1 l1 y1 a2 l2 y2 a3 l3 y3 a4 l4 y4 a5 l5 y5 c.now) 29 (0,0)))) (λi _=>l3 - (intOf i).toNat);case atStart=>exact⟨0,by omega,rfl,λ_ _ h=>absurd h af,aq _ _,Fs⟩
 case round=>
  obtain⟨k,hk,rfl,HQ,HB,Bk⟩:=hrel;have pk:=ck2 Bk;by_cases hlt:k<l3
  ·obtain⟨b,o,v,rfl,hb,hx,hat⟩:=bM (HR.v.below HB.out) hlt;obtain⟨va,vl,vc,hvr,z0,z2,z3,z5,c0,c1,c2,c3,c4,c5,c6,c7⟩:=aP hat;have HXv:=ae hx;have HTv:=ae hvr;clear hat hx z0 z2 z3 z5 hvr;have hvl:=HTv.1;have hvc:=FA HTv.2.1 HTv.2.2.1;have HVL:=ae hvl;clear hvl;have KV:Hid ((wr.alloc (G7 (vov v va vl vc) 95)).heap[w.heap.size]?=F_ (G7 (clo6 a1 l1 y1 a2 l2 y2 (F_ ⟨b,o,U⟩) l3 y3 a4 l4 y4 a5 l5 y5 c.now) 29 (0,0))):=(Fy wr (G7 (vov v va vl vc) 95) _ (aa Bk.out)).trans Bk.out;obtain⟨GV,BV⟩:=A9;have TT:=ae (HTv.below (aq wr (G7 (vov v va vl vc) 95)));obtain⟨W,hW⟩:∃W,W=wr.alloc (G7 (vov v va vl vc) 95):=⟨_,rfl⟩;obtain⟨gb,hgb⟩:∃gb,gb=wr.heap.size:=⟨_,rfl⟩;rw[<-hW] at KV GV BV TT;rw[<-hgb] at GV;go_wp2;rw[<-hW,<-hgb];clear hW hgb HB Bk HTv c0 c1 c2 c3 c4 c5 c6 c7 hb pk;go_loopw [5] (λi wr=> ∃kq:Nat,kq<=vl/\i=GZ G6 kq/\Hid (∀(j:Nat) t,j<kq->v.zs[j]?=F_ t->∃(i:Nat) (n:Nd),c.ns[i]?=F_ n/\n.n=t/\n.z=v.z)/\Hid (Below W.heap.size W wr)) (λi _=>vl - (intOf i).toNat);case atStart=>exact⟨0,by omega,rfl,λ_ _ h=>absurd h af,Ft _ _⟩
   case round=>
    obtain⟨kq,hkq,rfl,HQ2,HBW⟩:=hrel;obtain⟨HB,Bk⟩:=nF;have Bv:=upK GV HBW.out;have pv:=ck7 Bv;by_cases hlt2:kq<vl
    ·obtain⟨b2,o2,t,rfl,hb,hx,hc,hsz⟩:=(TT.below HBW.out).at hlt2;have HXt:=ae hx;clear hx hsz;by_cases hnn:∃(i:Nat) (n:Nd),c.ns[i]?=F_ n/\n.n=t;rotate_left
     ·have HH:=ae hnn;clear hnn;have Gk:=Bk;have Gv:=Bv;obtain⟨HW,k0,k1,k2,k3,k4,k5⟩:=rT;have v7:=λq:Wd wr=>q.slot (o:=7) Gv.out rfl;obtain⟨tw,hne0⟩:=jt;have HC0:=ae (λq:Wd wr=>sJ ⟨a1,l1,y1,a2,l2,y2,(F_ ⟨b,o,U⟩),l3,y3,a4,l4,y4,a5,l5,y5⟩ c.now c.ns t q.w (HR.n.below (HW.trans (q.b.mono HW.size))) (λi n h1 h2=>HH.out ⟨i,n,h1,h2⟩));go_wp2_with fail;refine ag au au ?_;repeat (go_big_quiet_step (first|(go_at_call 28;exact Calls.wide (HC0.out _))|fail))
      refine wpQuiet_nil ?_;rintro _ ⟨q1,rfl⟩;obtain⟨HB1,Ck⟩:=eK;have Cv:=upK Gv q1.b;clear hne0 HW HB HC0 k0 k1 k2 k3 k4 k5 v7 tw Gk Gv Bk Bv pv;have HB:=HB1;clear HB1;have Bk:=Ck;clear Ck;have Bv:=Cv;clear Cv;obtain⟨Gk,Gv,HW,k0,v2,v7⟩:=uB;have hne0:=Wd.ne q1.w;go_wp2_with fail;refine ag au au ?_;repeat (go_big_quiet_step (first|fail))
      refine wpQuiet_nil ?_;rintro _ ⟨q2,rfl⟩;obtain⟨HB2,Ck⟩:=dU;have Cv:=upK Gv q2.b;clear hne0 HW HB k0 v2 v7 Gk Gv Bk Bv;have HB:=HB2;clear HB2;have Bk:=Ck;clear Ck;have Bv:=Cv;clear Cv;go_wp2;go_ret;refine av.f (λh=>?_) HB.out;obtain⟨i,n,h2,h3,_⟩:=(h.1 k v HXv.out) kq t HXt.out;exact HH.out ⟨i,n,h2,h3⟩
     obtain⟨j1,n,h1,h2⟩:=hnn;have hl1':j1<l1:=by have h3:=(Fm.1 h1).1;omega
     obtain⟨b1,o1,n',rfl,hb1n,hn',hat⟩:=bO HR.n hl1';rw[h1] at hn';obtain rfl:=Fp hn';obtain⟨na,nl,nc,hnr,z0,z1,d0,d1,d2,d3,d4,d5,d6⟩:=aU hat;have HJn:=ae h1;have HNn:=ae h2;have HCn:=ae d1;have HBn:=ae hb1n;have hj11:decide ((j1:Int)<0)=G_:=aH
     clear hn' hat hnr z0 z1 d0 d1 d2 d3 d4 d5 d6 h1 h2 hb1n;have Gk:=Bk;have Gv:=Bv;have HW:=HB;obtain⟨k0,k1,k2,k3,k4,k5⟩:=sl6 Gk;have v7:=λq:Wd wr=>q.slot (o:=7) Gv.out rfl;obtain⟨tw,hne0⟩:=jt;have HC0:=ae (λq:Wd wr=>eX ⟨(F_ ⟨b1,o1,U⟩),l1,y1,a2,l2,y2,(F_ ⟨b,o,U⟩),l3,y3,a4,l4,y4,a5,l5,y5⟩ c.now c.ns t q.w (HR.n.below (HW.trans (q.b.mono HW.size))) HNR.out HJn.out HNn.out);go_wp2_with fail;refine ag au au ?_;repeat (go_big_quiet_step (first|(go_at_call 28;exact Calls.wide (HC0.out _))|fail))
     refine wpQuiet_nil ?_;rintro _ ⟨q1,rfl⟩;obtain⟨HB1,Ck⟩:=eK;have Cv:=upK Gv q1.b;clear hne0 HW HB HC0 k0 k1 k2 k3 k4 k5 v7 tw Gk Gv Bk Bv pv hb hc;have HB:=HB1;clear HB1;have Bk:=Ck;clear Ck;have Bv:=Cv;clear Cv;have HBW1:=upB HBW q1.b;have hbn:=Fw HBn.out HB.size;have n1:=(aj HB.out HBn.out).trans HCn.out;clear HBW;by_cases hz:n.z=v.z
     ·have q8:=aW hz;have HZ:=ae hz;clear hz;obtain⟨Gk,Gv,HW,k0,v2,v7⟩:=uB;have nw:=λq:Wd q1.w=>(q.cell hbn).trans n1;have hne0:=Wd.ne q1.w;go_wp2_with fail;refine ag au au ?_;repeat (go_big_quiet_step (first|fail))
      refine wpQuiet_nil ?_;rintro _ ⟨q2,rfl⟩;obtain⟨HB2,Ck⟩:=dU;have Cv:=upK Gv q2.b;clear hne0 HW HB k0 v2 v7 nw Gk Gv Bk Bv hbn n1;have HB:=HB2;clear HB2;have Bk:=Ck;clear Ck;have Bv:=Cv;clear Cv;clear q8;go_wp2_with fail;refine⟨⟨kq+1,by omega,by go_num,λj s hj hs=>?_,HBW1.trans (q2.b.mono HBW1.size)⟩,by simp[intOf];omega⟩;by_cases e:j=kq
      ·subst e;rw[HXt.out] at hs;obtain rfl:=Fp hs;exact⟨j1,n,HJn.out,HNn.out,HZ.out⟩
      ·exact HQ2.out j s af hs
     ·have q8:=bH hz;have HZ:=ae hz;clear hz;obtain⟨Gk,Gv,HW,k0,v2,v7⟩:=uB;have nw:=λq:Wd q1.w=>(q.cell hbn).trans n1;have hne0:=Wd.ne q1.w;go_wp2_with fail;refine ag au au ?_;repeat (go_big_quiet_step (first|fail))
      refine wpQuiet_nil ?_;rintro _ ⟨q2,rfl⟩;obtain⟨HB2,Ck⟩:=dU;have Cv:=upK Gv q2.b;clear hne0 HW HB k0 v2 v7 nw Gk Gv Bk Bv hbn n1;have HB:=HB2;clear HB2;have Bk:=Ck;clear Ck;have Bv:=Cv;clear Cv;go_wp2;go_ret;refine av.f (λh=>?_) HB.out;obtain⟨i,m2,e1,e2,e3⟩:=(h.1 k v HXv.out) kq t HXt.out;obtain⟨_,rfl⟩:=HNR.inj e1 HJn.out (e2.trans HNn.symm);exact HZ.out e3
    ·exact B_
  ·obtain rfl:l3=k:=af
   have HQ1:Hid (∀(j:Nat) z,c.vs[j]?=F_ z->AQ1 c z):=λj z hz=>HQ.out j z da hz;clear HQ;go_wp2;clear pk;go_loopw [7] (λi wr=> ∃k:Nat,k<=l1/\i=GZ G6 k/\Hid (∀(j:Nat) n,j<k->c.ns[j]?=F_ n->onOf n.n c.vs<=n.s)/\Hid (Below w.heap.size w wr)/\Hid (wr.heap[w.heap.size]?=F_ (G7 (clo6 a1 l1 y1 a2 l2 y2 a3 l3 y3 a4 l4 y4 a5 l5 y5 c.now) 29 (0,0)))) (λi _=>l1 - (intOf i).toNat);case atStart=>exact⟨0,by omega,rfl,λ_ _ h=>absurd h af,HB.out,Bk.out⟩
   case round=>
    obtain⟨k,hk,rfl,HQ,HB,Bk⟩:=hrel;have pk:=ck0 Bk;by_cases hlt:k<l1
    ·obtain⟨b,o,n,rfl,hb,hx,hat⟩:=bO (HR.n.below HB.out) hlt;obtain⟨va,vl,vc,hvr,z0,z1,c0,c1,c2,c3,c4,c5,c6⟩:=aU hat;have HXn:=ae hx;clear hat hx z0 z1 hvr;have Gk:=Bk;have HW:=HB;obtain⟨k0,k1,k2,k3,k4,k5⟩:=sl6 Gk;have n0w:=λq:Wd wr=>(q.cell hb).trans c0;have n2w:=λq:Wd wr=>(q.cell hb).trans c3;have hne0:=Wd.ne wr;have HC0:=ae (λq:Wd wr=>rh ⟨(F_ ⟨b,o,U⟩),l1,y1,a2,l2,y2,a3,l3,y3,a4,l4,y4,a5,l5,y5⟩ c.now c.vs n.n q.w (HR.v.below (HW.trans (q.b.mono HW.size))) HL3.out);go_wp2_with fail;refine ag au au ?_;repeat (go_big_quiet_step (first|(go_at_call 101;exact Calls.wide (HC0.out _))|fail))
     refine wpQuiet_nil ?_;rintro _ ⟨q1,rfl⟩;obtain⟨HB1,Ck⟩:=eK;clear hne0 HW HB HC0 k0 k1 k2 k3 k4 k5 n0w n2w Gk Bk pk c0 c1 c2 c3 c4 c5 c6 hb;have HB:=HB1;clear HB1;have Bk:=Ck;clear Ck;by_cases hq:onOf n.n c.vs<=n.s
     ·exact yL
     ·have HCq:=ae hq;go_wp2;go_ret;exact av.f (λh=>by have h1:onOf n.n c.vs<=n.s:=h.2 k n HXn.out;have h2:=HCq.out;omega) HB.out
    ·exact yg
def mD(W:World):Fact:=λv w=> ∃g,v=Hf (F_ ⟨g,0,U⟩)/\W.heap.size<=g/\w.heap[g]?=F_ (G7 #[I ⟨#[]⟩,I ⟨#[]⟩,GZ G6 0,GZ G6 0,GZ G6 0,G8 G_,J U 0 0] 38 (0,0))
theorem mD.mono(W:World):Fact.ck (mD W):=by
 rintro v w w' ⟨g,h1,h2,h3⟩ hb;exact⟨g,h1,h2,(hb.block g (aa h3)).trans h3⟩
theorem D8 {v6:Value} (h:w.heap[g]?=F_ (G7 #[I ⟨#[]⟩,I ⟨#[]⟩,GZ G6 0,GZ G6 0,GZ G6 0,G8 G_,J U 0 0] 38 (0,0))):
  (((((((w.setCell ⟨g,0,U⟩ (v0)).setCell ⟨g,1,U⟩ (v1)).setCell ⟨g,2,U⟩ (v2)).setCell ⟨g,3,U⟩ (v3)).setCell ⟨g,4,U⟩ (v4)).setCell ⟨g,5,U⟩ (v5)).setCell ⟨g,6,U⟩ (v6)).heap[g]?=F_ (G7 #[v0,v1,v2,v3,v4,v5,v6] 38 (0,0)):=by
 have:=az (i:=6) (az (i:=5) (az (i:=4) (az (i:=3) (az (i:=2) (az (i:=1) (az (i:=0) h v0) v1) v2) v3) v4) v5) v6;simpa using this
theorem oN {v6:Value} (hg:W.heap.size<=g) (h:Below W.heap.size W w):Below W.heap.size W (((((((w.setCell ⟨g,0,U⟩ (v0)).setCell ⟨g,1,U⟩ (v1)).setCell ⟨g,2,U⟩ (v2)).setCell ⟨g,3,U⟩ (v3)).setCell ⟨g,4,U⟩ (v4)).setCell ⟨g,5,U⟩ (v5)).setCell ⟨g,6,U⟩ (v6)):=
 ak hg (ak hg (ak hg (ak hg (ak hg (ak hg (ak hg h))))))
def mK(c:Cl) (p:Pd) (n:Nd):Prop:=∀(j:Nat) t,p.zs[j]?=F_ t->∃v,bh c t v/\InL n.zs v.n
theorem jY(d:Ad) (c:Cl) (p:Pd) (pa:Option Addr) (pl pc:Nat) (j1:Nat) (n:Nd) (w:World) (hr:aE w d c.raw) (hn:aJ Nd.n c.ns) (hx:aJ Xd.n c.xs) (hv:aJ Vd.n c.vs) (hne:∀(j:Nat) v,c.vs[j]?=F_ v->¬v.n=⟨#[]⟩) (hp:aD w pa pl pc p.zs) (hj1:c.ns[j1]?=F_ n) (hnn:n.n=p.d) (hbd:∀(j:Nat) t,p.zs[j]?=F_ t->∃v,bh c t v):
  Calls Tryz.prog 71 #[Hc #[J d.a1 d.l1 d.c1,J d.a2 d.l2 d.c2,J d.a3 d.l3 d.c3,J d.a4 d.l4 d.c4,J d.a5 d.l5 d.c5,GZ G6 c.now],Hc #[I p.n,GZ G6 p.c,I p.z,J pa pl pc,I p.d,GZ G6 p.p]] w (av (mK c p n) w):=by
 obtain⟨a1,l1,y1,a2,l2,y2,a3,l3,y3,a4,l4,y4,a5,l5,y5⟩:=d;dsimp only;have HR:=ae hr;have hl1:c.ns.length=l1:=rJ
 have hl3:c.vs.length=l3:=j5
 clear hr;have HNR:=ae hn;obtain⟨HX,HV,HNE⟩:=fK;have HP:=ae hp;have HBD:=ae hbd;have hlc:=FA hp.2.1 hp.2.2.1;have hzl:=hp.1;have hl1':j1<l1:=by have h3:=(Fm.1 hj1).1;omega
 obtain⟨b1,o1,n',rfl,hb1n,hn',hat⟩:=bO HR.n hl1';rw[hj1] at hn';obtain rfl:=Fp hn';obtain⟨na,nl,nc,hnr,z0,z1,d0,d1,d2,d3,d4,d5,d6⟩:=aU hat;have HJn:=ae hj1;have HNn:=ae hnn;have HTn:=ae hnr;have HBn:=ae hb1n;have HD:Hid (w.cell? ⟨b1,o1+j1*7,U⟩=F_ (I n.n)/\w.cell? ⟨b1,o1+j1*7+1,U⟩=F_ (I n.z)/\w.cell? ⟨b1,o1+j1*7+2,U⟩=F_ (GZ G6 n.c)/\w.cell? ⟨b1,o1+j1*7+3,U⟩=F_ (GZ G6 n.s)/\w.cell? ⟨b1,o1+j1*7+4,U⟩=F_ (GZ G6 n.u)/\w.cell? ⟨b1,o1+j1*7+5,U⟩=F_ (G8 n.d)/\w.cell? ⟨b1,o1+j1*7+6,U⟩=F_ (J na nl nc)):=⟨d0,d1,d2,d3,d4,d5,d6⟩;clear hn' hat hnr z0 z1 d0 d1 d2 d3 d4 d5 d6 hj1 hnn hb1n hn hx hv hne hp hbd;obtain⟨W,hW0⟩:∃W,W=(w.alloc (G7 (clo6 (F_ ⟨b1,o1,U⟩) l1 y1 a2 l2 y2 a3 l3 y3 a4 l4 y4 a5 l5 y5 c.now) 29)).alloc (G7 (pov p pa pl pc) 40):=⟨_,rfl⟩;have GK:Hid (W.heap[w.heap.size]?=F_ (G7 (clo6 (F_ ⟨b1,o1,U⟩) l1 y1 a2 l2 y2 a3 l3 y3 a4 l4 y4 a5 l5 y5 c.now) 29 (0,0))):=by rw[hW0];exact dK _ _ _
 have GP:Hid (W.heap[w.heap.size+1]?=F_ (G7 (pov p pa pl pc) 40 (0,0))):=by rw[hW0];exact cL _ _ _
 have BW:Hid (Below w.heap.size w W):=by rw[hW0];exact aM _ _ _
 go_enter Tryz.func71,Tryz.ntmps71;go_wp2_with fail;rw[<-hW0];clear hW0;rename_i K0 hK0;refine aQ au rfl rfl au ?_;refine' Grow.stepC _ rfl ?_ ?_;rotate_left 1
 ·exact iX
 refine' Grow.stepC _ rfl ?_ ?_;rotate_left 1
 ·refine Obl.plain rfl ?_;intro ac wg K hsz hW hf hK;clear hsz;have e7:=hf 7 ah;simp[ai,Fo] at e7;exact vW
 refine' Grow.stepC _ rfl ?_ ?_;rotate_left 1
 ·refine Obl.plain rfl ?_;intro ac wg K hsz hW hf hK;clear hsz;have e2:=hf 2 ah;simp[ai,Fo] at e2;exact vW
 refine' Grow.stepC _ rfl ?_ ?_;rotate_left 1
 ·exact gL
 refine' Grow.stepC _ rfl ?_ ?_;rotate_left 1
 ·refine Obl.plain rfl ?_;intro ac wg K hsz hW hf hK;clear hsz;have e10:=hf 10 ah;simp[ai,Fo] at e10;clear hf;obtain⟨r0,r1,r2,r3,r4,r5⟩:=cs6 ((hW.block _ (aa GP.out)).trans GP.out);exact aO
 refine' Grow.stepC (GZ G6 j1) rfl ?_ ?_
 ·refine Obl.plain rfl ?_;intro ac wg K hsz hW hf hK;clear hsz;have e9:=hf 9 ah;simp[ai,Fo] at e9;have e11:=hf 11 ah;simp[ai,Fo] at e11;clear hf;go_simp;refine (eX ⟨(F_ ⟨b1,o1,U⟩),l1,y1,a2,l2,y2,a3,l3,y3,a4,l4,y4,a5,l5,y5⟩ c.now c.ns p.d _ (HR.n.below (BW.trans (hW.mono BW.size))) HNR.out HJn.out HNn.out).mono ?_;rintro e w5 ⟨rfl,hb5⟩;exact hK _ _ hb5 rfl
 refine' Grow.stepC _ rfl ?_ ?_;rotate_left 1
 ·refine Obl.plain rfl ?_;intro ac wg K hsz hW hf hK;clear hsz;have e8:=hf 8 ah;simp[ai,Fo] at e8;have e12:=hf 12 ah;simp[ai,Fo] at e12;clear hf;exact aO
 refine' Grow.stepC _ rfl ?_ ?_;rotate_left 1
 ·refine Obl.plain rfl ?_;intro ac wg K hsz hW hf hK;clear hsz;have e13:=hf 13 ah;simp[ai,Fo] at e13;clear hf;have hBg:=BW.trans (hW.mono BW.size);obtain⟨d0,d1,d2,d3,d4,d5,d6⟩:=HD.out;have g0:=(aj hBg HBn.out).trans d0;have g1:=(aj hBg HBn.out).trans d1;have g2:=(aj hBg HBn.out).trans d2;have g3:=(aj hBg HBn.out).trans d3;have g4:=(aj hBg HBn.out).trans d4;have g5:=(aj hBg HBn.out).trans d5;have g6:=(aj hBg HBn.out).trans d6;clear d0 d1 d2 d3 d4 d5 d6 hBg;exact aO
 refine Grow.step (mD W) rfl (mD.mono W) ?_ ?_
 ·exact jy
 refine Grow.done ?_;intro q wz hW hf;simp only[FH] at hf;obtain⟨⟨g5,h5,hbW,hgb⟩,h14,-⟩:=hf;have r0:=ck0 hgb;have r1:=ck1 hgb;have r2:=ck2 hgb;have r3:=ck3 hgb;have r4:=ck4 hgb;have r5:=ck5 hgb;have r6:=ck6 hgb;have f0:=al hgb 0;have f1:=al hgb 1;have f2:=al hgb 2;have f3:=al hgb 3;have f4:=al hgb 4;have f5:=al hgb 5;have f6:=al hgb 6;have GN:=ae (D8 (v0:=I n.n) (v1:=I n.z) (v2:=GZ G6 n.c) (v3:=GZ G6 n.s) (v4:=GZ G6 n.u) (v5:=G8 n.d) (v6:=J na nl nc) hgb);have BN:=ae (oN (v0:=I n.n) (v1:=I n.z) (v2:=GZ G6 n.c) (v3:=GZ G6 n.s) (v4:=GZ G6 n.u) (v5:=G8 n.d) (v6:=J na nl nc) hbW hW);clear hgb hW;intro K hK;rw[if_pos cQ];simp only[aN,F7,Act.put,FF,FL,FM,h5,h14];simp only[List.getLast];go_simp;refine hK _ _ ?_;refine hK0 _ _ ?_;clear hK hK0 K K0;generalize (((((((wz.setCell ⟨g5,0,U⟩ (I n.n)).setCell ⟨g5,1,U⟩ (I n.z)).setCell ⟨g5,2,U⟩ (GZ G6 n.c)).setCell ⟨g5,3,U⟩ (GZ G6 n.s)).setCell ⟨g5,4,U⟩ (GZ G6 n.u)).setCell ⟨g5,5,U⟩ (G8 n.d)).setCell ⟨g5,6,U⟩ (J na nl nc))=Y at GN BN ⊢;clear r0 f0 r1 f1 r2 f2 r3 f3 r4 f4 r5 f5 r6 f6;have KV:=upK GK BN.out;have PVv:=upK GP BN.out;have BV:=ae (BW.trans (BN.mono BW.size));clear GK GP BW BN hbW;have pp:=ck3 PVv;go_wp2;clear pp;go_loopw [6] (λi wr=> ∃k:Nat,k<=pl/\i=GZ G6 k/\Hid (∀(j:Nat) t,j<k->p.zs[j]?=F_ t->∃v,bh c t v/\InL n.zs v.n)/\Hid (Below Y.heap.size Y wr)) (λi _=>pl - (intOf i).toNat);case atStart=>exact⟨0,by omega,rfl,λ_ _ h=>absurd h af,Ft _ _⟩
 case round=>
  obtain⟨k,hk,rfl,HQ,HBY⟩:=hrel;have HB:=ae (BV.trans (HBY.mono BV.size));have Bk:=upK KV HBY.out;have Bp:=upK PVv HBY.out;have Bn:=upK GN HBY.out;have pp:=ck3 Bp;by_cases hlt:k<pl
  ·obtain⟨b,o,t,rfl,hb,hxt,hc,hsz⟩:=(HP.below HB.out).at hlt;have HXt:=ae hxt;clear hxt hsz;obtain⟨v,hbd⟩:=HBD.out k t HXt.out;obtain⟨j3,hj3⟩:=hbd.at;have hl3':j3<l3:=by have h1:=(Fm.1 hj3).1;omega
   obtain⟨b3,o3,v',rfl,hb3,hv',hat⟩:=bM HR.v hl3';rw[hj3] at hv';obtain rfl:=Fp hv';obtain⟨xa,xl,xc,hvr,z0,z2,z3,z5,d0,d1,d2,d3,d4,d5,d6,d7⟩:=aP hat;have HJ:=ae hj3;have HDb:=ae hbd;have hbv:=Fw hb3 HB.size;have v0:=(aj HB.out hb3).trans d0;clear hv' hat hvr z0 z2 z3 z5 d0 d1 d2 d3 d4 d5 d6 d7 hj3 hbd hb3;by_cases hin:InL n.zs v.n
   ·have HIn:=ae hin;clear hin;have Gk:=Bk;have Gp:=Bp;have Gn:=Bn;have HW:=HB;obtain⟨k0,k1,k2,k3,k4,k5⟩:=sl6 Gk;obtain⟨p3,n6,tw,vw,hne0,HC0⟩:=BF;have HC1:=ae (λq:Wd wr=>(bX na nl nc n.zs v.n q.w (HTn.below (HW.trans (q.b.mono HW.size)))).mono (λ_ _ h=>av.yes h HIn.out));go_wp2_with fail;refine ag au au ?_;repeat (go_big_quiet_step (first|(go_at_call 98;exact Calls.wide (HC0.out _))|(go_at_call 102;exact Calls.wide (HC1.out _))|fail))
    refine wpQuiet_nil ?_;rintro _ ⟨q2,rfl⟩;have HB1:=upB HW q2.b;have Ck:=upK Gk q2.b;have Cp:=upK Gp q2.b;have Cn:=upK Gn q2.b;clear hne0 HW HB HC0 HC1 k0 k1 k2 k3 k4 k5 p3 n6 tw vw Gk Gp Gn Bk Bp Bn pp hb hc hbv v0;have HB:=HB1;clear HB1;have Bk:=Ck;clear Ck;have Bp:=Cp;clear Cp;have Bn:=Cn;clear Cn;go_wp2_with fail;refine⟨⟨k+1,by omega,by go_num,λj s hj hs=>?_,HBY.trans (q2.b.mono HBY.size)⟩,by simp[intOf];omega⟩;by_cases e:j=k
    ·subst e;rw[HXt.out] at hs;obtain rfl:=Fp hs;exact⟨v,HDb.out,HIn.out⟩
    ·exact HQ.out j s af hs
   ·have HIn:=ae hin;clear hin;have Gk:=Bk;have Gp:=Bp;have Gn:=Bn;have HW:=HB;obtain⟨k0,k1,k2,k3,k4,k5⟩:=sl6 Gk;obtain⟨p3,n6,tw,vw,hne0,HC0⟩:=BF;have HC1:=ae (λq:Wd wr=>(bX na nl nc n.zs v.n q.w (HTn.below (HW.trans (q.b.mono HW.size)))).mono (λ_ _ h=>av.no h HIn.out));go_wp2_with fail;refine ag au au ?_;repeat (go_big_quiet_step (first|(go_at_call 98;exact Calls.wide (HC0.out _))|(go_at_call 102;exact Calls.wide (HC1.out _))|fail))
    refine wpQuiet_nil ?_;rintro _ ⟨q2,rfl⟩;have HB1:=upB HW q2.b;have Ck:=upK Gk q2.b;have Cp:=upK Gp q2.b;have Cn:=upK Gn q2.b;clear hne0 HW HB HC0 HC1 k0 k1 k2 k3 k4 k5 p3 n6 tw vw Gk Gp Gn Bk Bp Bn pp hb hc hbv v0;have HB:=HB1;clear HB1;have Bk:=Ck;clear Ck;have Bp:=Cp;clear Cp;have Bn:=Cn;clear Cn;go_wp2;go_ret;refine av.f (λh=>?_) HB.out;obtain⟨v2,e1,e2⟩:=h k t HXt.out;obtain rfl:=bh.inj HX.out HV.out HDb.out e1;exact HIn.out e2
  ·exact x8
theorem lN(d:Ad) (c:Cl) (w:World) (hr:aE w d c.raw) (hn:aJ Nd.n c.ns) (hx:aJ Xd.n c.xs) (hv:aJ Vd.n c.vs) (hne:∀(j:Nat) v,c.vs[j]?=F_ v->¬v.n=⟨#[]⟩) (hrun:∀(j:Nat) p,c.ps[j]?=F_ p->p.p=2->(∃(i:Nat) (n:Nd),c.ns[i]?=F_ n/\n.n=p.d)/\∀(j:Nat) t,p.zs[j]?=F_ t->∃v,bh c t v):
  Calls Tryz.prog 54 #[Hc #[J d.a1 d.l1 d.c1,J d.a2 d.l2 d.c2,J d.a3 d.l3 d.c3,J d.a4 d.l4 d.c4,J d.a5 d.l5 d.c5,GZ G6 c.now]] w (av (kE c) w):=by
 obtain⟨a1,l1,y1,a2,l2,y2,a3,l3,y3,a4,l4,y4,a5,l5,y5⟩:=d;dsimp only;obtain⟨HR,hl1,hm1,hl3⟩:=nK;obtain⟨hl5,hm5⟩:=jx;clear hr;have HNR:=ae hn;obtain⟨HX,HV,HNE⟩:=fK;have HRun:=ae hrun;clear hn hx hv hne hrun;go_enter Tryz.func54,Tryz.ntmps54;go_wp2;go_loopw [3] (λi wr=> ∃k:Nat,k<=l1/\i=GZ G6 k/\Hid (∀(j:Nat) z,j<k->c.ns[j]?=F_ z->tJ c z)/\Hid (Below w.heap.size w wr)/\Hid (wr.heap[w.heap.size]?=F_ (G7 (clo6 a1 l1 y1 a2 l2 y2 a3 l3 y3 a4 l4 y4 a5 l5 y5 c.now) 29 (0,0)))) (λi _=>l1 - (intOf i).toNat);case atStart=>exact⟨0,by omega,rfl,λ_ _ h=>absurd h af,aq _ _,Fs⟩
 case round=>
  obtain⟨k,hk,rfl,HQ,HB,Bk⟩:=hrel;have pk:=ck0 Bk;by_cases hlt:k<l1
  ·obtain⟨b,o,n,rfl,hb,hx,hat⟩:=bO (HR.n.below HB.out) hlt;obtain⟨va,vl,vc,hvr,z0,z1,c0,c1,c2,c3,c4,c5,c6⟩:=aU hat;have HXn:=ae hx;have HTn:=ae hvr;clear hat hx z0 z1 hvr;have hvl:=HTn.1;have hvc:=FA HTn.2.1 HTn.2.2.1;have HVL:=ae hvl;clear hvl;have KV:Hid ((wr.alloc (G7 #[I n.n,I n.z,GZ G6 n.c,GZ G6 n.s,GZ G6 n.u,G8 n.d,J va vl vc] 38)).heap[w.heap.size]?=F_ (G7 (clo6 (F_ ⟨b,o,U⟩) l1 y1 a2 l2 y2 a3 l3 y3 a4 l4 y4 a5 l5 y5 c.now) 29 (0,0))):=(Fy wr (G7 #[I n.n,I n.z,GZ G6 n.c,GZ G6 n.s,GZ G6 n.u,G8 n.d,J va vl vc] 38) _ (aa Bk.out)).trans Bk.out;have GV:Hid ((wr.alloc (G7 #[I n.n,I n.z,GZ G6 n.c,GZ G6 n.s,GZ G6 n.u,G8 n.d,J va vl vc] 38)).heap[wr.heap.size]?=F_ (G7 #[I n.n,I n.z,GZ G6 n.c,GZ G6 n.s,GZ G6 n.u,G8 n.d,J va vl vc] 38 (0,0))):=Fs;have BV:=ae (HB.trans ((aq wr (G7 #[I n.n,I n.z,GZ G6 n.c,GZ G6 n.s,GZ G6 n.u,G8 n.d,J va vl vc] 38)).mono HB.size));have TT:=ae (HTn.below (aq wr (G7 #[I n.n,I n.z,GZ G6 n.c,GZ G6 n.s,GZ G6 n.u,G8 n.d,J va vl vc] 38)));obtain⟨W,hW⟩:∃W,W=wr.alloc (G7 #[I n.n,I n.z,GZ G6 n.c,GZ G6 n.s,GZ G6 n.u,G8 n.d,J va vl vc] 38):=⟨_,rfl⟩;obtain⟨gb,hgb⟩:∃gb,gb=wr.heap.size:=⟨_,rfl⟩;rw[<-hW] at KV GV BV TT;rw[<-hgb] at GV;go_wp2;rw[<-hW,<-hgb];clear hW hgb HB Bk HTn c0 c1 c2 c3 c4 c5 c6 hb pk;go_loopw [5] (λi wr=> ∃kq:Nat,kq<=vl/\i=GZ G6 kq/\Hid (∀(j:Nat) t,j<kq->n.zs[j]?=F_ t->∃(i:Nat) (v:Vd),c.vs[i]?=F_ v/\v.n=t/\(n.d=Hb\/InL v.zs n.n))/\Hid (Below W.heap.size W wr)) (λi _=>vl - (intOf i).toNat);case atStart=>exact⟨0,by omega,rfl,λ_ _ h=>absurd h af,Ft _ _⟩
   case round=>
    obtain⟨kq,hkq,rfl,HQ2,HBW⟩:=hrel;obtain⟨HB,Bk⟩:=nF;have Bv:=upK GV HBW.out;have pv:=ck6 Bv;by_cases hlt2:kq<vl
    ·obtain⟨b2,o2,t,rfl,hb,hx,hc,hsz⟩:=(TT.below HBW.out).at hlt2;have HXt:=ae hx;clear hx hsz;by_cases hnn:∃(i:Nat) (v:Vd),c.vs[i]?=F_ v/\v.n=t;rotate_left
     ·have HH:=ae hnn;clear hnn;have Gk:=Bk;have Gv:=Bv;obtain⟨HW,k0,k1,k2,k3,k4,k5⟩:=rT;have v6:=λq:Wd wr=>q.slot (o:=6) Gv.out rfl;obtain⟨tw,hne0⟩:=jt;have HC0:=ae (λq:Wd wr=>eW ⟨(F_ ⟨b,o,U⟩),l1,y1,a2,l2,y2,a3,l3,y3,a4,l4,y4,a5,l5,y5⟩ c.now c.vs t q.w (HR.v.below (HW.trans (q.b.mono HW.size))) (λi v h1 h2=>HH.out ⟨i,v,h1,h2⟩));go_wp2_with fail;refine ag au au ?_;repeat (go_big_quiet_step (first|(go_at_call 97;exact Calls.wide (HC0.out _))|fail))
      refine wpQuiet_nil ?_;rintro _ ⟨q1,rfl⟩;obtain⟨HB1,Ck⟩:=eK;have Cv:=upK Gv q1.b;clear hne0 HW HB HC0 k0 k1 k2 k3 k4 k5 v6 tw Gk Gv Bk Bv pv;have HB:=HB1;clear HB1;have Bk:=Ck;clear Ck;have Bv:=Cv;clear Cv;obtain⟨Gk,Gv,HW,k2,v0,v2,v5,v6⟩:=rS;have hne0:=Wd.ne q1.w;go_wp2_with fail;refine ag au au ?_;repeat (go_big_quiet_step (first|fail))
      refine wpQuiet_nil ?_;rintro _ ⟨q2,rfl⟩;obtain⟨HB2,Ck⟩:=dU;have Cv:=upK Gv q2.b;clear hne0 HW HB k2 v0 v2 v5 v6 Gk Gv Bk Bv;have HB:=HB2;clear HB2;have Bk:=Ck;clear Ck;have Bv:=Cv;clear Cv;go_wp2;go_ret;refine av.f (λh=>?_) HB.out;obtain⟨i,v,h2,h3,_⟩:=(h.1 k n HXn.out) kq t HXt.out;exact HH.out ⟨i,v,h2,h3⟩
     obtain⟨j3,v,h1,h2⟩:=hnn;have hl3':j3<l3:=by have h3:=(Fm.1 h1).1;omega
     obtain⟨b3,o3,v',rfl,hb3,hv',hat⟩:=bM HR.v hl3';rw[h1] at hv';obtain rfl:=Fp hv';obtain⟨xa,xl,xc,hvr,z0,z2,z3,z5,d0,d1,d2,d3,d4,d5,d6,d7⟩:=aP hat;have HJ:=ae h1;have HNv:=ae h2;have HTx:=ae hvr;have HC7:=ae d7;have HB3:=ae hb3;have hj31:decide ((j3:Int)<0)=G_:=aH
     clear hv' hat hvr z0 z2 z3 z5 d0 d1 d2 d3 d4 d5 d6 d7 h1 h2 hb3;have Gk:=Bk;have Gv:=Bv;have HW:=HB;obtain⟨k0,k1,k2,k3,k4,k5⟩:=sl6 Gk;have v6:=λq:Wd wr=>q.slot (o:=6) Gv.out rfl;obtain⟨tw,hne0⟩:=jt;have HC0:=ae (λq:Wd wr=>dN ⟨(F_ ⟨b,o,U⟩),l1,y1,a2,l2,y2,(F_ ⟨b3,o3,U⟩),l3,y3,a4,l4,y4,a5,l5,y5⟩ c.now c.vs t q.w (HR.v.below (HW.trans (q.b.mono HW.size))) HV.out HJ.out HNv.out);go_wp2_with fail;refine ag au au ?_;repeat (go_big_quiet_step (first|(go_at_call 97;exact Calls.wide (HC0.out _))|fail))
     refine wpQuiet_nil ?_;rintro _ ⟨q1,rfl⟩;obtain⟨HB1,Ck⟩:=eK;have Cv:=upK Gv q1.b;clear hne0 HW HB HC0 k0 k1 k2 k3 k4 k5 v6 tw Gk Gv Bk Bv pv hb hc;have HB:=HB1;clear HB1;have Bk:=Ck;clear Ck;have Bv:=Cv;clear Cv;have HBW1:=upB HBW q1.b;have hbv:=Fw HB3.out HB.size;have v7:=(aj HB.out HB3.out).trans HC7.out;clear HBW;rcases Gq n.d with hd|hd
     ·have HDd:=ae hd;clear hd;have Bv2:Hid (q1.w.heap[gb]?=F_ (G7 #[I n.n,I n.z,GZ G6 n.c,GZ G6 n.s,GZ G6 n.u,G8 Hb,J (F_ ⟨b2,o2,U⟩) vl vc] 38 (0,0))):=by have:=Bv.out;rw[HDd.out] at this;exact this
      clear Bv;have Bv:=Bv2;clear Bv2;obtain⟨Gk,Gv,HW,k2,v0,v2,v5,v6⟩:=rS;have vw:=λq:Wd q1.w=>(q.cell hbv).trans v7;have hne0:=Wd.ne q1.w;go_wp2_with fail;refine ag au au ?_;repeat (go_big_quiet_step (first|fail))
      refine wpQuiet_nil ?_;rintro _ ⟨q2,rfl⟩;obtain⟨HB2,Ck⟩:=dU;have Cv:=upK Gv q2.b;clear hne0 HW HB k2 v0 v2 v5 v6 vw Gk Gv Bk Bv hbv v7;have HB:=HB2;clear HB2;have Bk:=Ck;clear Ck;have Bv:=Cv;clear Cv;go_wp2_with fail;refine⟨⟨kq+1,by omega,by go_num,λj s hj hs=>?_,HBW1.trans (q2.b.mono HBW1.size)⟩,by simp[intOf];omega⟩;by_cases e:j=kq
      ·subst e;rw[HXt.out] at hs;obtain rfl:=Fp hs;exact⟨j3,v,HJ.out,HNv.out,He HDd.out⟩
      ·exact HQ2.out j s af hs
     ·have HDd:=ae hd;clear hd;have Bv2:Hid (q1.w.heap[gb]?=F_ (G7 #[I n.n,I n.z,GZ G6 n.c,GZ G6 n.s,GZ G6 n.u,G8 G_,J (F_ ⟨b2,o2,U⟩) vl vc] 38 (0,0))):=by have:=Bv.out;rw[HDd.out] at this;exact this
      clear Bv;have Bv:=Bv2;clear Bv2;by_cases hin:InL v.zs n.n
      ·have HIn:=ae hin;clear hin;obtain⟨Gk,Gv,HW,k2,v0,v2,v5,v6⟩:=rS;have vw:=λq:Wd q1.w=>(q.cell hbv).trans v7;have hne0:=Wd.ne q1.w;have HC0:=ae (λq:Wd q1.w=>(bX xa xl xc v.zs n.n q.w (HTx.below (HW.trans (q.b.mono HW.size)))).mono (λ_ _ h=>av.yes h HIn.out));go_wp2_with fail;refine ag au au ?_;repeat (go_big_quiet_step (first|(go_at_call 102;exact Calls.wide (HC0.out _))|fail))
       refine wpQuiet_nil ?_;rintro _ ⟨q2,rfl⟩;obtain⟨HB2,Ck⟩:=dU;have Cv:=upK Gv q2.b;clear hne0 HW HB HC0 k2 v0 v2 v5 v6 vw Gk Gv Bk Bv hbv v7;have HB:=HB2;clear HB2;have Bk:=Ck;clear Ck;have Bv:=Cv;clear Cv;go_wp2_with fail;refine⟨⟨kq+1,by omega,by go_num,λj s hj hs=>?_,HBW1.trans (q2.b.mono HBW1.size)⟩,by simp[intOf];omega⟩;by_cases e:j=kq
       ·subst e;rw[HXt.out] at hs;obtain rfl:=Fp hs;exact⟨j3,v,HJ.out,HNv.out,Hd HIn.out⟩
       ·exact HQ2.out j s af hs
      ·have HIn:=ae hin;clear hin;obtain⟨Gk,Gv,HW,k2,v0,v2,v5,v6⟩:=rS;have vw:=λq:Wd q1.w=>(q.cell hbv).trans v7;have hne0:=Wd.ne q1.w;have HC0:=ae (λq:Wd q1.w=>(bX xa xl xc v.zs n.n q.w (HTx.below (HW.trans (q.b.mono HW.size)))).mono (λ_ _ h=>av.no h HIn.out));go_wp2_with fail;refine ag au au ?_;repeat (go_big_quiet_step (first|(go_at_call 102;exact Calls.wide (HC0.out _))|fail))
       refine wpQuiet_nil ?_;rintro _ ⟨q2,rfl⟩;obtain⟨HB2,Ck⟩:=dU;have Cv:=upK Gv q2.b;clear hne0 HW HB HC0 k2 v0 v2 v5 v6 vw Gk Gv Bk Bv hbv v7;have HB:=HB2;clear HB2;have Bk:=Ck;clear Ck;have Bv:=Cv;clear Cv;go_wp2;go_ret;refine av.f (λh=>?_) HB.out;obtain⟨i,v2,e1,e2,e3⟩:=(h.1 k n HXn.out) kq t HXt.out;obtain⟨_,rfl⟩:=HV.inj e1 HJ.out (e2.trans HNv.symm);rcases e3 with e3|e3
       ·rw[HDd.out] at e3;cases e3
       ·exact HIn.out e3
    ·obtain rfl:vl=kq:=af
     go_wp2_with fail;refine⟨⟨k+1,by omega,by go_num,λj z hj hz=>?_,HB.out,Bk.out⟩,by simp[intOf];omega⟩;by_cases e:j=k
     ·subst e;rw[HXn.out] at hz;exact wm
     ·exact HQ.out j z af hz
  ·obtain rfl:l1=k:=af
   have HQ1:Hid (∀(j:Nat) z,c.ns[j]?=F_ z->tJ c z):=λj z hz=>HQ.out j z da hz;clear HQ;go_wp2;clear pk;go_loopw [7] (λi wr=> ∃k:Nat,k<=l5/\i=GZ G6 k/\Hid (∀(j:Nat) z,j<k->c.ps[j]?=F_ z->MQ2 c z)/\Hid (Below w.heap.size w wr)/\Hid (wr.heap[w.heap.size]?=F_ (G7 (clo6 a1 l1 y1 a2 l2 y2 a3 l3 y3 a4 l4 y4 a5 l5 y5 c.now) 29 (0,0)))) (λi _=>l5 - (intOf i).toNat);case atStart=>exact⟨0,by omega,rfl,λ_ _ h=>absurd h af,HB.out,Bk.out⟩
   case round=>
    obtain⟨k,hk,rfl,HQ,HB,Bk⟩:=hrel;have pk:=ck4 Bk;by_cases hlt:k<l5
    ·obtain⟨b,o,p,rfl,hb,hx,hat⟩:=bN (HR.p.below HB.out) hlt;obtain⟨va,vl,vc,hvr,z0,z2,z4,c0,c1,c2,c3,c4,c5⟩:=aR hat;have HXp:=ae hx;have HTp:=ae hvr;clear hat hx z0 z2 z4 hvr;by_cases hp2:p.p=2;rotate_left
     ·have HP2:=ae hp2;have hp3:(p.p==2)=G_:=by simpa using hp2
      have Gk:Hid ((wr.alloc (G7 #[I p.n,GZ G6 p.c,I p.z,J va vl vc,I p.d,GZ G6 p.p] 40)).heap[w.heap.size]?=F_ (G7 (clo6 a1 l1 y1 a2 l2 y2 a3 l3 y3 a4 l4 y4 (F_ ⟨b,o,U⟩) l5 y5 c.now) 29 (0,0))):=(Fy _ _ _ (aa Bk.out)).trans (Bk.out);have Gr:Hid ((wr.alloc (G7 #[I p.n,GZ G6 p.c,I p.z,J va vl vc,I p.d,GZ G6 p.p] 40)).heap[wr.heap.size]?=F_ (G7 #[I p.n,GZ G6 p.c,I p.z,J va vl vc,I p.d,GZ G6 p.p] 40 (0,0))):=Fs;have HW:Hid (Below w.heap.size w (wr.alloc (G7 #[I p.n,GZ G6 p.c,I p.z,J va vl vc,I p.d,GZ G6 p.p] 40))):=(HB.trans ((aq _ _).mono HB.size));obtain⟨k0,k1,k2,k3,k4,k5⟩:=sl6 Gk;obtain⟨r0,r1,r2,r3,r4,r5⟩:=sl6 Gr;have hne0:=Wd.ne (wr.alloc (G7 #[I p.n,GZ G6 p.c,I p.z,J va vl vc,I p.d,GZ G6 p.p] 40));go_wp2_with fail;refine ag au au ?_;repeat (go_big_quiet_step (first|fail))
      refine wpQuiet_nil ?_;rintro _ ⟨q1,rfl⟩;have HB1:=upB HW q1.b;obtain⟨Ck,Cr⟩:=cf;clear hne0 HW HB k0 k1 k2 k3 k4 k5 r0 r1 r2 r3 r4 r5 Gk Gr Bk pk hb c0 c1 c2 c3 c4 c5;have HB:=HB1;clear HB1;have Bk:=Ck;clear Ck;clear Cr;clear hp2 hp3;go_wp2_with fail;refine⟨⟨k+1,by omega,by go_num,λj z hj hz=>?_,HB.out,Bk.out⟩,by simp[intOf];omega⟩;exact xZ
     have HP2:=ae hp2;obtain⟨⟨j1,n,h1,h2⟩,hbd⟩:=HRun.out k p HXp.out hp2;rw[hp2] at c5;clear hp2;have HBD:=ae hbd;have hl1':j1<l1:=by have h3:=(Fm.1 h1).1;omega
     obtain⟨b1,o1,n',rfl,hb1n,hn',hat⟩:=bO HR.n hl1';rw[h1] at hn';obtain rfl:=Fp hn';obtain⟨na,nl,nc,hnr,z0,z1,d0,d1,d2,d3,d4,d5,d6⟩:=aU hat;have HJn:=ae h1;have HNn:=ae h2;have e5:=(aj HB.out hb1n).trans d5;have hbn:=Fw hb1n HB.size;clear hn' hat hnr z0 z1 d0 d1 d2 d3 d4 d5 d6 h1 h2 hb1n hbd;rcases Gq n.d with hd|hd
     ·have HDd:=ae hd;rw[hd] at e5;clear hd;obtain⟨hbnv,e5v⟩:=uH;obtain⟨Gk,Gr,HW⟩:=Da;obtain⟨k0,k1,k2,k3,k4,k5⟩:=sl6 Gk;obtain⟨r0,r1,r2,r3,r4,r5⟩:=sl6 Gr;obtain⟨nw,hne0,HC0⟩:=uJ;go_wp2_with fail;refine ag au au ?_;repeat (go_big_quiet_step (first|(go_at_call 28;exact Calls.wide (HC0.out _))|fail))
      refine wpQuiet_nil ?_;rintro _ ⟨q1,rfl⟩;have HB1:=upB HW q1.b;obtain⟨Ck,Cr⟩:=cf;clear hne0 HW HB HC0 k0 k1 k2 k3 k4 k5 r0 r1 r2 r3 r4 r5 nw Gk Gr Bk pk hb hbn e5 hbnv e5v c0 c1 c2 c3 c4 c5;have HB:=HB1;clear HB1;have Bk:=Ck;clear Ck;clear Cr;go_wp2;go_ret;refine av.f (λh=>?_) HB.out;obtain⟨i,m,e1,e2,e3,_⟩:=(h.2 k p HXp.out) HP2.out;obtain⟨_,rfl⟩:=HNR.inj e1 HJn.out (e2.trans HNn.symm);rw[HDd.out] at e3;cases e3
     ·by_cases hal:mK c p n
      ·have HAl:=ae hal;clear hal;have HDd:=ae hd;rw[hd] at e5;clear hd;obtain⟨hbnv,e5v⟩:=uH;have HCA:Hid (∀q:Wd (wr.alloc (G7 #[I p.n,GZ G6 p.c,I p.z,J va vl vc,I p.d,GZ G6 2] 40)),Calls Tryz.prog 71 #[Hc #[J (F_ ⟨b1,o1,U⟩) l1 y1,J a2 l2 y2,J a3 l3 y3,J a4 l4 y4,J (F_ ⟨b,o,U⟩) l5 y5,GZ G6 c.now],Hc #[I p.n,GZ G6 p.c,I p.z,J va vl vc,I p.d,GZ G6 2]] q.w λe w'=>e=Ha (G8 Hb)/\Below q.w.heap.size q.w w'):=by
        intro q;have h0:=(jY ⟨(F_ ⟨b1,o1,U⟩),l1,y1,a2,l2,y2,a3,l3,y3,a4,l4,y4,(F_ ⟨b,o,U⟩),l5,y5⟩ c p va vl vc j1 n q.w (HR.below (HB.trans (((aq wr _).trans (q.b.mono aH)).mono HB.size))) HNR.out HX.out HV.out HNE.out (HTp.below ((aq wr _).trans (q.b.mono aH))) HJn.out HNn.out HBD.out).mono (λ_ _ h=>av.yes h HAl.out);rw[HP2.out] at h0;exact h0
       obtain⟨Gk,Gr,HW⟩:=Da;obtain⟨k0,k1,k2,k3,k4,k5⟩:=sl6 Gk;obtain⟨r0,r1,r2,r3,r4,r5⟩:=sl6 Gr;obtain⟨nw,hne0,HC0⟩:=uJ;have HC1:=ae (λq:Wd (wr.alloc (G7 #[I p.n,GZ G6 p.c,I p.z,J va vl vc,I p.d,GZ G6 2] 40))=>HCA.out q);go_wp2_with fail;refine ag au au ?_;repeat (go_big_quiet_step (first|(go_at_call 28;exact Calls.wide (HC0.out _))|(go_at_call 71;exact Calls.wide (HC1.out _))|fail))
       refine wpQuiet_nil ?_;rintro _ ⟨q1,rfl⟩;have HB1:=upB HW q1.b;obtain⟨Ck,Cr⟩:=cf;clear hne0 HW HB HC0 HC1 k0 k1 k2 k3 k4 k5 r0 r1 r2 r3 r4 r5 nw Gk Gr Bk pk hb hbn e5 hbnv e5v c0 c1 c2 c3 c4 c5;have HB:=HB1;clear HB1;have Bk:=Ck;clear Ck;clear Cr;go_wp2_with fail;refine⟨⟨k+1,by omega,by go_num,λj z hj hz=>?_,HB.out,Bk.out⟩,by simp[intOf];omega⟩;by_cases e:j=k
       ·subst e;rw[HXp.out] at hz;obtain rfl:=Fp hz;exact λ_=>⟨j1,n,HJn.out,HNn.out,HDd.out,HAl.out⟩
       ·exact HQ.out j z af hz
      ·have HAl:=ae hal;clear hal;have HDd:=ae hd;rw[hd] at e5;clear hd;obtain⟨hbnv,e5v⟩:=uH;have HCA:Hid (∀q:Wd (wr.alloc (G7 #[I p.n,GZ G6 p.c,I p.z,J va vl vc,I p.d,GZ G6 2] 40)),Calls Tryz.prog 71 #[Hc #[J (F_ ⟨b1,o1,U⟩) l1 y1,J a2 l2 y2,J a3 l3 y3,J a4 l4 y4,J (F_ ⟨b,o,U⟩) l5 y5,GZ G6 c.now],Hc #[I p.n,GZ G6 p.c,I p.z,J va vl vc,I p.d,GZ G6 2]] q.w λe w'=>e=Ha (G8 G_)/\Below q.w.heap.size q.w w'):=by
        intro q;have h0:=(jY ⟨(F_ ⟨b1,o1,U⟩),l1,y1,a2,l2,y2,a3,l3,y3,a4,l4,y4,(F_ ⟨b,o,U⟩),l5,y5⟩ c p va vl vc j1 n q.w (HR.below (HB.trans (((aq wr _).trans (q.b.mono aH)).mono HB.size))) HNR.out HX.out HV.out HNE.out (HTp.below ((aq wr _).trans (q.b.mono aH))) HJn.out HNn.out HBD.out).mono (λ_ _ h=>av.no h HAl.out);rw[HP2.out] at h0;exact h0
       obtain⟨Gk,Gr,HW⟩:=Da;obtain⟨k0,k1,k2,k3,k4,k5⟩:=sl6 Gk;obtain⟨r0,r1,r2,r3,r4,r5⟩:=sl6 Gr;obtain⟨nw,hne0,HC0⟩:=uJ;have HC1:=ae (λq:Wd (wr.alloc (G7 #[I p.n,GZ G6 p.c,I p.z,J va vl vc,I p.d,GZ G6 2] 40))=>HCA.out q);go_wp2_with fail;refine ag au au ?_;repeat (go_big_quiet_step (first|(go_at_call 28;exact Calls.wide (HC0.out _))|(go_at_call 71;exact Calls.wide (HC1.out _))|fail))
       refine wpQuiet_nil ?_;rintro _ ⟨q1,rfl⟩;have HB1:=upB HW q1.b;obtain⟨Ck,Cr⟩:=cf;clear hne0 HW HB HC0 HC1 k0 k1 k2 k3 k4 k5 r0 r1 r2 r3 r4 r5 nw Gk Gr Bk pk hb hbn e5 hbnv e5v c0 c1 c2 c3 c4 c5;have HB:=HB1;clear HB1;have Bk:=Ck;clear Ck;clear Cr;go_wp2;go_ret;refine av.f (λh=>?_) HB.out;obtain⟨i,m,e1,e2,e3,e4⟩:=(h.2 k p HXp.out) HP2.out;obtain⟨_,rfl⟩:=HNR.inj e1 HJn.out (e2.trans HNn.symm);exact HAl.out e4
    ·obtain rfl:l5=k:=af
     go_wp2;go_ret;exact av.t ⟨HQ1.out,λj z hz=>HQ.out j z da hz⟩ HB.out
theorem gi(h:aJ nm xs):hit nm xs t=Hb↔∃(i:Nat) (x:α),xs[i]?=F_ x/\nm x=t:=by
 constructor
 ·intro e;obtain⟨x,h1,h2⟩:=cm e;exact⟨_,x,h1,h2⟩
 ·rintro⟨i,x,h1,h2⟩;exact (bl h h1 h2).2
theorem jj {c:Cl} (h:cJ c):qZ c↔qY c:=by
 have hk:=h.2.1.2.2;have hv:=h.2.2.1.2.2;have hx:=h.2.2.2.1.2.2;constructor
 ·rintro⟨h1,h2⟩;refine⟨λj v e=>?_,λj x e=>?_⟩
  ·obtain⟨a,b⟩:=h1 j v e;refine⟨(gi hk).1 a,b.imp id ?_⟩;rintro⟨i,j',x,v',e1,e2,e3,e4,e5,e6,_⟩;exact⟨i,x,e1,e2,e5⟩
  ·obtain⟨a,b⟩:=h2 j x e;refine⟨(gi hk).1 a,b.imp id ?_⟩;rintro⟨i,j',x',v',e1,e2,e3,e4,e5,e6,e7,e8,e9⟩;obtain⟨_,rfl⟩:=hx.inj e1 e e2;exact⟨j',v',e3,e4,e6,e7,e8,e9⟩
 ·rintro⟨h1,h2⟩;refine⟨λj v e=>?_,λj x e=>?_⟩
  ·obtain⟨a,b⟩:=h1 j v e;refine⟨(gi hk).2 a,b.imp id ?_⟩;rintro⟨i,x,e1,e2,e3⟩;have hne:¬x.v=⟨#[]⟩:=λq=>h.ne j v e (e3.symm.trans q);obtain⟨_,b2⟩:=h2 i x e1;rcases b2 with b2|⟨j',v',f1,f2,f3,f4,f5,f6⟩
   ·exact absurd b2 hne
   obtain⟨_,rfl⟩:=hv.inj f1 e (f2.trans e3);exact⟨i,j,x,v',e1,e2,e,rfl,e3,rfl,f4,f5,f6⟩
  ·obtain⟨a,b⟩:=h2 j x e;refine⟨(gi hk).2 a,b.imp id ?_⟩;rintro⟨j',v,e1,e2,e3,e4,e5,e6⟩;exact⟨j,j',x,v,e,rfl,e1,e2,rfl,e3,e4,e5,e6⟩
theorem gM {c:Cl} (h:cJ c) (hb:qY c):mA c↔my c:=by
 have hn:=h.1.2.2;have hv:=h.2.2.1.2.2;have hx:=h.2.2.2.1.2.2;have one:(∀(j:Nat) z,c.vs[j]?=F_ z->PQ3 c z)↔∀(k:Nat) p,c.ps[k]?=F_ p->PSc c k p:=by
  constructor
  ·intro h3 k p hp j q hj hq;by_cases e1:q.d=⟨#[]⟩
   ·exact He e1
   by_cases e2:p.d=⟨#[]⟩
   ·exact Hd (He e2)
   by_cases e3:q.d=p.d
   ·exact Hd (Hd (He e3))
   refine Hd (Hd (Hd λi t ht v hbd hs hin=>e3 ?_));obtain⟨i1,j1,x,f1,f2,f3,f4⟩:=hbd;have hxv:¬x.v=⟨#[]⟩:=λz=>h.ne j1 v f3 (f4.trans z);have hvm:v.m=t:=by
    rcases (hb.2 i1 x f1).2 with z|⟨j2,v2,g1,g2,g3,_⟩
    ·exact absurd z hxv
    ·obtain⟨_,rfl⟩:=hv.inj g1 f3 (g2.trans f4.symm);rw[g3,f2]
   have ht0:¬v.m=⟨#[]⟩:=λz=>by
    have h1:=(h.2.2.2.1.2.1 i1 x f1).1.1;rw[f2,<-hvm,z] at h1;exact absurd h1 ah
   have:=h3 j1 v f3 hs ht0;rw[hvm] at this;exact this j k q p hq hp e1 e2 ⟨i,ht⟩ hin
  ·intro h3 j v hj hs hm i1 i2 p q hp hq d1 d2 in1 in2;obtain⟨i4,x,f1,f2,f3⟩:=(hb.1 j v hj).2.resolve_left hm;have hbd:bh c v.m v:=⟨i4,j,x,f1,f2,hj,f3.symm⟩;rcases Nat.lt_trichotomy i1 i2 with k|k|k
   ·obtain⟨r,hr⟩:=in1;rcases h3 i2 q hq i1 p k hp with z|z|z|z
    ·exact absurd z d1
    ·exact absurd z d2
    ·exact z
    ·exact absurd in2 (z r v.m hr v hbd hs)
   ·subst k;rw[hp] at hq;rw[Fp hq]
   ·obtain⟨r,hr⟩:=in2;rcases h3 i1 p hp i2 q k hq with z|z|z|z
    ·exact absurd z d2
    ·exact absurd z d1
    ·exact z.symm
    ·exact absurd in1 (z r v.m hr v hbd hs)
 constructor
 ·rintro⟨h1,h2,h3⟩;refine⟨λk p hp=>⟨?_,?_,one.1 h3 k p hp⟩,h2⟩
  ·rcases (h1 k p hp).2 with z|⟨i,n,e1,e2,e3,e4⟩
   ·exact He z
   ·exact Hd ⟨i,n,e1,e2,e3.imp id Eq.symm⟩
  ·intro j t ht;refine⟨(gi hx).1 ((h1 k p hp).1 j t ht),?_⟩;rcases (h1 k p hp).2 with z|⟨i,n,e1,e2,e3,e4⟩
   ·exact He z
   ·obtain⟨v,f1,f2⟩:=e4 j t ht;exact Hd ⟨v,i,n,f1,e1,e2,f2⟩
 ·rintro⟨h1,h2⟩;refine⟨λk p hp=>⟨λj t ht=>(gi hx).2 ((h1 k p hp).2.1 j t ht).1,?_⟩,h2,one.2 (λk p hp=>(h1 k p hp).2.2)⟩;rcases (h1 k p hp).1 with z|⟨i,n,e1,e2,e3⟩
  ·exact He z
  by_cases z:p.d=⟨#[]⟩
  ·exact He z
  refine Hd ⟨i,n,e1,e2,e3.imp id Eq.symm,λj t ht=>?_⟩;obtain⟨v,i',n',f1,f2,f3,f4⟩:=((h1 k p hp).2.1 j t ht).2.resolve_left z;obtain⟨_,rfl⟩:=hn.inj f2 e1 (f3.trans e2.symm);exact⟨v,f1,f4⟩
theorem running {c:Cl} (h:cJ c) (hp:my c) (j:Nat) (p:Pd) (hj:c.ps[j]?=F_ p) (h2:p.p=2):(∃(i:Nat) (n:Nd),c.ns[i]?=F_ n/\n.n=p.d)/\∀(j:Nat) t,p.zs[j]?=F_ t->∃v,bh c t v:=by
 have hd:¬p.d=⟨#[]⟩:=λe=>by
  have h1:=(h.2.2.2.2.2.1 j p hj).2.2.2.2;rcases h1 with ⟨h3,_⟩|⟨_,h3⟩
  ·rw[h2] at h3;cases h3
  ·have h4:=h3.1;rw[e] at h4;exact absurd h4 ah
 obtain⟨a,b,_⟩:=hp.1 j p hj;obtain⟨i,n,e1,e2,_⟩:=a.resolve_left hd;refine⟨⟨i,n,e1,e2⟩,λk t ht=>?_⟩;obtain⟨v,_,_,e3,_⟩:=(b k t ht).2.resolve_left hd;exact⟨v,e3⟩
theorem cv(d:Ad) (c:Cl) (w:World) (hr:aE w d c.raw):
  Calls Tryz.prog 23 #[Hc #[J d.a1 d.l1 d.c1,J d.a2 d.l2 d.c2,J d.a3 d.l3 d.c3,J d.a4 d.l4 d.c4,J d.a5 d.l5 d.c5,GZ G6 c.now]] w (av (ay c) w):=by
 obtain⟨HR,HB⟩:=jr;clear hr;go_enter Tryz.func23,Tryz.ntmps23;go_wp2_with fail;refine (lD c.now _).mono ?_;rintro e w1 ⟨r,rfl,hi,hw⟩;have hb:Below (w.alloc (G7 (clv d c.now) 29)).heap.size (w.alloc (G7 (clv d c.now) 29)) w1:=by first|(rw[hw];exact Ft _ _)|(rw[<-hw];exact Ft _ _)
 clear hw;obtain⟨HA0,hbx⟩:=aT hb;have Bk:=ae HA0;replace HB:=upB HB hbx;clear hb hbx HA0;have HI1:=ae hi;clear hi;cases r
 ·exact pW
 obtain⟨k0,k1,k2,k3,k4,k5⟩:=cs6 Bk;go_wp2_with fail;refine (sR d c _ (HR.below HB.out)).mono ?_;rintro e w2 ⟨r,rfl,hi,hb⟩;clear k0 k1 k2 k3 k4 k5;replace Bk:=upK Bk hb;replace HB:=upB HB hb;clear hb;have HI2:=ae hi;clear hi;cases r
 ·exact pX
 have HOK:=ae (HI2.1 bT);obtain⟨k0,k1,k2,k3,k4,k5⟩:=cs6 Bk;go_wp2_with fail;refine (oO d c _ (HR.below HB.out) HOK.2.1.2.2 HOK.2.2.2.1.2.2 HOK.2.2.1.2.2).mono ?_;rintro e w3 ⟨r,rfl,hi,hb⟩;clear k0 k1 k2 k3 k4 k5;replace Bk:=upK Bk hb;replace HB:=upB HB hb;clear hb;have HI3:=ae hi;clear hi;cases r
 ·obtain⟨k0,k1,k2,k3,k4,k5⟩:=cs6 Bk;go_wp2;go_ret;exact av.f (λh=>by have:=HI3.2 ((jj HOK.out).1 h.2.2.1);cases this) HB.out
 have HBd:=ae (HI3.1 bT);obtain⟨k0,k1,k2,k3,k4,k5⟩:=cs6 Bk;go_wp2_with fail;refine (mX d c _ (HR.below HB.out) HOK.1.2.2 HOK.2.2.2.1.2.2 HOK.2.2.1.2.2 HOK.ne (by have:=HOK.2.2.2.2.1;omega) HOK.EG).mono ?_;rintro e w4 ⟨r,rfl,hi,hb⟩;clear k0 k1 k2 k3 k4 k5;replace Bk:=upK Bk hb;replace HB:=upB HB hb;clear hb;have HI4:=ae hi;clear hi;cases r
 ·obtain⟨k0,k1,k2,k3,k4,k5⟩:=cs6 Bk;go_wp2;go_ret;exact av.f (λh=>by have:=HI4.2 ((gM HOK.out HBd.out).1 h.2.2.2.1);cases this) HB.out
 have HPl:=ae (HI4.1 bT);obtain⟨k0,k1,k2,k3,k4,k5⟩:=cs6 Bk;go_wp2_with fail;refine (kG d c _ (HR.below HB.out) HOK.1.2.2 (by have:=HOK.2.2.1.1;omega)).mono ?_;rintro e w5 ⟨r,rfl,hi,hb⟩;clear k0 k1 k2 k3 k4 k5;replace Bk:=upK Bk hb;replace HB:=upB HB hb;clear hb;have HI5:=ae hi;clear hi;cases r
 ·exact xR
 obtain⟨k0,k1,k2,k3,k4,k5⟩:=cs6 Bk;go_wp2_with fail;refine (lN d c _ (HR.below HB.out) HOK.1.2.2 HOK.2.2.2.1.2.2 HOK.2.2.1.2.2 HOK.ne (running HOK.out HPl.out)).mono ?_;rintro e w6 ⟨r,rfl,hi,hb⟩;clear k0 k1 k2 k3 k4 k5;replace Bk:=upK Bk hb;replace HB:=upB HB hb;clear hb;have HI6:=ae hi;clear hi;cases r
 ·exact xQ
 go_wp2;go_ret;exact av.t ⟨HI1.1 bT,HOK.out,(jj HOK.out).2 HBd.out,(gM HOK.out HBd.out).2 HPl.out,HI5.1 bT,HI6.1 bT⟩ HB.out
theorem br {o:Nat} {v:Value} (h:w.cell? ⟨b,o,U⟩=F_ v):b<w.heap.size:=World.block_lt_of_cell? w _ h
def bF:Nat->Int
 | 0=>2
 | 1=>1
 | 2=>6
 | 3=>7
 | 4=>9
 | 5=>11
 | 6=>7
 | 7=>11
 | 8=>10
 | 9=>3
 | _=>0
theorem Below.jD(h:Below B w w'):Below B w w'.drew:=⟨h.os,h.tape,h.output,h.size,h.block⟩
end Rc
namespace Gi
abbrev Rs:=Option Tmp->World->World->Prop
structure Rel (R:Rs) (sp:Tmp):Prop where
 refl:∀w,R U w w
 trans:∀{a b c},R U a b->R U b c->R U a c
 size:∀{a b},R U a b->a.heap.size<=b.heap.size
 drew:∀w,R U w w.drew
 sub:∀s {a b},R s a b->R U a b
 low:∀s {a b},¬s=U->¬s=F_ sp->R s a b->Below a.heap.size a b
abbrev Fact:=Value->World->Nat->Nat->Prop
abbrev Ex:=Tmp->Option Tmp
def Fact.ck(R:Rs) (ex:Ex) (d:Option Tmp) (φ:Fact):Prop:=∀s,¬s=U->¬s=d->(∀t e,d=F_ t->ex t=F_ e->¬s=F_ e)->∀v w w' l h,φ v w l h->R s w w'->φ v w' l h
theorem Fact.cy(R:Rs) (ex:Ex) (d:Option Tmp) (c:Value):Fact.ck R ex d (λv _ _ _=>v=c):=λ_ _ _ _ _ _ _ _ _ h _=>h
def ai(ex:Ex) (d:Option Tmp) (a0:Act) (known:List (Tmp×Fact)) (a:Act) (w:World) (lo hi:Tmp->Nat) (t:Tmp):Prop:=
 match known.lookup t with
 | some φ=>(ex t=U\/ex t=d)->φ (a.tmps.getD t undef) w (lo t) (hi t)
 | none=>a.tmps.getD t undef=a0.tmps.getD t undef
def mJ(known:List (Tmp×Fact)) (lo hi:Tmp->Nat) (ts:List Tmp):Prop:=∀t∈ts,∀t'∈ts,(known.lookup t).isSome=Hb->(known.lookup t').isSome=Hb->¬t=t'->hi t<=lo t'\/hi t'<=lo t
def Obl(R:Rs) (sp:Tmp) (ex:Ex) (P:Program) (ops:Array Oper) (Q:Exit->Act->World->Prop) (W:World) (a0:Act) (known:List (Tmp×Fact)) (o:Oper) (φ:Fact):Prop:=
 ∀(a:Act) (w:World) (K:Act->World->Prop) (lo hi:Tmp->Nat),a.tmps.size=a0.tmps.size->R U W w->(o.dst=F_ sp->Below W.heap.size W w)->(∀t∈o.looksAt ops,ai ex o.dst a0 known a w lo hi t)->mJ known lo hi (o.looksAt ops)->
  (∀v w',R o.dst w w'->φ v w' w.heap.size w'.heap.size->K (a.put o.dst v) w')->if F5 o (yielded ops a.tmps)=Hb then o.wp P a w K Q else K (a.put o.dst undef) w
theorem Obl.plain {R:Rs} {ex:Ex} {known:List (Tmp×Fact)} {φ:Fact} (hg:o.guard=U)
  (h:∀(a:Act) (w:World) (K:Act->World->Prop) (lo hi:Tmp->Nat),a.tmps.size=a0.tmps.size->R U W w->(o.dst=F_ sp->Below W.heap.size W w)->(∀t∈iw o,ai ex o.dst a0 known a w lo hi t)->mJ known lo hi (iw o)->(∀v w',R o.dst w w'->φ v w' w.heap.size w'.heap.size->K (a.put o.dst v) w')->o.wp P a w K Q):Obl R sp ex P ops Q W a0 known o φ:=by
 intro a w K lo hi h1 h2 h6 h3 h5 h4;have hw:F5 o (yielded ops a.tmps)=Hb:=by simp[F5,hg]
 rw[if_pos hw];have hs:∀t∈iw o,t∈o.looksAt ops:=λt ht=>by unfold Oper.looksAt;exact List.mem_append_left _ ht
 exact h a w K lo hi h1 h2 h6 (λt ht=>h3 t (hs t ht)) (λt ht t' ht'=>h5 t (hs t ht) t' (hs t' ht')) h4
def aN(a0:Act) (known:List (Tmp×Fact)) (x:Tmp->Value):Act:=known.foldr (λp b=>b.put (F_ p.1) (x p.1)) a0
def EE(known:List (Tmp×Fact)) (lo hi:Tmp->Nat):Prop:=∀p∈known,∀q∈known,¬p.1=q.1->hi p.1<=lo q.1\/hi q.1<=lo p.1
def Fin(R:Rs) (ex:Ex) (P:Program) (ops:Array Oper) (Q:Exit->Act->World->Prop) (W:World) (a0:Act) (back:Option Oper) (known:List (Tmp×Fact)):Prop:=
 ∀(x:Tmp->Value) (w:World) (lo hi:Tmp->Nat),R U W w->(∀p∈known,ex p.1=U->p.2 (x p.1) w (lo p.1) (hi p.1))->EE known lo hi->ix P ops Q back (aN a0 known x) w
def kn(d:Option Tmp) (φ:Fact) (known:List (Tmp×Fact)):List (Tmp×Fact):=match d with|F_ t=>(t,φ) ::known|U=>known
def Grow(R:Rs) (sp:Tmp) (ex:Ex) (P:Program) (ops:Array Oper) (Q:Exit->Act->World->Prop) (W:World) (a0:Act) (back:Option Oper):List Oper->List (Tmp×Fact)->Prop
 | [],known=>Fin R ex P ops Q W a0 back known
 | o ::rest,known=> ∃φ:Fact,φ.ck R ex o.dst/\Obl R sp ex P ops Q W a0 known o φ/\Grow R sp ex P ops Q W a0 back rest (kn o.dst φ known)
theorem Grow.step {R:Rs} {ex:Ex} {known:List (Tmp×Fact)} {t:Tmp} (φ:Fact) (hd:o.dst=F_ t) (hφ:φ.ck R ex (F_ t)) (ho:Obl R sp ex P ops Q W a0 known o φ)
  (h:Grow R sp ex P ops Q W a0 back rest ((t,φ) ::known)):Grow R sp ex P ops Q W a0 back (o ::rest) known:=⟨φ,by rw[hd];exact hφ,ho,by rw[hd];exact h⟩
theorem Grow.stepC {R:Rs} {ex:Ex} {known:List (Tmp×Fact)} {t:Tmp} (c:Value) (hd:o.dst=F_ t) (ho:Obl R sp ex P ops Q W a0 known o (λv _ _ _=>v=c))
  (h:Grow R sp ex P ops Q W a0 back rest ((t,λv _ _ _=>v=c) ::known)):Grow R sp ex P ops Q W a0 back (o ::rest) known:=Grow.step _ hd (Fact.cy R ex _ c) ho h
theorem Grow.done {R:Rs} {ex:Ex} {known:List (Tmp×Fact)} (h:Fin R ex P ops Q W a0 back known):Grow R sp ex P ops Q W a0 back [] known:=h
section
variable {R:Rs} {sp:Tmp} {ex:Ex} {P:Program} {ops:Array Oper} {Q:Exit->Act->World->Prop} {W:World} {a0:Act} {back:Option Oper}
def knAll:List (Tmp×Fact)->List Oper->List Fact->List (Tmp×Fact)
 | known,o ::l,φ ::φs=>knAll (kn o.dst φ known) l φs
 | known,_,_=>known
theorem cD(known:List (Tmp×Fact)) (φs:List Fact):knAll known [] φs=known:=by cases φs <;> rfl
theorem Grow.spec:∀(l:List Oper) (known:List (Tmp×Fact)),Grow R sp ex P ops Q W a0 back l known->∃φs:List Fact,φs.length=l.length/\
  (∀(i:Nat) (o:Oper) (φ:Fact),l[i]?=F_ o->φs[i]?=F_ φ->φ.ck R ex o.dst/\Obl R sp ex P ops Q W a0 (knAll known (l.take i) (φs.take i)) o φ)/\Fin R ex P ops Q W a0 back (knAll known l φs)
 | [],known,h=>⟨[],rfl,λi o φ h=>by simp at h,by rw[cD];exact h⟩
 | o ::l,known,h=>by
  exact u7
theorem jh(d:Option Tmp) (φ:Fact) (known:List (Tmp×Fact)) (t:Tmp):(kn d φ known).lookup t=if d=F_ t then F_ φ else known.lookup t:=by
 exact yz
theorem cR:∀(l:List Oper) (φs:List Fact) (known:List (Tmp×Fact)) {t:Tmp} {φ:Fact},(knAll known l φs).lookup t=F_ φ->
  (∃(i:Nat) (o:Oper),l[i]?=F_ o/\o.dst=F_ t/\φs[i]?=F_ φ)\/known.lookup t=F_ φ
 | [],φs,known,t,φ,h=>by rw[cD] at h;exact Hd h
 | o ::l,[],known,t,φ,h=>Hd h
 | o ::l,ψ ::φs,known,t,φ,h=>by
  exact BY
theorem cS:∀(l:List Oper) (φs:List Fact) (known:List (Tmp×Fact)) {t:Tmp},(knAll known l φs).lookup t=U->
  known.lookup t=U/\∀(i:Nat) (o:Oper) (φ:Fact),l[i]?=F_ o->φs[i]?=F_ φ->o.dst≠F_ t
 | [],φs,known,t,h=>by rw[cD] at h;exact⟨h,λi o φ h=>by simp at h⟩
 | o ::l,[],known,t,h=>⟨h,λi o φ _ h=>by simp at h⟩
 | o ::l,ψ ::φs,known,t,h=>by
  exact Ca
theorem dC:∀(l:List Oper) (φs:List Fact) (known:List (Tmp×Fact)) {p:Tmp×Fact},p∈knAll known l φs->
  (∃(i:Nat) (o:Oper),l[i]?=F_ o/\o.dst=F_ p.1/\φs[i]?=F_ p.2)\/p∈known
 | [],φs,known,p,h=>by rw[cD] at h;exact Hd h
 | o ::l,[],known,p,h=>Hd h
 | o ::l,ψ ::φs,known,p,h=>by
  exact B7
theorem dn(a0:Act) (x:Tmp->Value):∀known,(aN a0 known x).tmps.size=a0.tmps.size
 | []=>rfl
 | p ::l=>by unfold aN;rw[List.foldr_cons,size_put];exact dn a0 x l
theorem dp(a0:Act) (x:Tmp->Value):∀known,(aN a0 known x).defers=a0.defers
 | []=>rfl
 | p ::l=>by unfold aN;rw[List.foldr_cons,fv];exact dp a0 x l
theorem il(a0 a:Act) (known:List (Tmp×Fact)) (hk:∀p∈known,p.1<a0.tmps.size) (t:Tmp) (h:(∀p∈known,p.1≠t)->a.tmps.getD t undef=a0.tmps.getD t undef):
  (aN a0 known (λt=>a.tmps.getD t undef)).tmps.getD t undef=a.tmps.getD t undef:=by
 exact Cq
structure At (R:Rs) (sp:Tmp) (ex:Ex) (front:List Oper) (φs:List Fact) (W:World) (a0:Act) (listed:Array Bool) (a:Act) (w:World) (lo hi:Tmp->Nat):Prop where
 size:a.tmps.size=a0.tmps.size
 defers:a.defers=a0.defers
 below:R U W w
 pre:(∀(i:Nat) (p:Oper),front[i]?=F_ p->p.dst=F_ sp->listed.getD i G_=G_)->Below W.heap.size W w
 known:∀(i:Nat) (o:Oper) (φ:Fact),front[i]?=F_ o->φs[i]?=F_ φ->∀t,o.dst=F_ t->listed.getD i G_=Hb->(∀e,ex t=F_ e->∀(i':Nat) (p':Oper),front[i']?=F_ p'->p'.dst=F_ e->listed.getD i' G_=G_)->φ (a.tmps.getD t undef) w (lo t) (hi t)
 top:∀(i:Nat) (o:Oper),front[i]?=F_ o->∀t,o.dst=F_ t->listed.getD i G_=Hb->hi t<=w.heap.size
 apart:∀(i:Nat) (o:Oper) (i':Nat) (o':Oper),front[i]?=F_ o->front[i']?=F_ o'->∀t t',o.dst=F_ t->o'.dst=F_ t'->listed.getD i G_=Hb->listed.getD i' G_=Hb->¬t=t'->hi t<=lo t'\/hi t'<=lo t
 other:∀t,(∀(i:Nat) (o:Oper),front[i]?=F_ o->o.dst=F_ t->listed.getD i G_=G_)->a.tmps.getD t undef=a0.tmps.getD t undef
theorem At.step {φs:List Fact} {a:Act} {lo hi:Tmp->Nat} {φ:Fact} {v:Value} (hR:Rel R sp) (hds:¬o.dst=U) (h:At R sp ex front φs W a0 listed a w lo hi)
  (hn:(front.filterMap (·.dst)).Nodup) (hin:∀o∈front,∀t,o.dst=F_ t->t<a0.tmps.size) (hmono:∀(i:Nat) (o:Oper) (φ:Fact),front[i]?=F_ o->φs[i]?=F_ φ->φ.ck R ex o.dst)
  (ho:front[j]?=F_ o) (hφ:φs[j]?=F_ φ) (hj:j<listed.size) (hb:R o.dst w w') (hv:φ v w' w.heap.size w'.heap.size):∃lo hi,At R sp ex front φs W a0 (listed.setIfInBounds j Hb) (a.put o.dst v) w' lo hi:=by
 have old:∀(i:Nat) (p:Oper) t,front[i]?=F_ p->p.dst=F_ t->¬j=i->(listed.setIfInBounds j Hb).getD i G_=Hb->¬o.dst=F_ t/\listed.getD i G_=Hb:=λi p t hp ht e hl=>
  ⟨λhd=>e (ff front hn ho hp hd ht),by simpa[FD,Array.getElem?_setIfInBounds,e] using hl⟩
 refine⟨λt=>if o.dst=F_ t then w.heap.size else lo t,λt=>if o.dst=F_ t then w'.heap.size else hi t,(size_put _ _ _).trans h.size,(fv _ _ _).trans h.defers,hR.trans h.below (hR.sub _ hb),λhx=>?_,?_,?_,?_,?_⟩
 ·have hns:¬o.dst=F_ sp:=λe=>by
   have:=hx j o ho e;simp[FD,hj] at this
  have h1:=h.pre (λi p hp hd=>by
   have h2:=hx i p hp hd
   have e:¬j=i:=λe=>by subst e;exact hns (by rw[Fp (ho.symm.trans hp)];exact hd)
   simpa[FD,Array.getElem?_setIfInBounds,e] using h2)
  exact h1.trans ((hR.low _ hds hns hb).mono h1.size)
 ·intro i p ψ hp hψ t ht hl hx;by_cases e:j=i
  ·subst e;obtain rfl:o=p:=Fp (ho.symm.trans hp);obtain rfl:φ=ψ:=Fp (hφ.symm.trans hψ);simp only[if_pos ht];exact xo
  ·obtain⟨hne,hl'⟩:=old i p t hp ht e hl;simp only[if_neg hne];have hxo:∀e,ex t=F_ e->∀(i':Nat) (p':Oper),front[i']?=F_ p'->p'.dst=F_ e->¬j=i'/\listed.getD i' G_=G_:=λe9 he i' p' hp' hd'=>by
    have h9:=hx e9 he i' p' hp' hd';by_cases ej:j=i'
    ·subst ej;simp[FD,hj] at h9
    ·exact⟨ej,by simpa[FD,Array.getElem?_setIfInBounds,ej] using h9⟩
   have h1:=hmono i p ψ hp hψ o.dst hds (λe9=>hne (e9.trans ht)) (λt9 e9 h8 h9 hd=>by
    obtain rfl:t=t9:=Fp (ht.symm.trans h8)
    exact (hxo e9 h9 j o ho hd).1 rfl) _ _ _ _ _ (h.known i p ψ hp hψ t ht hl' (λe9 he i' p' hp' hd'=>(hxo e9 he i' p' hp' hd').2)) hb
   exact wi
 ·intro i p hp t ht hl;by_cases e:j=i
  ·subst e;obtain rfl:o=p:=Fp (ho.symm.trans hp);simp only[if_pos ht];exact Fq _
  ·obtain⟨hne,hl'⟩:=old i p t hp ht e hl;simp only[if_neg hne];exact FA (h.top i p hp t ht hl') (hR.size (hR.sub _ hb))
 ·intro i p i' p' hp hp' t t' ht ht' hl hl' hne;by_cases e:j=i
  ·subst e;obtain rfl:o=p:=Fp (ho.symm.trans hp);by_cases e':j=i'
   ·subst e';obtain rfl:o=p':=Fp (ho.symm.trans hp');exact absurd (Fp (ht.symm.trans ht')) hne
   ·obtain⟨hne',hl''⟩:=old i' p' t' hp' ht' e' hl';simp only[if_pos ht,if_neg hne'];exact Hd (h.top i' p' hp' t' ht' hl'')
  ·obtain⟨hne1,hl1⟩:=old i p t hp ht e hl;by_cases e':j=i'
   ·subst e';obtain rfl:o=p':=Fp (ho.symm.trans hp');simp only[if_pos ht',if_neg hne1];exact He (h.top i p hp t ht hl1)
   ·obtain⟨hne',hl''⟩:=old i' p' t' hp' ht' e' hl';simp only[if_neg hne1,if_neg hne'];exact h.apart i p i' p' hp hp' t t' ht ht' hl1 hl'' hne
 ·exact Ci
theorem Fin.last {φs:List Fact} {a:Act} {lo hi:Tmp->Nat} (hf:Fin R ex P ops Q W a0 back (knAll [] front φs)) (hlen:φs.length=front.length) (hin:∀o∈front,∀t,o.dst=F_ t->t<a0.tmps.size)
  (h:At R sp ex front φs W a0 listed a w lo hi) (hall:∀i,i<front.length->listed.getD i G_=Hb):ix P ops Q back a w:=by
 have h1:=hf (λt=>a.tmps.getD t undef) w lo hi h.below (λp hp hpe=>by
  rcases dC front φs [] hp with ⟨i,o,h1,h2,h3⟩|h1
  ·exact h.known i o p.2 h1 h3 p.1 h2 (hall i (Fm.1 h1).1) (λe he=>by rw[hpe] at he;cases he)
  ·simp at h1) (λp hp q hq hne=>by
  rcases dC front φs [] hp with ⟨i,o,h1,h2,h3⟩|h1
  ·rcases dC front φs [] hq with ⟨i',o',g1,g2,g3⟩|g1
   ·exact h.apart i o i' o' h1 g1 p.1 q.1 h2 g2 (hall i (Fm.1 h1).1) (hall i' (Fm.1 g1).1) hne
   ·simp at g1
  ·simp at h1)
 exact CH
theorem de {φs:List Fact} (hR:Rel R sp) (hds:∀o∈front,¬o.dst=U) (hops:ops=(front++back.toList).toArray) (hB:growB a0.tmps.size front back=Hb) (hlen:φs.length=front.length)
  (hs:∀(i:Nat) (o:Oper) (φ:Fact),front[i]?=F_ o->φs[i]?=F_ φ->φ.ck R ex o.dst/\Obl R sp ex P ops Q W a0 (knAll [] (front.take i) (φs.take i)) o φ) (hf:Fin R ex P ops Q W a0 back (knAll [] front φs)):
  ∀(fuel:Nat) (listed:Array Bool) (a:Act) (w:World),listed.size=ops.size->listed.toList.count G_<=fuel->(∀o,back=F_ o->listed.getD front.length G_=G_)->(∃lo hi,At R sp ex front φs W a0 listed a w lo hi)->wpAny P .any ops Q fuel listed a w:=by
 obtain⟨hn,hin,hdep,hlt,hback⟩:=dE hB;rw[<-hops] at hdep hlt;have hsz:ops.size=front.length+back.toList.length:=by rw[hops];simp
 have hend:∀(listed:Array Bool) (a:Act) (w:World),listed.size=ops.size->(∀i,i<ops.size->listed.getD i G_=Hb)->(∀o,back=F_ o->listed.getD front.length G_=G_)->(∃lo hi,At R sp ex front φs W a0 listed a w lo hi)->Q .normal a w:=by
  rintro listed a w hz hall hb ⟨lo,hi,h⟩;have h1:=hf.last hlen hin h (λi hi=>hall i af);exact pY
 intro fuel;induction fuel with
 | zero=>
  intro listed a w hz hc hb h;have hall:∀i,i<ops.size->listed.getD i G_=Hb:=λi hi=>fN af i af;refine⟨?_,hend listed a w hz hall hb h⟩
  cases hr:Ga .any ops listed with
  | nil=>rfl
  | cons j js=>
   have hm:j∈Ga .any ops listed:=by rw[hr];simp
   obtain⟨h1,o,ho,-⟩:=mem_ready.1 hm;have hj:=(FJ.1 ho).1;rw[<-cM af,hall j hj] at h1
   cases h1
 | succ fuel ih=>
  intro listed a w hz hc hb hlh;refine⟨λhr=>hend listed a w hz (fz hz hlt hr) hb hlh,λj hj=>?_⟩;obtain⟨lo,hi,h⟩:=hlh;obtain⟨hun,o,ho,hall⟩:=mem_ready.1 hj;have hjs:j<ops.size:=(FJ.1 ho).1;have hcs:=count_set (listed:=listed) (i:=j) af hun
  by_cases hjf:j<front.length
  ·have hof:front[j]?=F_ o:=by rw[hops] at ho;simpa[FI hjf] using ho
   have hφ:φs[j]?=F_ (φs[j]'(by omega)):=Fu _;obtain⟨hm,hob⟩:=hs j o _ hof hφ
   have hfacts:∀t∈o.looksAt ops,ai ex o.dst a0 (knAll [] (front.take j) (φs.take j)) a w lo hi t:=by
    intro t ht;unfold ai
    cases hk:(knAll [] (front.take j) (φs.take j)).lookup t with
    | some φ=>
     rcases cR _ _ _ hk with ⟨i,p,h1,h2,h3⟩|h1
     ·have hij:i<j:=by have:=(Fm.1 h1).1;simp at this;omega
      rw[FQ,if_pos hij] at h1 h3;obtain⟨-,e,he,hon,hbi⟩:=hdep j o hof t ht i p h1 h2;have hl:=hall e he hbi;rw[hon] at hl;intro hex;refine h.known i p φ h1 h3 t h2 hl (λe9 he i' p' hp' hd'=>?_)
      rcases hex with h9|h9
      ·rw[h9] at he;cases he
      ·have:i'=j:=ff front hn hp' hof hd' (h9.symm.trans he);subst this;rw[cM af];exact hun
     ·simp at h1
    | none=>
     refine h.other t (λi p hp hd=>?_)
     exfalso
     obtain⟨hij,-⟩:=hdep j o hof t ht i p hp hd;have hi:=(Fm.1 hp).1;exact (cS _ _ _ hk).2 i p (φs[i]'(by omega)) rG rK hd
   have hfind:∀t∈o.looksAt ops,((knAll [] (front.take j) (φs.take j)).lookup t).isSome=Hb->∃(i:Nat) (p:Oper),front[i]?=F_ p/\p.dst=F_ t/\listed.getD i G_=Hb:=by
    intro t ht hk;obtain⟨φ,hφ'⟩:=Option.isSome_iff_exists.1 hk
    rcases cR _ _ _ hφ' with ⟨i,p,h1,h2,h3⟩|h1
    ·have hij:i<j:=by have:=(Fm.1 h1).1;simp at this;omega
     rw[FQ,if_pos hij] at h1;obtain⟨-,e,he,hon,hbi⟩:=hdep j o hof t ht i p h1 h2;have hl:=hall e he hbi;rw[hon] at hl;exact⟨i,p,h1,h2,hl⟩
    ·simp at h1
   have hap:mJ (knAll [] (front.take j) (φs.take j)) lo hi (o.looksAt ops):=by
    intro t ht t' ht' hk hk' hne;obtain⟨i,p,h1,h2,h3⟩:=hfind t ht hk;obtain⟨i',p',g1,g2,g3⟩:=hfind t' ht' hk';exact h.apart i p i' p' h1 g1 t t' h2 g2 h3 g3 hne
   have hpre:o.dst=F_ sp->Below W.heap.size W w:=λhd=>h.pre (λi p hp hd'=>by
    have:i=j:=ff front hn hp hof hd' hd;subst this;rw[cM af]
    exact hun)
   have h1:=hob a w (wpAny P .any ops Q fuel (listed.setIfInBounds j Hb)) lo hi h.size h.below hpre hfacts hap (λv w' hbw hv=>by
    refine ih _ _ _ (by simpa using hz) af (λo' ho'=>?_) (h.step hR (hds o (FK hof)) hn hin (λi o φ h1 h2=>(hs i o φ h1 h2).1) hof hφ af hbw hv);have h2:=hb o' ho'
    have e:¬j=front.length:=af
    simpa[FD,Array.getElem?_setIfInBounds,e] using h2)
   unfold wpOp;rw[ho]
   simp only
   split
   ·rename_i hw;rw[if_pos hw] at h1;exact He h1
   ·rename_i hw;rw[if_neg hw] at h1;exact h1
  ·cases hk:back with
   | none=>rw[hk] at hsz;simp at hsz;omega
   | some b=>
    have hjn:j=front.length:=by rw[hk] at hsz;simp at hsz;omega
    subst hjn
    have hob:o=b:=by
     rw[hops,hk] at ho
     simp at ho
     exact ho.symm
    subst hob
    have hfl:∀i,i<front.length->listed.getD i G_=Hb:=λi hi=>by
     obtain⟨e,he,hon,hbi⟩:=hback o hk i hi;have:=hall e he hbi
     rwa [hon] at this
    have h1:=hf.last hlen hin h hfl;rw[hk] at h1
    have h2:=h1 (wpAny P .any ops Q fuel (listed.setIfInBounds front.length Hb)) (λa' w' hq=>by
     have hr:Ga .any ops (listed.setIfInBounds front.length Hb)=[]:=by
      cases hr:Ga .any ops (listed.setIfInBounds front.length Hb) with
      | nil=>rfl
      | cons i is=>
       have hm:i∈Ga .any ops (listed.setIfInBounds front.length Hb):=by rw[hr];simp
       obtain⟨h3,o',ho',-⟩:=mem_ready.1 hm;have hi:=(FJ.1 ho').1
       exfalso
       by_cases e:front.length=i
       ·subst e
        simp[FD,show front.length<listed.size from by omega] at h3
       ·have h4:=hfl i (by rw[hk] at hsz;simp at hsz;omega);rw[cM af] at h4
        simp[FD,e] at h3 h4
        rw[h3] at h4
        cases h4
     cases fuel with
     | zero=>exact⟨hr,hq⟩
     | succ fuel=>exact⟨λ_=>hq,λi hi=>by rw[hr] at hi;cases hi⟩)
    unfold wpOp;rw[ho]
    simp only
    split
    ·rename_i hw;rw[if_pos hw] at h2;exact He h2
    ·rename_i hw;rw[if_neg hw] at h2;exact h2
end
theorem ba {R:Rs} {ex:Ex} (hR:Rel R sp) {P:Program} {id:Nat} {Q:Exit->Act->World->Prop} {a0:Act} {W:World} {l:List Oper} {front:List Oper} {back:Option Oper} (hm:P.follows .mixedOrders=Hb) (hl:l=front++back.toList) (hds:front.all (λo=>o.dst.isSome)=Hb) (hB:growB a0.tmps.size front back=Hb)
  (h:Grow R sp ex P l.toArray Q W a0 back front []):(Code.region id l.toArray Hb).wp P Q a0 W:=by
 obtain⟨φs,hlen,hs,hf⟩:=Grow.spec _ _ h;refine wp_region_any hm (de hR (λo ho e=>by have:=List.all_eq_true.1 hds o ho;rw[e] at this;cases this) (by rw[hl]) hB hlen hs hf _ _ _ _ aH ?_ (λo ho=>?_) ⟨λ_=>0,λ_=>0,rfl,rfl,hR.drew _,λ_=>(Ft _ _).drew,λi o φ h1 h2 t ht hx _=>?_,λi o h1 t ht hx=>?_,λi o i' o' h1 h2 t t' ht ht' hx=>?_,λt _=>rfl⟩)
 ·exact lW
 ·exact bK _ _
 ·rw[bK] at hx;cases hx
 ·rw[bK] at hx;cases hx
 ·rw[bK] at hx;cases hx
theorem aQ {R:Rs} {ex:Ex} (hR:Rel R sp) {P:Program} {id:Nat} {Q:Exit->Act->World->Prop} {a0:Act} {W:World} {l:List Oper} {front:List Oper} {last:Oper} (hm:P.follows .mixedOrders=Hb) (hf:l.dropLast=front) (hb:l.getLast?=F_ last) (hds:front.all (λo=>o.dst.isSome)=Hb) (hB:growB a0.tmps.size front (F_ last)=Hb)
  (h:Grow R sp ex P l.toArray Q W a0 (F_ last) front []):(Code.region id l.toArray Hb).wp P Q a0 W:=by
 refine ba hR hm ?_ hds hB h;exact pO
end Gi
variable {ex:Gi.Ex}
namespace Rc
structure Sm (c:Cl):Prop where
 n:c.ns.length<=8
 ns:∀(j:Nat) x,c.ns[j]?=F_ x->x.zs.length<=8001
 k:c.ks.length<=8
 v:c.vs.length<=8
 vs:∀(j:Nat) x,c.vs[j]?=F_ x->x.zs.length<=8001
 x:c.xs.length<=8
 p:c.ps.length<=8
 ps:∀(j:Nat) x,c.ps[j]?=F_ x->x.zs.length<=8001
theorem ay.sm {c:Cl} (h:ay c):Sm c:=by
 obtain⟨_,⟨⟨h1,h2,_⟩,⟨h3,_⟩,⟨h4,h5,_⟩,⟨h6,_⟩,⟨h7,h8,_⟩⟩,_⟩:=h;refine⟨by omega,λj x hj=>?_,by omega,by omega,λj x hj=>?_,by omega,by omega,λj x hj=>?_⟩
 ·have:=(h2 j x hj).2.2.2.2.2.1;omega
 ·have:=(f_ (h5 j x hj).2.2.2.2.2.2).1;omega
 ·have:=(h8 j x hj).2.2.2.1.1;omega
def dW(r:List Fv):List Value:=r.map λf=>f.val.getD undef
def fT(r:List Fv):Prop:=∀(i:Nat) f,r[i]?=F_ f->∃v,f.val=F_ v
theorem Fv.Is.val {f:Fv} {v:Value} (h:f.Is w v) (hu:f.val=F_ u):v=u/\f.Fr w 0 (λ_=>False) v:=by
 cases f with
 | s t=>cases hu;exact⟨h.1,h⟩
 | i n=>cases hu;exact⟨h,h⟩
 | b x=>cases hu;exact⟨h,h⟩
 | l zs=>cases hu
theorem Fv.Fr.any {f:Fv} {v:Value} {h h':Nat} {S':Nat->Prop} (k:f.Fr w h S v) (hu:f.val=F_ u):f.Fr w' h' S' v:=by
 cases f with
 | l zs=>cases hu
 | _=>exact k
theorem zn {r:List Fv} (hf:fT r) {i:Nat} {f:Fv} (hi:r[i]?=F_ f):∃u,f.val=F_ u/\(dW r)[i]?=F_ u:=by
 obtain⟨u,hu⟩:=hf i f hi;exact⟨u,hu,by rw[dW,FG,hi];simp[hu]⟩
theorem tD {r:List Fv} (hf:fT r) {i:Nat} {u:Value} (hi:(dW r)[i]?=F_ u):∃f,r[i]?=F_ f/\f.val=F_ u:=by
 rw[dW,FG] at hi;obtain⟨f,h1,h2⟩:=FR.1 hi;obtain⟨v,hv⟩:=hf i f h1;rw[hv] at h2;exact⟨f,h1,by rw[hv];simpa using h2⟩
section
variable {w:World} {a:Option Addr} {len cap m:Nat} {rs:List (List Fv)}
theorem iB(hm:∀(j:Nat) r,rs[j]?=F_ r->r.length=m):∀(j:Nat) vs,(rs.map dW)[j]?=F_ vs->vs.length=m:=by
 intro j vs hj;rw[FG] at hj;obtain⟨r,h1,rfl⟩:=FR.1 hj;rw[dW,FB];exact hm j r h1
theorem lH {o:Nat} (h:a_ w (F_ ⟨b,o,U⟩) len cap m rs) (hm:∀(j:Nat) r,rs[j]?=F_ r->r.length=m/\fT r):∀(k:Nat) u,(rs.map dW).flatten[k]?=F_ u->w.cell? ((⟨b,o,U⟩:Addr).add k)=F_ u:=by
 intro k u hk;obtain⟨j,i,vs,h1,h2,rfl⟩:=iA (iB λj r hj=>(hm j r hj).1) hk;rw[FG] at h1;obtain⟨r,h3,rfl⟩:=FR.1 h1;obtain⟨f,h4,h5⟩:=tD (hm j r h3).2 h2;rcases h.2.2.2 with rfl|⟨b',o',e,_,hc⟩
 ·simp at h3
 ·cases e;obtain⟨v,h6,h7⟩:=hc j r h3 i f h4;rw[FC,<-Nat.add_assoc,h6,(h7.val h5).1]
theorem gj(h:a_ w a len cap m rs) (hm:∀(j:Nat) r,rs[j]?=F_ r->r.length=m/\fT r) (w':World) (S:Nat->Prop):aX w' S m rs (rs.map dW) (λ_ _=>0):=by
 refine⟨by simp,iB λj r hj=>(hm j r hj).1,λj r hj=>(hm j r hj).1,λj r vs hj hv i f hi=>?_,λj r i zs j' r' i' zs' hj hi=>?_⟩
 ·rw[FG,hj] at hv;cases hv;obtain⟨u,h1,h2⟩:=zn (hm j r hj).2 hi;rcases h.2.2.2 with rfl|⟨b',o',e,_,hc⟩
  ·simp at hj
  ·obtain⟨v,h6,h7⟩:=hc j r hj i f hi;obtain⟨rfl,h8⟩:=h7.val h1;exact⟨v,h2,h8.any h1⟩
 ·obtain⟨v,hv⟩:=(hm j r hj).2 i _ hi;cases hv
end
theorem sf(x:Kd):(kdF x).length=4/\fT (kdF x):=⟨rfl,λi f h=>by
 rcases i with _|_|_|_|i <;> first|(cases h;exact⟨_,rfl⟩)|(simp[kdF] at h)⟩
theorem q7(x:Xd):(xdF x).length=5/\fT (xdF x):=⟨rfl,λi f h=>by
 rcases i with _|_|_|_|_|i <;> first|(cases h;exact⟨_,rfl⟩)|(simp[xdF] at h)⟩
theorem iu {F:α->List Fv} (hF:∀x,(F x).length=m/\fT (F x)) (xs:List α):∀(j:Nat) r,(xs.map F)[j]?=F_ r->r.length=m/\fT r:=by
 intro j r hj;rw[FG] at hj;obtain⟨x,_,rfl⟩:=FR.1 hj;exact hF x
structure Co where
 c:Cl
 n:ByteArray
 p:Int
def cl0:Cl:=⟨[],[],[],[],[],0⟩
def co0(p:Int):Co:=⟨cl0,⟨#[]⟩,p⟩
def ad0:Ad:=⟨U,0,0,U,0,0,U,0,0,U,0,0,U,0,0⟩
theorem D_(w:World) (S:Nat->Prop):dz w ad0 cl0.raw S:=⟨λ_=>1,aA.nil _ _ _ _ _ (by decide),aA.nil _ _ _ _ _ (by decide),aA.nil _ _ _ _ _ (by decide),aA.nil _ _ _ _ _ (by decide),aA.nil _ _ _ _ _ (by decide)⟩
def wo(nm:α->ByteArray) (t:ByteArray) (xs:List α):List α:=xs.filter λx=> !((nm x).toList==t.toList)
theorem oE {k:Nat} {x:α} (h:xs[k]?=F_ x) (hn:((nm x).toList==t.toList)=G_):wo nm t (xs.take (k+1))=wo nm t (xs.take k)++[x]:=by
 unfold wo;rw[FZ,h,Gw];simp[hn]
theorem AV {k:Nat} {x:α} (h:xs[k]?=F_ x) (hn:((nm x).toList==t.toList)=Hb):wo nm t (xs.take (k+1))=wo nm t (xs.take k):=by
 unfold wo;rw[FZ,h,Gw];simp[hn]
theorem iS(w:World) (t t' ty e e':TypeId) (i:TypeInfo) (ht:Tryz.prog.underlying t=F_ (.slice e)) (ht':Tryz.prog.underlying t'=F_ (.slice e')) (hi:Tryz.prog.info? e=F_ i) (a:Option Addr) (l c:Nat) (b:Value):(Builtin.append_ #[t,t'] ty #[J a l c,b]).run Tryz.prog w=(Builtin.append_ #[t,t] ty #[J a l c,b]).run Tryz.prog w:=by
 simp[Builtin.append_,run_underlying ht,run_underlying ht',sizeOf,typeInfo,hi]
theorem dk {a:Act} (hgd:o.guard=U) (s x:Operand) (t t':TypeId)
  (ho:o.op=.call { callee:=.builtin .append,args:=#[s,x],argTypes:=#[t,t'] })
  (base:Nat) (e e':TypeId) (i:TypeInfo) (z:Value) (size bytes:Nat) (ht:Tryz.prog.underlying t=F_ (.slice e)) (ht':Tryz.prog.underlying t'=F_ (.slice e')) (hi:Tryz.prog.info? e=F_ i) (hz:i.zero=F_ z)
  (hsize:i.size=size) (hby:i.bytes=bytes) (hzs:z.cells.size=size) (hsz:0<size)
  (v:Value) (n:Nat) (xs:List Value) (hs:a.eval s=v) (hown:w.ownsRow base e size v n xs)
  (ad:Addr) (m c:Nat) (news:List Value) (hx:a.eval x=J (F_ ad) m c) (hl:news.length=m*size) (hnews:∀j u,news[j]?=F_ u->w.cell? (ad.add j)=F_ u) (h1:∀u∈news,u.oneCell'=Hb)
  (h63:n+m<=maxLen) (hbytes:(n+m)*bytes<=140737488355328) (hbase:base<=w.heap.size)
  (h:∀v' w',w'.ownsRow base e size v' (n+m) (xs++news)->w.grownBy w' v.ownBlock->wpList Tryz.prog ops Q rest (a.put o.dst v') w'):wpList Tryz.prog ops Q (o ::rest) a w:=by
 refine wpList_plain hgd λK hK=>?_;obtain⟨v',w',hr,h2,h3,h4⟩:=run_append_own (P:=Tryz.prog) w base t o.type e i z size bytes ht hi hz hsize hby hzs hsz v n xs hown ad m c news hl hnews h1 h63 hbytes hbase;obtain⟨va,vl,vc,rfl⟩:∃a l c,v=J a l c:=by
  exact vU
 rw[<-iS w t t' o.type e e' i ht ht' hi] at hr;exact ym
def aY(p:Nat) (x:α) (xs:List α):List α:=xs.take p++[x]++xs.drop p
theorem dd {p:Nat} {x:α} (h:p<=xs.length):(aY p x xs).length=xs.length+1:=by
 simp only[aY,List.length_append,FW,List.length_drop,GY,List.length_nil];omega
theorem fg {β:Type} (f:α->β) (p:Nat) (x:α) (xs:List α):(aY p x xs).map f=aY p (f x) (xs.map f):=by simp[aY,List.map_take,List.map_drop]
theorem jO {p:Nat} {x:α} (h:p<=xs.length) (j:Nat) (hj:j<xs.length+1):(aY p x xs)[j]?=(xs++[x])[if j<p then j else if j=p then xs.length else j - 1]?:=by
 unfold aY;by_cases h1:j<p
 ·rw[if_pos h1,GD,FI nv,FI af,FQ,if_pos h1]
 ·rw[if_neg h1];by_cases h2:j=p
  ·subst h2;have hl:(xs.take j).length=j:=by rw[FW,Nat.min_eq_left h]
   have e1:(xs.take j++[x]++xs.drop j)[j]?=F_ x:=by
    rw[GD,List.getElem?_append_right af,hl,Nat.sub_self];rfl
   rw[e1,if_pos rfl];simp
  ·rw[if_neg h2,List.getElem?_append_right (by simp only[List.length_append,FW,GY,List.length_nil];omega),FI af,F8];congr 1;simp only[List.length_append,FW,GY,List.length_nil];omega
theorem aX.ins {rs:List (List Fv)} (h:aX w S m rs vss H) {r:List Fv} {vs:List Value} {hh:Nat->Nat} (hr:r.length=m) (hvs:vs.length=m) (hc:∀(i:Nat) f,r[i]?=F_ f->∃v,vs[i]?=F_ v/\f.Fr w (hh i) S v)
  (hn:∀(i:Nat) zs,r[i]?=F_ (.l zs)->zs≠[]->∀(j:Nat) r' (i':Nat) zs',rs[j]?=F_ r'->r'[i']?=F_ (.l zs')->zs'≠[]->¬H j i'=hh i)
  (h1:∀(i i':Nat) zs zs',r[i]?=F_ (.l zs)->zs≠[]->r[i']?=F_ (.l zs')->zs'≠[]->i=i') {p:Nat} (hp:p<=rs.length):∃H',aX w S m (aY p r rs) (aY p vs vss) H':=by
 have hl:=h.len;have e1:(aY p r rs).length=rs.length+1:=dd hp;have e2:(aY p vs vss).length=vss.length+1:=dd af;refine⟨_,(h.push hr hvs hc hn h1).Fe (λj=>if j<p then j else if j=p then rs.length else j - 1) af (λj hj=>jO hp j af) (λj hj=>?_) (λj j' hj hj' e=>?_)⟩
 ·have:=jO (x:=vs) (xs:=vss) (p:=p) af j af;rw[hl] at this;exact this
 ·split at e <;> split at e
  ·exact e
  all_goals (try split at e) <;> (try split at e) <;> omega
end Rc
namespace Um
def ul(k:Int) (s:ByteArray):Lit:=.string (keyBytes [.int G6 k,.string s.data.toList])
section
variable {w:World} {b clock:Nat} {es:Array MapEntry}
end
end Um
namespace Rc
theorem nj {f:Nat×Nat} (h:w.heap[g]?=F_ (G7 cs T f)):Below w.heap.size w (w.setRow g cs):=by
 refine⟨rfl,rfl,rfl,by simp,λk hk=>?_⟩;by_cases e:k=g
 ·subst e;rw[setRow_heap w k cs cs T f h,h]
 ·exact setRow_other w g k cs e
theorem dx(t ty e:TypeId) (i:TypeInfo) (ht:Tryz.prog.underlying t=F_ (.slice e)) (hi:Tryz.prog.info? e=F_ i) (g cap:Nat):
  (Builtin.append_ #[t,t] ty #[J (F_ ⟨g,0,U⟩) 0 0,J U 0 cap]).run Tryz.prog w=.ok (J (F_ ⟨g,0,U⟩) 0 0) w:=by
 simp[Builtin.append_,run_underlying ht,sizeOf,typeInfo,hi,Builtin.lenOf,Builtin.firstCells,storeCells]
theorem bQ.here {l c:Nat} {S':Nat->Prop} (h:bQ w (F_ ⟨g,0,U⟩) l c zs S) (hS:S' g):bQ w (F_ ⟨g,0,U⟩) l c zs S':=
 ⟨h.1,h.2.imp id λ⟨g',cur,e,_,hg⟩=>by cases e;exact⟨g,cur,rfl,hS,hg⟩⟩
theorem iT {len cap:Nat} (ty:TypeId) (hg:w.heap[g0]?=F_ (G7 #[] 9 (0,0))) (hr:aD w va len cap zs) (hl:len<=8001):
  ∃a l c w',(Builtin.append_ #[36,36] ty #[J (F_ ⟨g0,0,U⟩) 0 0,J va len cap]).run Tryz.prog w=.ok (J a l c) w'/\bQ w' a l c zs (λk=>k=g0\/w.heap.size<=k)/\Below w.heap.size w w':=by
 obtain⟨i0,hi,hz0,hz1,hz2⟩:=info_parts dI;have hzl:=hr.1;rcases GJ len with h0|h0
 ·subst h0;obtain rfl:zs=[]:=F6 hzl;cases va with
  | none=>exact⟨_,_,_,_,dx 36 ty 9 i0 Tryz.underlying36 hi g0 cap,⟨⟨rfl,Fq _,by omega,λj x hx=>by simp at hx,He rfl⟩,He rfl⟩,Ft _ _⟩
  | some ad=>
   have h:=run_append_room (P:=Tryz.prog) w 36 ty 9 i0 Tryz.underlying36 hi g0 0 0 #[] hg ad 0 cap [] aH (λj u hu=>by simp at hu) (λu hu=>by simp at hu) af aH;exact⟨_,_,_,_,h,⟨⟨rfl,Fq _,by omega,λj x hx=>by simp at hx,He rfl⟩,He rfl⟩,by simpa using nj hg⟩
 ·cases va with
  | none=>
   rcases hr.2.2.2.2 with h|⟨b,o,e,_⟩
   ·subst h;simp at hzl;omega
   ·cases e
  | some ad=>
   have h:=run_append_grow (P:=Tryz.prog) w 36 ty 9 i0 (I ⟨#[]⟩) Tryz.underlying36 hi hz0 ⟨g0,0,U⟩ 0 0 [] aH (λj u hu=>by simp at hu) ad len cap (zs.map Fz) (by rw[hz1];simpa using hzl) (Ap.sb hr) af af (growslice_fits af (by rw[hz2];omega));obtain⟨v',w',hr2,h2,h3,h4⟩:=run_append_own (P:=Tryz.prog) w (base:=0) 36 ty 9 i0 (I ⟨#[]⟩) 1 16 Tryz.underlying36 hi hz0 hz1 hz2 rfl ah (J (F_ ⟨g0,0,U⟩) 0 0) 0 [] ⟨rfl,Hd ⟨g0,0,#[],rfl,FY _,hg,Fq _,by unfold maxLen;omega,rfl,rfl⟩⟩ ad len cap (zs.map Fz) (by simpa using hzl) (Ap.sb hr) (λu hu=>by obtain⟨x,_,rfl⟩:=List.mem_map.1 hu;rfl) bw af (FY _);rw[h] at hr2
   cases hr2
   rw[FE,List.nil_append] at h2;obtain⟨a',c',e,hT⟩:=bQ.ez h2 hr.2.2.2.1;have hbel:Below w.heap.size w (w.drew.alloc (G7 (([]:List Value).toArray++(zs.map Fz).toArray++Builtin.zeroCells (Fz ⟨#[]⟩).cells (grownCap w (0+len) 0 9 - (0+len))) 9)):=⟨rfl,rfl,rfl,by simp,λk hk=>heap_alloc_old w.drew _ (by simpa using hk)⟩;simp only[FE] at e h hbel ⊢
   cases e
   exact⟨_,_,_,_,h,hT.here (Hd (Fq _)),hbel⟩
theorem gS {a:Act} (hgd:o.guard=U) (s x:Operand) (ho:o.op=.call { callee:=.builtin .append,args:=#[s,x],argTypes:=#[36,36] }) (g0:Nat) (hs:a.eval s=J (F_ ⟨g0,0,U⟩) 0 0) (hg:w.heap[g0]?=F_ (G7 #[] 9 (0,0)))
  (va:Option Addr) (len cap:Nat) (hx:a.eval x=J va len cap) (zs:List ByteArray) (hr:aD w va len cap zs) (hl:len<=8001)
  (h:∀a' l c w',bQ w' a' l c zs (λk=>k=g0\/w.heap.size<=k)->Below w.heap.size w w'->wpList Tryz.prog ops Q rest (a.put o.dst (J a' l c)) w'):wpList Tryz.prog ops Q (o ::rest) a w:=by
 refine wpList_plain hgd λK hK=>?_;obtain⟨a',l,c,w',hrun,h1,h2⟩:=iT o.type hg hr hl;unfold Oper.wp execOp;simp only[ho,resolve,invoke,builtin,Sem.run_bind,Sem.run_pure,Result.andThen_ok,List.map_toArray,List.map_cons,List.map_nil,hs,hx,hrun];exact hK _ _ (h a' l c w' h1 h2)
theorem jI {len cap bytes:Nat} {rs:List (List Fv)} (t ty T:TypeId) (i:TypeInfo) (z:Value) (ht:Tryz.prog.underlying t=F_ (.slice T)) (hi:Tryz.prog.info? T=F_ i) (hz:i.zero=F_ z) (hsize:i.size=m) (hby:i.bytes=bytes) (hzs:z.cells.size=m) (hsz:0<m) (hT:¬T=9) (hg:w.heap[g0]?=F_ (G7 #[] T (0,0)))
  (hr:a_ w va len cap m rs) (hm:∀(j:Nat) r,rs[j]?=F_ r->r.length=m/\fT r) (hl:len<=8) (hb8:bytes<=1000):
  ∃a c w',(Builtin.append_ #[t,t] ty #[J (F_ ⟨g0,0,U⟩) 0 0,J va len cap]).run Tryz.prog w=.ok (J a len c) w'/\aA w' a len c m T rs (λk=>k=g0\/w.heap.size<=k)/\Below w.heap.size w w':=by
 rcases GJ len with h0|h0
 ·subst h0;obtain rfl:rs=[]:=F6 hr.1;cases va with
  | none=>exact⟨_,_,_,dx t ty T i ht hi g0 cap,aA.nil _ _ _ _ _ af,Ft _ _⟩
  | some ad=>
   have h:=run_append_room (P:=Tryz.prog) w t ty T i ht hi g0 0 0 #[] hg ad 0 cap [] aH (λj u hu=>by simp at hu) (λu hu=>by simp at hu) af aH;exact⟨_,_,_,h,aA.nil _ _ _ _ _ af,by simpa using nj hg⟩
 ·have hlen:((rs.map dW).flatten).length=len*m:=by rw[eD (iB λj r hj=>(hm j r hj).1),FB,hr.1]
  obtain⟨ad,rfl,hnews⟩:∃ad,va=F_ ad/\∀(j:Nat) u,((rs.map dW).flatten)[j]?=F_ u->w.cell? (ad.add j)=F_ u:=by
   rcases hr.2.2.2 with h|⟨b,o,rfl,_⟩
   ·subst h;have:=hr.1;simp at this;omega
   ·exact⟨_,rfl,lH hr hm⟩
  have h:=run_append_grow (P:=Tryz.prog) w t ty T i z ht hi hz ⟨g0,0,U⟩ 0 0 [] aH (λj u hu=>by simp at hu) ad len cap (rs.map dW).flatten (by rw[hsize];exact hlen) hnews af af (growslice_fits af (by rw[hby];have:(0+len)*bytes<=8*1000:=Nat.mul_le_mul af hb8;omega));obtain⟨v',w',hr2,h2,h3,h4⟩:=run_append_own (P:=Tryz.prog) w (base:=0) t ty T i z m bytes ht hi hz hsize hby hzs hsz (J (F_ ⟨g0,0,U⟩) 0 0) 0 [] ⟨by simp,Hd ⟨g0,0,#[],rfl,FY _,hg,Fq _,by unfold maxLen;omega,by simp,by simp⟩⟩ ad len cap (rs.map dW).flatten hlen hnews (gj hr hm w (λ_=>True)).one bw (by have:(0+len)*bytes<=8*1000:=Nat.mul_le_mul af hb8;omega) (FY _);rw[h] at hr2;cases hr2;rw[FE,List.nil_append] at h2;obtain⟨a',c',e,hR⟩:=(gj hr hm _ (λk=>k=g0\/w.heap.size<=k)).own h2 hr.1.symm hT (λg hg=>by simp[FX] at hg;exact Hd af);have hbel:Below w.heap.size w (w.drew.alloc (G7 (([]:List Value).toArray++((rs.map dW).flatten).toArray++Builtin.zeroCells z.cells (grownCap w (0+len) 0 T - (0+len))) T)):=⟨rfl,rfl,rfl,by simp,λk hk=>heap_alloc_old w.drew _ (by simpa using hk)⟩;rw[hr.1] at e hR;simp only[FE] at e h hbel hR ⊢;cases e;exact⟨_,_,_,h,hR,hbel⟩
theorem mN {a:Act} {K:Act->World->Prop} {len cap bytes:Nat} {rs:List (List Fv)} (s x:Operand) (t T:TypeId) (ho:o.op=.call { callee:=.builtin .append,args:=#[s,x],argTypes:=#[t,t] }) (i:TypeInfo) (z:Value) (ht:Tryz.prog.underlying t=F_ (.slice T)) (hi:Tryz.prog.info? T=F_ i) (hz:i.zero=F_ z) (hsize:i.size=m) (hby:i.bytes=bytes) (hzs:z.cells.size=m) (hsz:0<m) (hT:¬T=9) (hs:a.eval s=J (F_ ⟨g0,0,U⟩) 0 0) (hg:w.heap[g0]?=F_ (G7 #[] T (0,0)))
  (hx:a.eval x=J va len cap) (hr:a_ w va len cap m rs) (hm:∀(j:Nat) r,rs[j]?=F_ r->r.length=m/\fT r) (hl:len<=8) (hb8:bytes<=1000)
  (h:∀a' c' w',aA w' a' len c' m T rs (λk=>k=g0\/w.heap.size<=k)->Below w.heap.size w w'->K (a.put o.dst (J a' len c')) w'):o.wp Tryz.prog a w K Q:=by
 obtain⟨a',c',w',hrun,h1,h2⟩:=jI t o.type T i z ht hi hz hsize hby hzs hsz hT hg hr hm hl hb8;unfold Oper.wp execOp;simp only[ho,resolve,invoke,builtin,Sem.run_bind,Sem.run_pure,Result.andThen_ok,List.map_toArray,List.map_cons,List.map_nil,hs,hx,hrun];exact h a' c' w' h1 h2
theorem rj {o p:Obj} (h:Below (w.heap.size+1+1) ((w.alloc o).alloc p) w'):w'.heap[w.heap.size]?=F_ o/\w'.heap[w.heap.size+1]?=F_ p/\Below w.heap.size w w':=bU (by rw[cB,cB];exact h)
theorem gH(w:World) (n:Nat) (hn:w.heap.size=n) (vs:List Value) (T:TypeId):∀(j:Nat) u,vs[j]?=F_ u->(w.alloc (G7 vs.toArray T)).cell? ((⟨n,0,U⟩:Addr).add j)=F_ u:=by
 subst hn;exact eA w vs T
theorem E0 {u0 u1 u2 u3 u4 u5:Value} (h:w.heap[b]?=F_ (G7 #[u0,u1,u2,u3,u4,u5] T (0,0))):
  ((((((w.setCell ⟨b,0,U⟩ v0).setCell ⟨b,1,U⟩ v1).setCell ⟨b,2,U⟩ v2).setCell ⟨b,3,U⟩ v3).setCell ⟨b,4,U⟩ v4).setCell ⟨b,5,U⟩ v5).heap[b]?=F_ (G7 #[v0,v1,v2,v3,v4,v5] T (0,0)):=
 az (az (az (az (az (az h v0) v1) v2) v3) v4) v5
theorem fo {k:Nat} (hk:¬k=b):
  ((((((w.setCell ⟨b,0,U⟩ v0).setCell ⟨b,1,U⟩ v1).setCell ⟨b,2,U⟩ v2).setCell ⟨b,3,U⟩ v3).setCell ⟨b,4,U⟩ v4).setCell ⟨b,5,U⟩ v5).heap[k]?=w.heap[k]?:=by
 rw[Fl _ _ _ _ hk,Fl _ _ _ _ hk,Fl _ _ _ _ hk,Fl _ _ _ _ hk,Fl _ _ _ _ hk,Fl _ _ _ _ hk]
theorem aA.dv {a:Option Addr} {len cap:Nat} {T':TypeId} {rs:List (List Fv)} (h:aA w a len cap m T rs S) {b:Nat} {cs:Array Value} (hb:w.heap[b]?=F_ (G7 cs T' (0,0))) (h1:¬T'=T) (h2:¬T'=9):aA w a len cap m T rs (λk=>S k/\¬k=b):=by
 obtain⟨a1,a2,a3,a4⟩:=h;refine⟨a1,a2,a3,a4.imp id ?_⟩;rintro⟨g,cur,H,e,h5⟩;refine⟨g,cur,H,e,h5.blk,⟨h5.inS,λq=>?_⟩,h5.len,λj r hj i f hi=>?_,h5.inj⟩
 ·subst q;have:=h5.blk;rw[hb] at this;cases this;exact h1 rfl
 ·obtain⟨v,q1,q2⟩:=h5.cell j r hj i f hi;refine⟨v,q1,?_⟩;cases f with
  | l zs=>
   obtain⟨a',l',c',k1,k2,k3,k4,k5,k6⟩:=q2;refine⟨a',l',c',k1,k2,k3,k4,k5,k6.imp id ?_⟩;rintro⟨z1,z2,z3,cu,z4,z5⟩;refine⟨z1,⟨z2,λq=>?_⟩,z3,cu,z4,z5⟩;rw[q] at z4;rw[hb] at z4
   cases z4
   exact h2 rfl
  | _=>exact q2
theorem oc {n:Nat} {T':TypeId} {v:Value} {xs:List Value} {i:Nat} (h:w.ownsRow base T m v n xs) (hb:w.heap[b]?=F_ (G7 cs T' (0,0))) (hT:¬T'=T):(w.setCell ⟨b,i,U⟩ u).ownsRow base T m v n xs:=by
 refine⟨h.1,h.2.imp id ?_⟩;rintro⟨g,cap,cur,h1,h2,h3,h4⟩;refine⟨g,cap,cur,h1,h2,(Fl _ _ _ _ (λe=>?_)).trans h3,h4⟩;subst e;rw[hb] at h3;cases h3;exact hT rfl
theorem aX.set {rs:List (List Fv)} (h:aX w S m rs vss H) {b i:Nat} {cs:Array Value} {T':TypeId} {u:Value} (hb:w.heap[b]?=F_ (G7 cs T' (0,0))) (hT:¬T'=9):aX (w.setCell ⟨b,i,U⟩ u) S m rs vss H:=
 h.aB (λk cu _ q=>Fl _ _ _ _ (λe=>by subst e;rw[hb] at q;cases q;exact hT rfl)) (λ_ _ s=>s)
theorem aL.oe(hg:W.grownBy w vb) (h:∀g,vb=F_ g->S g):aL S W w:=⟨hg.os,hg.tape,hg.output,hg.size,λk hk hn=>hg.block k hk (λe=>hn (h k e.symm))⟩
theorem aC {n:Nat} {v:Value} {xs:List Value} (h:w.ownsRow base T m v n xs):∃a l c,v=J a l c:=by
 rcases h.2 with ⟨rfl,_⟩|⟨g,cap,cur,rfl,_⟩
 ·exact⟨_,_,_,rfl⟩
 ·exact⟨_,_,_,rfl⟩
abbrev Cps(b:Nat) (X:World):Nat->Prop:=λk=>k=b\/X.heap.size<=k
theorem qQ {X wr w5:World} {b3 k:Nat} {TC:TypeId} {v:Value} {xs:List Value} (hO:wr.ownsRow X.heap.size T m v k xs) (hBo:wr.heap[b3]?=F_ (G7 cs TC (0,0))) (hb3:b3<X.heap.size) (hb:Below wr.heap.size wr W) (hg:W.grownBy w5 v.ownBlock):w5.heap[b3]?=F_ (G7 cs TC (0,0)):=
 (hg.block b3 (Fw (aa hBo) hb.size) (λe=>by have:=(hO.lt b3 e.symm).1;omega)).trans ((hb.block _ (aa hBo)).trans hBo)
theorem sk {X wr w5:World} {b3 k f:Nat} {TC:TypeId} {v v':Value} {rs:List (List Fv)} {r:List Fv} {vs:List Value} {hh:Nat} (hK:aL (Cps b3 X) X wr) (hO:wr.ownsRow X.heap.size T m v k vss.flatten) (hV:aX wr (λk=>X.heap.size<=k) m rs vss H) (hBo:wr.heap[b3]?=F_ (G7 cs TC (0,0))) (hb3:b3<X.heap.size)
  (hb:Below wr.heap.size wr W) (hown:w5.ownsRow X.heap.size T m v' (k+1) (vss.flatten++vs)) (hg:W.grownBy w5 v.ownBlock) (hT:¬T=9) (hTC:¬TC=T) (hTS:¬TC=9) (hr:r.length=m) (hvs:vs.length=m) (hc:∀(i:Nat) f,r[i]?=F_ f->∃v,vs[i]?=F_ v/\f.Fr W hh (λk=>X.heap.size<=k) v) (hfr:∀(i:Nat) zs,r[i]?=F_ (.l zs)->zs≠[]->wr.heap.size<=hh)
  (h1:∀(i i':Nat) zs zs',r[i]?=F_ (.l zs)->zs≠[]->r[i']?=F_ (.l zs')->zs'≠[]->i=i'):
  aL (Cps b3 X) X (w5.setCell ⟨b3,f,U⟩ v')/\(w5.setCell ⟨b3,f,U⟩ v').ownsRow X.heap.size T m v' (k+1) (vss++[vs]).flatten/\(∃H',aX (w5.setCell ⟨b3,f,U⟩ v') (λk=>X.heap.size<=k) m (rs++[r]) (vss++[vs]) H')/\(w5.setCell ⟨b3,f,U⟩ v').heap[b3]?=F_ (G7 (cs.setIfInBounds f v') TC (0,0)):=by
 have hb5:=qQ hO hBo hb3 hb hg;refine⟨?_,?_,⟨_,(hV.app hb (cw hO hb) hT hg hr hvs hc hfr h1).set hb5 hTS⟩,az hb5 v'⟩
 ·exact ((hK.trans (aL.dq hb)).trans (aL.oe hg (λg e=>Hd (hO.lt g e).1))).set (He rfl)
 ·rw[List.flatten_append];refine oc ?_ hb5 hTC;simpa using hown
structure cV (w:World) (d:Ad) (c:Cr) (S:Nat->Prop):Prop where
 n:aA w d.a1 d.l1 d.c1 7 38 c.n S
 k:aA w d.a2 d.l2 d.c2 4 92 c.k S
 v:aA w d.a3 d.l3 d.c3 8 95 c.v S
 x:aA w d.a4 d.l4 d.c4 5 97 c.x S
 p:aA w d.a5 d.l5 d.c5 6 40 c.p S
def EmF(B:Nat) (T:TypeId):Fact:=λv w=> ∃b,v=J (F_ ⟨b,0,U⟩) 0 0/\B<=b/\w.heap[b]?=F_ (G7 #[] T (0,0))
theorem EmF.mono(B:Nat) (T:TypeId):Fact.ck (EmF B T):=by
 exact lr
def RwF(B len m:Nat) (T:TypeId) (rs:List (List Fv)):Fact:=λv w=> ∃a c,v=J a len c/\aA w a len c m T rs (λk=>B<=k)
theorem RwF.mono(B len m:Nat) (T:TypeId) (rs:List (List Fv)):Fact.ck (RwF B len m T rs):=by
 rintro v w w' ⟨a,c,h1,h2⟩ hb;exact⟨a,c,h1,h2.below hb⟩
def CpF(B l2 l4:Nat) (c:Cl):Fact:=λv w=> ∃a2 c2 a4 c4,v=Hc #[J U 0 0,J a2 l2 c2,J U 0 0,J a4 l4 c4,J U 0 0,GZ G6 c.now]/\aA w a2 l2 c2 4 92 (c.ks.map kdF) (λk=>B<=k)/\aA w a4 l4 c4 5 97 (c.xs.map xdF) (λk=>B<=k)
theorem CpF.mono(B l2 l4:Nat) (c:Cl):Fact.ck (CpF B l2 l4 c):=by
 rintro v w w' ⟨a2,c2,a4,c4,h1,h2,h3⟩ hb;exact⟨a2,c2,a4,c4,h1,h2.below hb,h3.below hb⟩
def FrF(B:Nat):Fact:=λv w=> ∃b,v=Hf (F_ ⟨b,0,U⟩)/\B<=b/\w.heap[b]?=F_ (G7 #[J U 0 0,J U 0 0,J U 0 0,J U 0 0,J U 0 0,GZ G6 0] 29 (0,0))
theorem FrF.mono(B:Nat):Fact.ck (FrF B):=by
 exact lr
def Rv(vb:Option Nat) (sp:Tmp):Gi.Rs:=λs w w'=>match s with
 | none=>w.grownBy w' vb
 | some t=>if t=sp then w.grownBy w' vb else Below w.heap.size w w'
theorem eC(vb:Option Nat) (h:Below w.heap.size w w'):w.grownBy w' vb:=⟨h.os,h.tape,h.output,h.size,λk hk _=>h.block k hk⟩
theorem Rv.below {s:Option Tmp} (h:Rv vb sp s w w') (h1:¬s=U) (h2:¬s=F_ sp):Below w.heap.size w w':=by
 cases s with
 | none=>exact absurd rfl h1
 | some t=>
  simp only[Rv] at h;rw[if_neg (λe=>h2 (by rw[e]))] at h;exact h
theorem Rv.rel(vb:Option Nat) (sp:Tmp):Gi.Rel (Rv vb sp) sp:=by
 refine⟨λw=>eC vb (Ft _ _),fun {a b c} h k=>?_,λh=>World.grownBy.size h,λw=>eC vb (Ft _ _).drew,λs {a b} h=>?_,λs {a b} h1 h2 h=>Rv.below h h1 h2⟩
 ·have h:World.grownBy a b vb:=h;have k:World.grownBy b c vb:=k;exact⟨k.os.trans h.os,k.tape.trans h.tape,k.output.trans h.output,FA h.size k.size,λi hi hn=>(k.block i (Fw hi h.size) hn).trans (h.block i hi hn)⟩
 ·cases s with
  | none=>exact h
  | some t=>
   show World.grownBy a b vb
   simp only[Rv] at h
   split at h
   ·exact h
   ·exact eC vb h
theorem Rv.other {t:Tmp} (ht:¬t=sp) (h:Below w.heap.size w w'):Rv vb sp (F_ t) w w':=by
 show (if t=sp then w.grownBy w' vb else Below w.heap.size w w');rw[if_neg ht];exact h
theorem Rv.this(h:w.grownBy w' vb):Rv vb sp (F_ sp) w w':=by
 show (if sp=sp then w.grownBy w' vb else Below w.heap.size w w');rw[if_pos rfl];exact h
theorem yR {vs:List Value} (h:w.heap[b]?=F_ (G7 vs.toArray T (0,0))):∀(j:Nat) u,vs[j]?=F_ u->w.cell? ((⟨b,0,U⟩:Addr).add j)=F_ u:=by
 intro j u hu;rw[FC,ar h,FE];simpa using hu
def TvF(B:Nat) (x:Vd):Gi.Fact:=λu w _ _=> ∃a l c,u=Hc #[I x.n,GZ G6 x.c,I x.z,I x.k,G8 x.x,I x.m,G8 x.y,J a l c]/\bQ w a l c x.zs (λk=>B<=k)
def BsF(B:Nat) (x:Vd):Gi.Fact:=λu w _ _=> ∃b a l c,u=J (F_ ⟨b,0,U⟩) 1 1/\B<=b/\w.heap[b]?=F_ (G7 #[I x.n,GZ G6 x.c,I x.z,I x.k,G8 x.x,I x.m,G8 x.y,J a l c] 95 (0,0))/\bQ w a l c x.zs (λk=>B<=k)
def ApF(B k:Nat) (rs:List (List Fv)) (vss:List (List Value)):Gi.Fact:=λu w _ _=> ∃H' vs,w.ownsRow B 95 8 u (k+1) (vss++[vs]).flatten/\aX w (λk=>B<=k) 8 rs (vss++[vs]) H'
theorem TvF.mono {x:Vd} (hv:∀g,vb=F_ g->g<B):Gi.Fact.ck (Rv vb sp) ex d (TvF B x):=by
 rintro s _ _ _ v w w' l h ⟨a,l,c,h1,h2⟩ hb;have hb:w.grownBy w' vb:=(Rv.rel vb sp).sub s hb;exact⟨a,l,c,h1,h2.aB (λk hk s=>hb.block k hk (λe=>by have s1:B<=k:=s;have:=hv k e.symm;omega)) (λ_ _ s=>s)⟩
theorem BsF.mono {x:Vd} (hv:∀g,vb=F_ g->g<B):Gi.Fact.ck (Rv vb sp) ex d (BsF B x):=by
 rintro s _ _ _ v w w' l h ⟨b,a,l,c,h1,h2,h3,h4⟩ hb;have hb:w.grownBy w' vb:=(Rv.rel vb sp).sub s hb;exact⟨b,a,l,c,h1,h2,(hb.block _ (aa h3) (λe=>by have:=hv b e.symm;omega)).trans h3,h4.aB (λk hk s=>hb.block k hk (λe=>by have s1:B<=k:=s;have:=hv k e.symm;omega)) (λ_ _ s=>s)⟩
theorem ApF.mono {k:Nat} {rs:List (List Fv)} :Gi.Fact.ck (Rv vb sp) ex (F_ sp) (ApF B k rs vss):=by
 rintro s h1 h2 _ v w w' l h ⟨H',vs,h3,h4⟩ hb;have hb:=Rv.below hb h1 h2;exact⟨H',vs,cw h3 hb,h4.below hb⟩
theorem bu(d:Ad) (c:Cl) (w:World) (hr:aE w d c.raw) (hs:Sm c):
  Calls Tryz.prog 29 #[Hc #[J d.a1 d.l1 d.c1,J d.a2 d.l2 d.c2,J d.a3 d.l3 d.c3,J d.a4 d.l4 d.c4,J d.a5 d.l5 d.c5,GZ G6 c.now]] w λe w'=> ∃d',e=Ha (Hc #[J d'.a1 d'.l1 d'.c1,J d'.a2 d'.l2 d'.c2,J d'.a3 d'.l3 d'.c3,J d'.a4 d'.l4 d'.c4,J d'.a5 d'.l5 d'.c5,GZ G6 c.now])/\cV w' d' c.raw (λk=>w.heap.size<=k)/\Below w.heap.size w w':=by
 obtain⟨a1,l1,y1,a2,l2,y2,a3,l3,y3,a4,l4,y4,a5,l5,y5⟩:=d;dsimp only;obtain⟨HR,hl1,hm1,hl2,hm2,hl3,hm3,hl4,hm4,hl5,hm5⟩:=ew;clear hr;have HS:=ae hs;clear hs;obtain⟨i2,hi2⟩:=FR.1 zl;obtain⟨i4,hi4⟩:=FR.1 mi;obtain⟨i1,hi1⟩:=FR.1 zk;obtain⟨i3,hi3⟩:=FR.1 mj;obtain⟨i5,hi5⟩:=FR.1 fQ;have HI1:=ae hi1;have HI2:=ae hi2;have HI3:=ae hi3;have HI4:=ae hi4;have HI5:=ae hi5;clear hi1 hi2 hi3 hi4 hi5;obtain⟨W,hW0⟩:∃W,W=(w.alloc (G7 (clo6 a1 l1 y1 a2 l2 y2 a3 l3 y3 a4 l4 y4 a5 l5 y5 c.now) 29)).alloc (G7 (clo6 U 0 0 U 0 0 U 0 0 U 0 0 U 0 0 0) 29):=⟨_,rfl⟩;have HB:Hid (Below w.heap.size w W):=by rw[hW0];exact aM _ _ _
 have Bk:Hid (W.heap[w.heap.size]?=F_ (G7 (clo6 a1 l1 y1 a2 l2 y2 a3 l3 y3 a4 l4 y4 a5 l5 y5 c.now) 29 (0,0))):=by rw[hW0];exact dK _ _ _
 obtain⟨Br,hWs⟩:=A5;go_enter Tryz.func29,Tryz.ntmps29;go_wp2_with fail;rw[<-hW0];clear hW0;rename_i K0 hK0;refine aQ au rfl rfl au ?_;refine Grow.step (EmF W.heap.size 92) rfl (EmF.mono _ _) ?_ ?_
 ·exact jy
 refine' Grow.stepC _ rfl ?_ ?_;rotate_left 1
 ·exact jc
 refine' Grow.stepC _ rfl ?_ ?_;rotate_left 1
 ·refine Obl.plain rfl ?_;intro ac wg K hsz hW hf hK;clear hsz;have e10:=hf 10 ah;simp[ai,Fo] at e10;exact fM
 refine Grow.step (RwF W.heap.size l2 4 92 (c.ks.map kdF)) rfl (RwF.mono _ _ _ _ _) ?_ ?_
 ·refine Obl.plain rfl ?_;intro ac wg K hsz hW hf hK;clear hsz;have e9:=hf 9 ah;simp[ai,Fo] at e9;have e11:=hf 11 ah;simp[ai,Fo] at e11;clear hf;obtain⟨b0,e9,hB0,hg0⟩:=e9;have hz:i2.zero=F_ (Hc #[I ⟨#[]⟩,G8 G_,G8 G_,I ⟨#[]⟩])/\i2.size=4/\i2.bytes=40:=by have:=HI2.2;simp only[GU] at this;exact this
  refine mN (.tmp 9) (.tmp 11) 24 92 rfl i2 (Hc #[I ⟨#[]⟩,G8 G_,G8 G_,I ⟨#[]⟩]) Tryz.underlying24 HI2.1 hz.1 hz.2.1 hz.2.2 rfl ah ah (by simpa[Act.eval] using e9) hg0 (by simpa[Act.eval] using e11) (HR.k.below (HB.trans (hW.mono HB.size))) (iu sf _) (show l2<=8 by have:=HS.k;omega) ah ?_;exact yf
 refine Grow.step (EmF W.heap.size 97) rfl (EmF.mono _ _) ?_ ?_
 ·exact jy
 refine' Grow.stepC _ rfl ?_ ?_;rotate_left 1
 ·exact jc
 refine' Grow.stepC _ rfl ?_ ?_;rotate_left 1
 ·refine Obl.plain rfl ?_;intro ac wg K hsz hW hf hK;clear hsz;have e14:=hf 14 ah;simp[ai,Fo] at e14;exact fM
 refine Grow.step (RwF W.heap.size l4 5 97 (c.xs.map xdF)) rfl (RwF.mono _ _ _ _ _) ?_ ?_
 ·refine Obl.plain rfl ?_;intro ac wg K hsz hW hf hK;clear hsz;have e13:=hf 13 ah;simp[ai,Fo] at e13;have e15:=hf 15 ah;simp[ai,Fo] at e15;clear hf;obtain⟨b0,e13,hB0,hg0⟩:=e13;have hz:i4.zero=F_ (Hc #[I ⟨#[]⟩,GZ G6 0,I ⟨#[]⟩,G8 G_,I ⟨#[]⟩])/\i4.size=5/\i4.bytes=64:=by have:=HI4.2;simp only[GU] at this;exact this
  refine mN (.tmp 13) (.tmp 15) 26 97 rfl i4 (Hc #[I ⟨#[]⟩,GZ G6 0,I ⟨#[]⟩,G8 G_,I ⟨#[]⟩]) Tryz.underlying26 HI4.1 hz.1 hz.2.1 hz.2.2 rfl ah ah (by simpa[Act.eval] using e13) hg0 (by simpa[Act.eval] using e15) (HR.x.below (HB.trans (hW.mono HB.size))) (iu q7 _) (show l4<=8 by have:=HS.x;omega) ah ?_;exact yf
 refine' Grow.stepC _ rfl ?_ ?_;rotate_left 1
 ·exact jc
 refine' Grow.stepC _ rfl ?_ ?_;rotate_left 1
 ·refine Obl.plain rfl ?_;intro ac wg K hsz hW hf hK;clear hsz;have e17:=hf 17 ah;simp[ai,Fo] at e17;exact fM
 refine Grow.step (CpF W.heap.size l2 l4 c) rfl (CpF.mono _ _ _ _) ?_ ?_
 ·refine Obl.plain rfl ?_;intro ac wg K hsz hW hf hK;clear hsz;have e12:=hf 12 ah;simp[ai,Fo] at e12;have e16:=hf 16 ah;simp[ai,Fo] at e16;have e18:=hf 18 ah;simp[ai,Fo] at e18;clear hf;obtain⟨p2,q2,e12,h12⟩:=e12;obtain⟨p4,q4,e16,h16⟩:=e16;have H12:=ae h12;have H16:=ae h16;clear h12 h16;go_simp;exact hK _ _ (Ft _ _) ⟨p2,q2,p4,q4,rfl,H12.out,H16.out⟩
 refine Grow.step (FrF W.heap.size) rfl (FrF.mono _) ?_ ?_
 ·exact jy
 refine Grow.done ?_;intro q wz hW hf;simp only[FH] at hf;obtain⟨⟨b3,h3,hb3,hg3⟩,⟨p2,q2,p4,q4,h19,hR2,hR4⟩,-⟩:=hf;obtain⟨t0,t1,t2,t3,t4,t5⟩:=cs6 hg3;have f0:=al hg3 0;have f1:=al hg3 1;have f2:=al hg3 2;have f3:=al hg3 3;have f4:=al hg3 4;have f5:=al hg3 5;have BoX:=ae (E0 (v0:=J U 0 0) (v1:=J p2 l2 q2) (v2:=J U 0 0) (v3:=J p4 l4 q4) (v4:=J U 0 0) (v5:=GZ G6 c.now) hg3);have HWX:Hid (Below W.heap.size W ((((((wz.setCell ⟨b3,0,U⟩ (J U 0 0)).setCell ⟨b3,1,U⟩ (J p2 l2 q2)).setCell ⟨b3,2,U⟩ (J U 0 0)).setCell ⟨b3,3,U⟩ (J p4 l4 q4)).setCell ⟨b3,4,U⟩ (J U 0 0)).setCell ⟨b3,5,U⟩ (GZ G6 c.now))):=ak hb3 (ak hb3 (ak hb3 (ak hb3 (ak hb3 (ak hb3 hW)))));have R2:Hid (aA ((((((wz.setCell ⟨b3,0,U⟩ (J U 0 0)).setCell ⟨b3,1,U⟩ (J p2 l2 q2)).setCell ⟨b3,2,U⟩ (J U 0 0)).setCell ⟨b3,3,U⟩ (J p4 l4 q4)).setCell ⟨b3,4,U⟩ (J U 0 0)).setCell ⟨b3,5,U⟩ (GZ G6 c.now)) p2 l2 q2 4 92 (c.ks.map kdF) (λk=>W.heap.size<=k/\¬k=b3)):=(hR2.dv hg3 ah ah).aB (λk hk s=>fo s.2) (λk _ s=>s);have R4:Hid (aA ((((((wz.setCell ⟨b3,0,U⟩ (J U 0 0)).setCell ⟨b3,1,U⟩ (J p2 l2 q2)).setCell ⟨b3,2,U⟩ (J U 0 0)).setCell ⟨b3,3,U⟩ (J p4 l4 q4)).setCell ⟨b3,4,U⟩ (J U 0 0)).setCell ⟨b3,5,U⟩ (GZ G6 c.now)) p4 l4 q4 5 97 (c.xs.map xdF) (λk=>W.heap.size<=k/\¬k=b3)):=(hR4.dv hg3 ah ah).aB (λk hk s=>fo s.2) (λk _ s=>s);clear hg3 hR2 hR4 hW;intro K hK;rw[if_pos cQ];simp only[aN,F7,Act.put,FF,FL,FM,h3,h19];simp only[List.getLast];go_simp;refine hK _ _ ?_;refine hK0 _ _ ?_;clear hK hK0 K K0;generalize ((((((wz.setCell ⟨b3,0,U⟩ (J U 0 0)).setCell ⟨b3,1,U⟩ (J p2 l2 q2)).setCell ⟨b3,2,U⟩ (J U 0 0)).setCell ⟨b3,3,U⟩ (J p4 l4 q4)).setCell ⟨b3,4,U⟩ (J U 0 0)).setCell ⟨b3,5,U⟩ (GZ G6 c.now))=X at BoX HWX R2 R4 ⊢;clear t0 t1 t2 t3 t4 t5 f0 f1 f2 f3 f4 f5;have HBX:=ae (HB.trans (HWX.mono HB.size));replace Bk:=ae ((HWX.block _ (aa Bk.out)).trans Bk.out);replace Br:=ae ((HWX.block _ (aa Br.out)).trans Br.out);have hb3X:=aa BoX.out;clear HB;go_wp2;go_loopw [4] (λvi wr=> ∃(k:Nat) (vss:List (List Value)) (H:Nat->Nat->Nat) (v:Value),k<=l1/\vi=GZ G6 k/\Hid (aL (Cps b3 X) X wr)/\Hid (wr.ownsRow X.heap.size 38 7 v k vss.flatten)/\Hid (aX wr (λk=>X.heap.size<=k) 7 ((c.ns.take k).map ndF) vss H)/\Hid (wr.heap[b3]?=F_ (G7 #[v,J p2 l2 q2,J U 0 0,J p4 l4 q4,J U 0 0,GZ G6 c.now] 29 (0,0)))) (λvi _=>l1 - (intOf vi).toNat);case atStart=>exact⟨0,[],λ_ _=>0,J U 0 0,by omega,rfl,aL.refl _ _,Gj _ _ _ _,aX.nil _ _ _ _,BoX⟩
 case round=>
  obtain⟨k,vss,H,v,hk,rfl,HK,HO,HV,Bo⟩:=hrel;obtain⟨hXs,HBW,BkR,hKs⟩:=uG;by_cases hlt:k<l1
  ·obtain⟨b,o,x,rfl,hb0,hx,hat⟩:=bO HR.n hlt;obtain⟨va,vl,vc,hvr,z0,z1,c0,c1,c2,c3,c4,c5,c6⟩:=aU hat;have hz8:vl<=8001:=by have h1:=hvr.1;have h2:=HS.ns k x hx;omega
   have HX:=ae hx;have HT:=ae hvr;have HZz0:=ae z0;have HZz1:=ae z1;clear hat hx hvr z0 z1;replace c0:=(aj HBW.out hb0).trans c0;replace c1:=(aj HBW.out hb0).trans c1;replace c2:=(aj HBW.out hb0).trans c2;replace c3:=(aj HBW.out hb0).trans c3;replace c4:=(aj HBW.out hb0).trans c4;replace c5:=(aj HBW.out hb0).trans c5;replace c6:=(aj HBW.out hb0).trans c6;have hbr:=Fw hb0 HBW.size;have hkr:=aa BkR.out;have hor:=aa Bo.out;have hz:i1.zero=F_ (Hc #[I ⟨#[]⟩,I ⟨#[]⟩,GZ G6 0,GZ G6 0,GZ G6 0,G8 G_,J U 0 0])/\i1.size=7/\i1.bytes=88:=by have:=HI1.2;simp only[GU] at this;exact this
   obtain⟨k0,k1,k2,k3,k4,k5⟩:=cs6 BkR;go_wp2_with (first|(at_builtin;refine gS rfl _ _ rfl (wr.heap.size+1) rfl (cL _ _ _) va vl vc rfl x.zs (HT.below (HBW.trans ((aM _ _ _).mono HBW.size))) hz8 ?_));intro a' l' c' w2 hT2 hb2;obtain⟨hn2,-,hbx⟩:=rj hb2;obtain⟨g,hg⟩:=hT2.fr;obtain⟨hs2,hsl⟩:=uO;have hb4:Below wr.heap.size wr ((w2.setCell ⟨wr.heap.size,6,U⟩ (J a' l' c')).alloc (G7 (nov x a' l' c') 38)):=(ak (Fq _) hbx).alloc jm _;have HF4:Hid (LFr ((w2.setCell ⟨wr.heap.size,6,U⟩ (J a' l' c')).alloc (G7 (nov x a' l' c') 38)) g (λk=>X.heap.size<=k) x.zs (J a' l' c')):=hg.aB (λcu _ q=>(Fy _ _ _ (by simp[Gb];exact aa q)).trans (Fl _ _ _ _ (λe=>by subst e;rw[hn2] at q;cases q))) (λ_ s=>by have:=hsl _ s;show X.heap.size<=g;omega);obtain⟨HG,HB4,HO4⟩:=uM;obtain⟨n0,n1,n2,n3,n4,n5,n6⟩:=cs7 hn2;have fn3:=al hn2 3;have fn6:=al hn2 6;have bo2:=(hbx.block _ hor).trans Bo.out;obtain⟨o0,o1,o2,o3,o4,o5⟩:=cs6 bo2;clear hn2 hbx hT2 hg hb2 hsl hb4 bo2 k0 k1 k2 k3 k4 k5 c0 c1 c2 c3 c4 c5 c6;go_wp2_with (first|(at_builtin;refine wpList_append_own _ rfl _ _ 23 rfl X.heap.size 38 i1 (Hc #[I ⟨#[]⟩,I ⟨#[]⟩,GZ G6 0,GZ G6 0,GZ G6 0,G8 G_,J U 0 0]) 7 88 Tryz.underlying23 HI1.1 hz.1 hz.2.1 hz.2.2 rfl ah _ _ _ rfl HO4.out ⟨w2.heap.size,0,U⟩ 1 1 [I x.n,I x.z,GZ G6 x.c,GZ G6 x.s,GZ G6 x.u,G8 x.d,J a' l' c'] rfl rfl ?c1 ?c2 ?c3 ?c4 ?c5 ?_));case c1=>exact gH _ _ la _ _
   case c2=>intro u hu;simp only[List.mem_cons,Gl,or_false] at hu;rcases hu with rfl|rfl|rfl|rfl|rfl|rfl|rfl <;> rfl
   case c3=>unfold maxLen;have:=HS.n;omega
   case c4=>have:=HS.n;omega
   case c5=>simp[Gb];omega
   rintro v' w5 hown5 hgrow -;obtain⟨v1',v2',v3',rfl⟩:=aC hown5;clear n0 n1 n2 n3 fn3 n4 n5 n6 fn6 o0 o1 o2 o3 o4 o5;have bo5:=qQ HO.out Bo.out hb3X HB4.out hgrow;obtain⟨hs1,hs2',⟨H',hs3⟩,hs4⟩:=sk (f:=0) (r:=ndF x) (vs:=[I x.n,I x.z,GZ G6 x.c,GZ G6 x.s,GZ G6 x.u,G8 x.d,J a' l' c']) (hh:=g) HK.out HO.out HV.out Bo.out hb3X HB4.out hown5 hgrow ah ah ah rfl rfl (CN HZz0.out HZz1.out HF4.out) (λi zs hi hz=>HG.out zs (s9 hi).2.symm hz) (λi i' zs zs' h1 _ h2 _=>(s9 h1).1.trans (s9 h2).1.symm);have e1:(c.ns.take (k+1)).map ndF=(c.ns.take k).map ndF++[ndF x]:=by rw[FZ,HX.out];simp
   exact B6
  ·have hkl:k=l1:=af
   have h5:=HV.out;rw[FT af] at h5;obtain⟨p1,q1,hv,hR⟩:=h5.own HO.out bD ah (λg hg=>(HO.lt g hg).1);have hl5:(c.ns.map ndF).length=l1:=by simpa using hl1
   rw[hl5] at hv hR;subst hv;have R1:=ae (hR.dv Bo.out ah ah);replace R2:=ae (R2.aB (λk hk s=>HK.block k hk (λq9=>by rcases q9 with q9|q9;exact s.2 q9;omega)) (λ_ _ s=>s));replace R4:=ae (R4.aB (λk hk s=>HK.block k hk (λq9=>by rcases q9 with q9|q9;exact s.2 q9;omega)) (λ_ _ s=>s));replace Br:=ae ((HK.block (w.heap.size+1) af (λs=>by rcases s with s|s <;> omega)).trans Br.out);replace Bk:=BkR;replace BoX:=Bo;replace HBX:=HBW;have hb3X1:=aa BoX.out;clear BkR Bo HBW h5 hR HV HO HK hl5 hkl hk hKs hXs;generalize wr=X1 at*;obtain⟨k0,k1,k2,k3,k4,k5⟩:=cs6 Bk;go_wp2;clear k0 k1 k2 k3 k4 k5 hlt;go_loopw [6] (λvi wr=> ∃(k:Nat) (vss:List (List Value)) (H:Nat->Nat->Nat) (v:Value),k<=l3/\vi=GZ G6 k/\Hid (aL (Cps b3 X1) X1 wr)/\Hid (wr.ownsRow X1.heap.size 95 8 v k vss.flatten)/\Hid (aX wr (λk=>X1.heap.size<=k) 8 ((c.vs.take k).map vdF) vss H)/\Hid (wr.heap[b3]?=F_ (G7 #[J p1 l1 q1,J p2 l2 q2,v,J p4 l4 q4,J U 0 0,GZ G6 c.now] 29 (0,0)))) (λvi _=>l3 - (intOf vi).toNat);case atStart=>exact⟨0,[],λ_ _=>0,J U 0 0,by omega,rfl,aL.refl _ _,Gj _ _ _ _,aX.nil _ _ _ _,BoX⟩
   case round=>
    obtain⟨k,vss,H,v,hk,rfl,HK,HO,HV,Bo⟩:=hrel;obtain⟨hXs,HBW,BkR,hKs⟩:=uG;by_cases hlt:k<l3
    ·obtain⟨b,o,x,rfl,hb0,hx,hat⟩:=bM HR.v hlt;obtain⟨va,vl,vc,hvr,z0,z2,z3,z5,c0,c1,c2,c3,c4,c5,c6,c7⟩:=aP hat;have hz8:vl<=8001:=by have h1:=hvr.1;have h2:=HS.vs k x hx;omega
     have HX:=ae hx;have HT:=ae hvr;have HZz0:=ae z0;have HZz2:=ae z2;have HZz3:=ae z3;have HZz5:=ae z5;clear hat hx hvr z0 z2 z3 z5;replace c0:=(aj HBW.out hb0).trans c0;replace c1:=(aj HBW.out hb0).trans c1;replace c2:=(aj HBW.out hb0).trans c2;replace c3:=(aj HBW.out hb0).trans c3;replace c4:=(aj HBW.out hb0).trans c4;replace c5:=(aj HBW.out hb0).trans c5;replace c6:=(aj HBW.out hb0).trans c6;replace c7:=(aj HBW.out hb0).trans c7;have hbr:=Fw hb0 HBW.size;have hkr:=aa BkR.out;have hor:=aa Bo.out;have hz:i3.zero=F_ (Hc #[I ⟨#[]⟩,GZ G6 0,I ⟨#[]⟩,I ⟨#[]⟩,G8 G_,I ⟨#[]⟩,G8 G_,J U 0 0])/\i3.size=8/\i3.bytes=112:=by have:=HI3.2;simp only[GU] at this;exact this
     obtain⟨k0,k1,k2,k3,k4,k5⟩:=cs6 BkR;have hvb:=λg hg=>(HO.lt g hg).2;go_wp2_with fail;clear k0 k1 k2 k3 k4 k5;rename_i K0 hK0;refine Gi.aQ (R:=Rv v.ownBlock 59) (ex:=λ_=>U) (Rv.rel _ _) au rfl rfl au au ?_;refine' Gi.Grow.stepC _ rfl ?_ ?_;rotate_left 1
     ·exact wK
     refine' Gi.Grow.stepC _ rfl ?_ ?_;rotate_left 1
     ·refine Gi.Obl.plain rfl ?_;intro ac wg K lo hi hsz hW hpr hf hap hK;clear hsz hap hpr;have hW:wr.grownBy wg v.ownBlock:=hW;have e50:=hf 50 ah;simp[Gi.ai,Fo] at e50;clear hf;obtain⟨o0,o1,o2,o3,o4,o5⟩:=cs6 ((hW.block b3 hor (λe=>by have:=(HO.lt _ e.symm).1;omega)).trans Bo.out);exact ka
     refine' Gi.Grow.stepC _ rfl ?_ ?_;rotate_left 1
     ·refine Gi.Obl.plain rfl ?_;intro ac wg K lo hi hsz hW hpr hf hap hK;clear hsz hap hpr;have hW:wr.grownBy wg v.ownBlock:=hW;have e1:=hf 1 ah;simp[Gi.ai,Fo] at e1;clear hf;exact ka
     refine' Gi.Grow.stepC _ rfl ?_ ?_;rotate_left 1
     ·refine Gi.Obl.plain rfl ?_;intro ac wg K lo hi hsz hW hpr hf hap hK;clear hsz hap hpr;have hW:wr.grownBy wg v.ownBlock:=hW;have e52:=hf 52 ah;simp[Gi.ai,Fo] at e52;clear hf;obtain⟨k0,k1,k2,k3,k4,k5⟩:=cs6 ((hW.block w.heap.size hkr (λe=>by have:=(HO.lt _ e.symm).1;omega)).trans BkR.out);exact ka
     refine' Gi.Grow.stepC _ rfl ?_ ?_;rotate_left 1
     ·refine Gi.Obl.plain rfl ?_;intro ac wg K lo hi hsz hW hpr hf hap hK;clear hsz hap hpr;have hW:wr.grownBy wg v.ownBlock:=hW;have e6:=hf 6 ah;simp[Gi.ai,Fo] at e6;clear hf;exact ka
     refine' Gi.Grow.stepC _ rfl ?_ ?_;rotate_left 1
     ·refine Gi.Obl.plain rfl ?_;intro ac wg K lo hi hsz hW hpr hf hap hK;clear hsz hap hpr;have hW:wr.grownBy wg v.ownBlock:=hW;have e53:=hf 53 ah;simp[Gi.ai,Fo] at e53;have e54:=hf 54 ah;simp[Gi.ai,Fo] at e54;clear hf;exact ka
     refine' Gi.Grow.stepC _ rfl ?_ ?_;rotate_left 1
     ·refine Gi.Obl.plain rfl ?_;intro ac wg K lo hi hsz hW hpr hf hap hK;clear hsz hap hpr;have hW:wr.grownBy wg v.ownBlock:=hW;have e55:=hf 55 ah;simp[Gi.ai,Fo] at e55;clear hf;have c0g:=(Gf (hW.block b hbr (λe=>by have:=(HO.lt _ e.symm).1;omega))).trans c0;have c1g:=(Gf (hW.block b hbr (λe=>by have:=(HO.lt _ e.symm).1;omega))).trans c1;have c2g:=(Gf (hW.block b hbr (λe=>by have:=(HO.lt _ e.symm).1;omega))).trans c2;have c3g:=(Gf (hW.block b hbr (λe=>by have:=(HO.lt _ e.symm).1;omega))).trans c3;have c4g:=(Gf (hW.block b hbr (λe=>by have:=(HO.lt _ e.symm).1;omega))).trans c4;have c5g:=(Gf (hW.block b hbr (λe=>by have:=(HO.lt _ e.symm).1;omega))).trans c5;have c6g:=(Gf (hW.block b hbr (λe=>by have:=(HO.lt _ e.symm).1;omega))).trans c6;have c7g:=(Gf (hW.block b hbr (λe=>by have:=(HO.lt _ e.symm).1;omega))).trans c7;exact ka
     refine Gi.Grow.step (TvF wr.heap.size x) rfl (TvF.mono hvb) ?_ ?_
     ·refine Gi.Obl.plain rfl ?_;intro ac wg K lo hi hsz hW hpr hf hap hK;clear hsz hap hpr;have hW:wr.grownBy wg v.ownBlock:=hW;have e56:=hf 56 ah;simp[Gi.ai,Fo] at e56;clear hf;have hBg:=HBW.grown hW HBW.size (λg hg=>by have:=(HO.lt g hg).1;omega);go_simp;refine (Ap.DO x.n x.c x.z x.k x.x x.m x.y va vl vc x.zs _ (HT.below hBg) hz8).mono ?_;rintro e w6 ⟨a',l',c',rfl,ho1,ho2,hb6⟩;have hws:=hW.size;exact hK _ _ (Rv.other ah hb6) ⟨a',l',c',rfl,bQ.bI ⟨ho1,ho2⟩ (λk _ s=>FA hws s)⟩
     refine Gi.Grow.step (BsF wr.heap.size x) rfl (BsF.mono hvb) ?_ ?_
     ·refine Gi.Obl.plain rfl ?_;intro ac wg K lo hi hsz hW hpr hf hap hK;clear hsz hap hpr;have hW:wr.grownBy wg v.ownBlock:=hW;have e57:=hf 57 ah;simp[Gi.ai,Fo] at e57;clear hf;obtain⟨a',l',c',e57,ho⟩:=e57;have HO7:=ae ho;clear ho;go_simp;exact hK _ _ (Rv.other ah (aq _ _)) ⟨_,a',l',c',rfl,hW.size,Fs,HO7.below (aq _ _)⟩
     refine Gi.Grow.step (ApF X1.heap.size k ((c.vs.take (k+1)).map vdF) vss) rfl (ApF.mono) ?_ ?_
     ·refine Gi.Obl.plain rfl ?_;intro ac wg K lo hi hsz hW hpr hf hap hK;clear hsz hap;have hW:wr.grownBy wg v.ownBlock:=hW;have e51:=hf 51 ah;simp[Gi.ai,Fo] at e51;have e58:=hf 58 ah;simp[Gi.ai,Fo] at e58;clear hf;have hbW:=hpr rfl;clear hpr;obtain⟨b5,a',l',c',e58,hb5,hg5,ho5⟩:=e58;obtain⟨g,hg⟩:=ho5.fr;have hws:=hW.size;refine wp_append_own wg (.tmp 51) (.tmp 58) 25 rfl X1.heap.size 95 i3 (Hc #[I ⟨#[]⟩,GZ G6 0,I ⟨#[]⟩,I ⟨#[]⟩,G8 G_,I ⟨#[]⟩,G8 G_,J U 0 0]) 8 112 Tryz.underlying25 HI3.1 hz.1 hz.2.1 hz.2.2 rfl ah v k vss.flatten (by simpa[Act.eval] using e51) (cw HO.out hbW) ⟨b5,0,U⟩ 1 1 [I x.n,GZ G6 x.c,I x.z,I x.k,G8 x.x,I x.m,G8 x.y,J a' l' c'] (by simpa[Act.eval] using e58) rfl (yR hg5) (by intro u hu;simp only[List.mem_cons,Gl,or_false] at hu;rcases hu with rfl|rfl|rfl|rfl|rfl|rfl|rfl|rfl <;> rfl) (by unfold maxLen;have:=HS.v;omega) (by have:=HS.v;omega) af ?_;intro v' w' hown hgr _;have hV:=HV.app (r:=vdF x) (vs:=[I x.n,GZ G6 x.c,I x.z,I x.k,G8 x.x,I x.m,G8 x.y,J a' l' c']) (hh:=g) hbW (cw HO.out hbW) ah hgr rfl rfl (AX HZz0.out HZz2.out HZz3.out HZz5.out (hg.aB (S':=λk=>X1.heap.size<=k) (λcu _ q=>rfl) (λ_ s=>by have s1:wr.heap.size<=g:=s;show X1.heap.size<=g;omega))) (λi zs hi hz=>by obtain⟨_,rfl⟩:=sG hi;exact (hg.lt hz).1) (λi i' zs zs' h1 _ h2 _=>(sG h1).1.trans (sG h2).1.symm);have e1:(c.vs.take (k+1)).map vdF=(c.vs.take k).map vdF++[vdF x]:=by rw[FZ,HX.out];simp
      rw[<-e1] at hV;exact hK _ _ (Rv.this hgr) ⟨_,[I x.n,GZ G6 x.c,I x.z,I x.k,G8 x.x,I x.m,G8 x.y,J a' l' c'],by rw[List.flatten_append];simpa using hown,hV⟩
     refine' Gi.Grow.stepC _ rfl ?_ ?_;rotate_left 1
     ·exact wK
     refine Gi.Grow.done ?_;intro q wz lo hi hW hf hap;clear hap;have hW:wr.grownBy wz v.ownBlock:=hW;simp only[FH] at hf;obtain⟨h60,h59,-⟩:=hf;have h60:=h60 bT;obtain⟨H',vs',hs2,hs3⟩:=h59 bT;obtain⟨v',hv'⟩:∃v',q 59=v':=⟨_,rfl⟩;rw[hv'] at hs2;obtain⟨v1',v2',v3',rfl⟩:=aC hs2;have bo5:=(hW.block b3 hor (λe=>by have:=(HO.lt _ e.symm).1;omega)).trans Bo.out;have HS1:=ae (((HK.trans (aL.oe hW (λg e=>Hd (HO.lt g e).1))).set (i:=2) (v:=J v1' v2' v3') (He rfl)));have HS2:=ae (oc (i:=2) (u:=J v1' v2' v3') hs2 bo5 ah);have HS3:=ae (hs3.set (i:=2) (u:=J v1' v2' v3') bo5 ah);have HS4:=ae (az (i:=2) bo5 (J v1' v2' v3'));obtain⟨o0,o1,o2,o3,o4,o5⟩:=cs6 bo5;have fo0:=al bo5 0;have fo2:=al bo5 2;have fo4:=al bo5 4;clear bo5 hs2 hs3 hW c0 c1 c2 c3 c4 c5 c6 c7;intro K hK;rw[if_pos cQ];simp only[Gi.aN,F7,Act.put,FF,FL,FM,h60,hv'];simp only[List.getLast];go_simp;refine hK _ _ ?_;refine hK0 _ _ ?_;clear hK hK0 K K0;go_wp2;exact⟨⟨k+1,_,H',_,by omega,by go_num,HS1,HS2,HS3,HS4⟩,by simp[intOf];omega⟩
    ·have hkl:k=l3:=af
     have h5:=HV.out;rw[FT af] at h5;obtain⟨p3,q3,hv,hR⟩:=h5.own HO.out bD ah (λg hg=>(HO.lt g hg).1);have hl5:(c.vs.map vdF).length=l3:=by simpa using hl3
     rw[hl5] at hv hR;subst hv;have R3:=ae (hR.dv Bo.out ah ah);replace R2:=ae (R2.aB (λk hk s=>HK.block k hk (λq9=>by rcases q9 with q9|q9;exact s.2 q9;omega)) (λ_ _ s=>s));replace R4:=ae (R4.aB (λk hk s=>HK.block k hk (λq9=>by rcases q9 with q9|q9;exact s.2 q9;omega)) (λ_ _ s=>s));replace R1:=ae (R1.aB (λk hk s=>HK.block k hk (λq9=>by rcases q9 with q9|q9;exact s.2 q9;omega)) (λ_ _ s=>s));replace Br:=ae ((HK.block (w.heap.size+1) af (λs=>by rcases s with s|s <;> omega)).trans Br.out);replace Bk:=BkR;replace BoX:=Bo;replace HBX:=HBW;have hb3X2:=aa BoX.out;clear BkR Bo HBW h5 hR HV HO HK hl5 hkl hk hKs hXs;generalize wr=X2 at*;obtain⟨k0,k1,k2,k3,k4,k5⟩:=cs6 Bk;go_wp2;clear k0 k1 k2 k3 k4 k5 hlt;go_loopw [7] (λvi wr=> ∃(k:Nat) (vss:List (List Value)) (H:Nat->Nat->Nat) (v:Value),k<=l5/\vi=GZ G6 k/\Hid (aL (Cps b3 X2) X2 wr)/\Hid (wr.ownsRow X2.heap.size 40 6 v k vss.flatten)/\Hid (aX wr (λk=>X2.heap.size<=k) 6 ((c.ps.take k).map pdF) vss H)/\Hid (wr.heap[b3]?=F_ (G7 #[J p1 l1 q1,J p2 l2 q2,J p3 l3 q3,J p4 l4 q4,v,GZ G6 c.now] 29 (0,0)))) (λvi _=>l5 - (intOf vi).toNat);case atStart=>exact⟨0,[],λ_ _=>0,J U 0 0,by omega,rfl,aL.refl _ _,Gj _ _ _ _,aX.nil _ _ _ _,BoX⟩
     case round=>
      obtain⟨k,vss,H,v,hk,rfl,HK,HO,HV,Bo⟩:=hrel;obtain⟨hXs,HBW,BkR,hKs⟩:=uG;by_cases hlt:k<l5
      ·obtain⟨b,o,x,rfl,hb0,hx,hat⟩:=bN HR.p hlt;obtain⟨va,vl,vc,hvr,z0,z2,z4,c0,c1,c2,c3,c4,c5⟩:=aR hat;have hz8:vl<=8001:=by have h1:=hvr.1;have h2:=HS.ps k x hx;omega
       have HX:=ae hx;have HT:=ae hvr;have HZz0:=ae z0;have HZz2:=ae z2;have HZz4:=ae z4;clear hat hx hvr z0 z2 z4;replace c0:=(aj HBW.out hb0).trans c0;replace c1:=(aj HBW.out hb0).trans c1;replace c2:=(aj HBW.out hb0).trans c2;replace c3:=(aj HBW.out hb0).trans c3;replace c4:=(aj HBW.out hb0).trans c4;replace c5:=(aj HBW.out hb0).trans c5;have hbr:=Fw hb0 HBW.size;have hkr:=aa BkR.out;have hor:=aa Bo.out;have hz:i5.zero=F_ (Hc #[I ⟨#[]⟩,GZ G6 0,I ⟨#[]⟩,J U 0 0,I ⟨#[]⟩,GZ G6 0])/\i5.size=6/\i5.bytes=88:=by have:=HI5.2;simp only[GU] at this;exact this
       obtain⟨k0,k1,k2,k3,k4,k5⟩:=cs6 BkR;go_wp2_with (first|(at_builtin;refine gS rfl _ _ rfl (wr.heap.size+1) rfl (cL _ _ _) va vl vc rfl x.zs (HT.below (HBW.trans ((aM _ _ _).mono HBW.size))) hz8 ?_));intro a' l' c' w2 hT2 hb2;obtain⟨hn2,-,hbx⟩:=rj hb2;obtain⟨g,hg⟩:=hT2.fr;obtain⟨hs2,hsl⟩:=uO;have hb4:Below wr.heap.size wr ((w2.setCell ⟨wr.heap.size,3,U⟩ (J a' l' c')).alloc (G7 (pov x a' l' c') 40)):=(ak (Fq _) hbx).alloc jm _;have HF4:Hid (LFr ((w2.setCell ⟨wr.heap.size,3,U⟩ (J a' l' c')).alloc (G7 (pov x a' l' c') 40)) g (λk=>X2.heap.size<=k) x.zs (J a' l' c')):=hg.aB (λcu _ q=>(Fy _ _ _ (by simp[Gb];exact aa q)).trans (Fl _ _ _ _ (λe=>by subst e;rw[hn2] at q;cases q))) (λ_ s=>by have:=hsl _ s;show X2.heap.size<=g;omega);obtain⟨HG,HB4,HO4⟩:=uM;obtain⟨n0,n1,n2,n3,n4,n5⟩:=cs6 hn2;have fn3:=al hn2 3;have bo2:=(hbx.block _ hor).trans Bo.out;obtain⟨o0,o1,o2,o3,o4,o5⟩:=cs6 bo2;clear hn2 hbx hT2 hg hb2 hsl hb4 bo2 k0 k1 k2 k3 k4 k5 c0 c1 c2 c3 c4 c5;go_wp2_with (first|(at_builtin;refine wpList_append_own _ rfl _ _ 27 rfl X2.heap.size 40 i5 (Hc #[I ⟨#[]⟩,GZ G6 0,I ⟨#[]⟩,J U 0 0,I ⟨#[]⟩,GZ G6 0]) 6 88 Tryz.underlying27 HI5.1 hz.1 hz.2.1 hz.2.2 rfl ah _ _ _ rfl HO4.out ⟨w2.heap.size,0,U⟩ 1 1 [I x.n,GZ G6 x.c,I x.z,J a' l' c',I x.d,GZ G6 x.p] rfl rfl ?c1 ?c2 ?c3 ?c4 ?c5 ?_));case c1=>exact gH _ _ la _ _
       case c2=>intro u hu;simp only[List.mem_cons,Gl,or_false] at hu;rcases hu with rfl|rfl|rfl|rfl|rfl|rfl <;> rfl
       case c3=>unfold maxLen;have:=HS.p;omega
       case c4=>have:=HS.p;omega
       case c5=>simp[Gb];omega
       rintro v' w5 hown5 hgrow -;obtain⟨v1',v2',v3',rfl⟩:=aC hown5;clear n0 n1 n2 n3 fn3 n4 n5 o0 o1 o2 o3 o4 o5;have bo5:=qQ HO.out Bo.out hb3X2 HB4.out hgrow;obtain⟨hs1,hs2',⟨H',hs3⟩,hs4⟩:=sk (f:=4) (r:=pdF x) (vs:=[I x.n,GZ G6 x.c,I x.z,J a' l' c',I x.d,GZ G6 x.p]) (hh:=g) HK.out HO.out HV.out Bo.out hb3X2 HB4.out hown5 hgrow ah ah ah rfl rfl (CM HZz0.out HZz2.out HZz4.out HF4.out) (λi zs hi hz=>HG.out zs (sZ hi).2.symm hz) (λi i' zs zs' h1 _ h2 _=>(sZ h1).1.trans (sZ h2).1.symm);have e1:(c.ps.take (k+1)).map pdF=(c.ps.take k).map pdF++[pdF x]:=by rw[FZ,HX.out];simp
       exact B6
      ·have hkl:k=l5:=af
       have h5:=HV.out;rw[FT af] at h5;obtain⟨p5,q5,hv,hR⟩:=h5.own HO.out bD ah (λg hg=>(HO.lt g hg).1);have hl5:(c.ps.map pdF).length=l5:=by simpa using hl5
       rw[hl5] at hv hR;subst hv;have R5:=ae (hR.dv Bo.out ah ah);replace R2:=ae (R2.aB (λk hk s=>HK.block k hk (λq9=>by rcases q9 with q9|q9;exact s.2 q9;omega)) (λ_ _ s=>s));replace R4:=ae (R4.aB (λk hk s=>HK.block k hk (λq9=>by rcases q9 with q9|q9;exact s.2 q9;omega)) (λ_ _ s=>s));replace R1:=ae (R1.aB (λk hk s=>HK.block k hk (λq9=>by rcases q9 with q9|q9;exact s.2 q9;omega)) (λ_ _ s=>s));replace R3:=ae (R3.aB (λk hk s=>HK.block k hk (λq9=>by rcases q9 with q9|q9;exact s.2 q9;omega)) (λ_ _ s=>s));replace Br:=ae ((HK.block (w.heap.size+1) af (λs=>by rcases s with s|s <;> omega)).trans Br.out);replace Bk:=BkR;replace BoX:=Bo;replace HBX:=HBW;clear BkR Bo HBW h5 hR HV HO HK hl5 hkl hk hKs hXs;generalize wr=X3 at*;obtain⟨k0,k1,k2,k3,k4,k5⟩:=cs6 Bk;obtain⟨o0,o1,o2,o3,o4,o5⟩:=cs6 BoX;obtain⟨r0,r1,r2,r3,r4,r5⟩:=cs6 Br;have hXs:=HBX.size;obtain⟨fr0,fr1,fr2,fr3,fr4,fr5⟩:=ic;go_wp2;refine bodyPost_ret (v:=Hc #[J p1 l1 q1,J p2 l2 q2,J p3 l3 q3,J p4 l4 q4,J p5 l5 q5,GZ G6 c.now]) (by simp[results,Tryz.results29,go_sem, *]) rfl ⟨⟨p1,l1,q1,p2,l2,q2,p3,l3,q3,p4,l4,q4,p5,l5,q5⟩,rfl,⟨?_,?_,?_,?_,?_⟩,sb1 (sb1 (sb1 (sb1 (sb1 (sb1 (HBX.out))))))⟩
       ·exact (R1.aB (S':=λk=>w.heap.size<=k) (λk hk s=>fo (by have s1:X.heap.size<=k:=s.1;omega)) (λk _ s=>by have s1:X.heap.size<=k:=s.1;show w.heap.size<=k;omega))
       ·exact (R2.aB (S':=λk=>w.heap.size<=k) (λk hk s=>fo (by have s1:W.heap.size<=k:=s.1;omega)) (λk _ s=>by have s1:W.heap.size<=k:=s.1;show w.heap.size<=k;omega))
       ·exact (R3.aB (S':=λk=>w.heap.size<=k) (λk hk s=>fo (by have s1:X1.heap.size<=k:=s.1;omega)) (λk _ s=>by have s1:X1.heap.size<=k:=s.1;show w.heap.size<=k;omega))
       ·exact (R4.aB (S':=λk=>w.heap.size<=k) (λk hk s=>fo (by have s1:W.heap.size<=k:=s.1;omega)) (λk _ s=>by have s1:W.heap.size<=k:=s.1;show w.heap.size<=k;omega))
       ·exact (R5.aB (S':=λk=>w.heap.size<=k) (λk hk s=>fo (by have s1:X2.heap.size<=k:=s.1;omega)) (λk _ s=>by have s1:X2.heap.size<=k:=s.1;show w.heap.size<=k;omega))
theorem bA(hl:∀(j:Nat) vs,vss[j]?=F_ vs->vs.length=m) {k:Nat} (hk:k<=vss.length):(vss.take k).flatten.length=k*m:=by
 rw[eD (m:=m) (λj vs h=>?_),FW,Nat.min_eq_left hk];rw[FQ] at h;split at h
 ·exact hl j vs h
 ·cases h
theorem dF(hl:∀(j:Nat) vs,vss[j]?=F_ vs->vs.length=m) {k:Nat} :(vss.drop k).flatten.length=(vss.length - k)*m:=by
 rw[eD (m:=m) (λj vs h=>?_),List.length_drop];rw[F8] at h;exact hl _ vs h
theorem ct {k i:Nat} (h:(vss.take k).flatten[i]?=F_ u):vss.flatten[i]?=F_ u:=by
 have h1:vss.flatten=(vss.take k).flatten++(vss.drop k).flatten:=rI
 rw[h1,FI (Fm.1 h).1];exact h
theorem cN(hl:∀(j:Nat) vs,vss[j]?=F_ vs->vs.length=m) {k i:Nat} {u:Value} (hk:k<=vss.length) (h:(vss.drop k).flatten[i]?=F_ u):vss.flatten[k*m+i]?=F_ u:=by
 have h1:vss.flatten=(vss.take k).flatten++(vss.drop k).flatten:=rI
 rw[h1,List.getElem?_append_right (by rw[bA hl hk];omega),bA hl hk,Nat.add_sub_cancel_left];exact h
theorem aF {P:Value->Prop} (h:∀u∈vss.flatten,P u) (k:Nat):(∀u∈(vss.take k).flatten,P u)/\∀u∈(vss.drop k).flatten,P u:=by
 have h1:vss.flatten=(vss.take k).flatten++(vss.drop k).flatten:=rI
 exact⟨λu hu=>h u (by rw[h1];exact List.mem_append_left _ hu),λu hu=>h u (by rw[h1];exact List.mem_append_right _ hu)⟩
theorem aI(p:Int) (w:World):
  Calls Tryz.prog 25 #[GZ G6 p] w λe w'=>e=Ha (Hc #[J U 0 0,J U 0 0,J U 0 0,J U 0 0,J U 0 0,GZ G6 0,I ⟨#[]⟩,GZ G6 p])/\Below w.heap.size w w':=by
 go_enter Tryz.func25,Tryz.ntmps25;go_wp2;exact bodyPost_ret (v:=Hc #[J U 0 0,J U 0 0,J U 0 0,J U 0 0,J U 0 0,GZ G6 0,I ⟨#[]⟩,GZ G6 p]) (by simp[results,Tryz.results25,go_sem]) rfl ⟨rfl,aq _ _⟩
def UF(w:World) (g:Nat):Prop:=∃cs T,w.heap[g]?=F_ (G7 cs T (0,0))
def LoA(B:Nat) (w:World) (a:Option Addr) (len:Nat):Prop:=len=0\/∃b o,a=F_ ⟨b,o,U⟩/\B<=b/\UF w b
structure Low (B:Nat) (w:World) (d:Ad):Prop where
 n:LoA B w d.a1 d.l1
 k:LoA B w d.a2 d.l2
 v:LoA B w d.a3 d.l3
 x:LoA B w d.a4 d.l4
 p:LoA B w d.a5 d.l5
theorem lo0(B:Nat) (w:World):Low B w ad0:=⟨He rfl,He rfl,He rfl,He rfl,He rfl⟩
theorem aA.lo {a:Option Addr} {len cap:Nat} {rs:List (List Fv)} (h:aA w a len cap m T rs S) {B:Nat} (hS:∀k,S k->B<=k):LoA B w a len:=by
 obtain⟨h1,_,_,h4⟩:=h;rcases h4 with h4|⟨g,cur,H,h5,h6⟩
 ·subst h4;exact He h1.symm
 ·exact Hd ⟨g,0,h5,hS g h6.inS,_,_,h6.blk⟩
def RL(B:Nat) (w:World) (a:Option Addr) (len cap m:Nat) (rs:List (List Fv)):Prop:=a_ w a len cap m rs/\LoA B w a len
theorem aA.rl {a:Option Addr} {len cap:Nat} {rs:List (List Fv)} (h:aA w a len cap m T rs S) (hS:∀k,S k->B<=k):RL B w a len cap m rs:=⟨h.row,h.lo hS⟩
structure gA (B:Nat) (w:World) (d:Ad) (c:Cr):Prop where
 n:RL B w d.a1 d.l1 d.c1 7 c.n
 k:RL B w d.a2 d.l2 d.c2 4 c.k
 v:RL B w d.a3 d.l3 d.c3 8 c.v
 x:RL B w d.a4 d.l4 d.c4 5 c.x
 p:RL B w d.a5 d.l5 d.c5 6 c.p
theorem gA.of {d:Ad} {c:Cr} (h:aE w d c) (l:Low B w d):gA B w d c:=⟨⟨h.n,l.n⟩,⟨h.k,l.k⟩,⟨h.v,l.v⟩,⟨h.x,l.x⟩,⟨h.p,l.p⟩⟩
theorem rl0(B:Nat) (w:World):gA B w ad0 cl0.raw:=gA.of (D_ w (λ_=>True)).row (lo0 B w)
def fS(Is:Co->Prop) (w:World) (e:Ending) (w':World):Prop:=∃g o,e=Ha (Hc #[J g.a1 g.l1 g.c1,J g.a2 g.l2 g.c2,J g.a3 g.l3 g.c3,J g.a4 g.l4 g.c4,J g.a5 g.l5 g.c5,GZ G6 o.c.now,I o.n,GZ G6 o.p])/\Is o/\gA w.heap.size w' g o.c.raw/\Below w.heap.size w w'
def zG(p:Pd) (t m:ByteArray):Prop:=p.d=t/\InL p.zs m
theorem g_(w:World) (t t' ty e e':TypeId) (i:TypeInfo) (ht:Tryz.prog.underlying t=F_ (.slice e)) (ht':Tryz.prog.underlying t'=F_ (.slice e')) (hi:Tryz.prog.info? e=F_ i) (a:Option Addr) (l c:Nat) (b:Value):(Builtin.append_ #[t,t'] ty #[J a l c,b]).run Tryz.prog w=(Builtin.append_ #[t,t] ty #[J a l c,b]).run Tryz.prog w:=by
 simp[Builtin.append_,run_underlying ht,run_underlying ht',sizeOf,typeInfo,hi]
theorem gK {a:Act} (hgd:o.guard=U) (s x:Operand) (t t':TypeId)
  (ho:o.op=.call { callee:=.builtin .append,args:=#[s,x],argTypes:=#[t,t'] })
  (base:Nat) (e e':TypeId) (i:TypeInfo) (z:Value) (size bytes:Nat) (ht:Tryz.prog.underlying t=F_ (.slice e)) (ht':Tryz.prog.underlying t'=F_ (.slice e')) (hi:Tryz.prog.info? e=F_ i) (hz:i.zero=F_ z)
  (hsize:i.size=size) (hby:i.bytes=bytes) (hzs:z.cells.size=size) (hsz:0<size)
  (v:Value) (n:Nat) (xs:List Value) (hs:a.eval s=v) (hown:w.ownsRow base e size v n xs)
  (ad:Addr) (m c:Nat) (news:List Value) (hx:a.eval x=J (F_ ad) m c) (hl:news.length=m*size) (hnews:∀j u,news[j]?=F_ u->w.cell? (ad.add j)=F_ u) (h1:∀u∈news,u.oneCell'=Hb)
  (h63:n+m<=maxLen) (hbytes:(n+m)*bytes<=140737488355328) (hbase:base<=w.heap.size)
  (h:∀v' w',w'.ownsRow base e size v' (n+m) (xs++news)->w.grownBy w' v.ownBlock->wpList Tryz.prog ops Q rest (a.put o.dst v') w'):wpList Tryz.prog ops Q (o ::rest) a w:=by
 refine wpList_plain hgd λK hK=>?_;obtain⟨v',w',hr,h2,h3,h4⟩:=run_append_own (P:=Tryz.prog) w base t o.type e i z size bytes ht hi hz hsize hby hzs hsz v n xs hown ad m c news hl hnews h1 h63 hbytes hbase;obtain⟨va,vl,vc,rfl⟩:∃a l c,v=J a l c:=by
  exact vU
 rw[<-g_ w t t' o.type e e' i ht ht' hi] at hr;exact ym
theorem hE {t ty e:TypeId} {size:Nat} (ht:Tryz.prog.underlying t=F_ (.slice e)) (hi:Tryz.prog.info? e=F_ i) {v:Value} {n:Nat} {xs:List Value} (hown:w.ownsRow base e size v n xs) (ax:Option Addr) (cx:Nat):
  (Builtin.append_ #[t,t] ty #[v,J ax 0 cx]).run Tryz.prog w=.ok v w:=by
 exact B5
theorem aG {a:Act} (hgd:o.guard=U) (s x:Operand) (t:TypeId)
  (ho:o.op=.call { callee:=.builtin .append,args:=#[s,x],argTypes:=#[t,t] })
  (base:Nat) (e:TypeId) (i:TypeInfo) (z:Value) (size bytes:Nat) (ht:Tryz.prog.underlying t=F_ (.slice e)) (hi:Tryz.prog.info? e=F_ i) (hz:i.zero=F_ z)
  (hsize:i.size=size) (hby:i.bytes=bytes) (hzs:z.cells.size=size) (hsz:0<size)
  (v:Value) (n:Nat) (xs:List Value) (hs:a.eval s=v) (hown:w.ownsRow base e size v n xs)
  (ax:Option Addr) (l c:Nat) (news:List Value) (hx:a.eval x=J ax l c) (hl:news.length=l*size) (hnews:∀(j:Nat) u,news[j]?=F_ u->∃ad:Addr,ax=F_ ad/\w.cell? (ad.add j)=F_ u) (h1:∀u∈news,u.oneCell'=Hb)
  (h63:n+l<=maxLen) (hbytes:(n+l)*bytes<=140737488355328) (hbase:base<=w.heap.size)
  (h:∀v' w',w'.ownsRow base e size v' (n+l) (xs++news)->w.grownBy w' v.ownBlock->wpList Tryz.prog ops Q rest (a.put o.dst v') w'):wpList Tryz.prog ops Q (o ::rest) a w:=by
 rcases news with _|⟨u,news⟩
 ·have hl0:l=0:=by
   rcases GJ l with e|e
   ·exact e
   ·have:=Nat.mul_pos e hsz;simp at hl;omega
  subst hl0;refine wpList_plain hgd λK hK=>?_;have hr:=hE (ty:=o.type) ht hi hown ax c;exact yx
 ·obtain⟨ad,rfl,_⟩:=hnews 0 u rfl;exact gK hgd s x t t ho base e e i z size bytes ht ht hi hz hsize hby hzs hsz v n xs hs hown ad l c (u ::news) hx hl (λj y hy=>by
   obtain⟨ad',e,h2⟩:=hnews j y hy
   cases e
   exact h2) h1 h63 hbytes hbase h
theorem oj {x:ByteArray} (h:Fx x.toList t.toList=G_) (hn:¬x=t):Fx t.toList x.toList=Hb:=by
 exact xD
def Put(t:ByteArray) (zs zs':List ByteArray):Prop:=(t∈zs/\zs'=zs)\/∃k,k<=zs.length/\zs'=zs.take k++[t]++zs.drop k/\(∀(j:Nat) y,j<k->zs[j]?=F_ y->Fx y.toList t.toList=Hb)/\∀y,zs[k]?=F_ y->Fx t.toList y.toList=Hb
theorem eU {l:List α} {k:Nat} {u:α} (h:(l.take k)[j]?=F_ u):l[j]?=F_ u:=by
 rw[FQ] at h;split at h
 ·exact h
 ·cases h
structure Nv where
 n:Nd
 a:Option Addr
 l:Nat
 c:Nat
def cb(a b:ByteArray):Int:=Lib.compareBytes a.data.toList b.data.toList
theorem iU {t ty e:TypeId} {size:Nat} (ht:Tryz.prog.underlying t=F_ (.slice e)) (hi:Tryz.prog.info? e=F_ i) {v:Value} {n:Nat} {xs:List Value} (hown:w.ownsRow base e size v n xs) (ax:Option Addr) (cx:Nat):
  (Builtin.append_ #[t,t] ty #[v,J ax 0 cx]).run Tryz.prog w=.ok v w:=by
 exact B5
theorem aw {a:Act} (hgd:o.guard=U) (s x:Operand) (t:TypeId)
  (ho:o.op=.call { callee:=.builtin .append,args:=#[s,x],argTypes:=#[t,t] })
  (base:Nat) (e:TypeId) (i:TypeInfo) (z:Value) (size bytes:Nat) (ht:Tryz.prog.underlying t=F_ (.slice e)) (hi:Tryz.prog.info? e=F_ i) (hz:i.zero=F_ z)
  (hsize:i.size=size) (hby:i.bytes=bytes) (hzs:z.cells.size=size) (hsz:0<size)
  (v:Value) (n:Nat) (xs:List Value) (hs:a.eval s=v) (hown:w.ownsRow base e size v n xs)
  (ax:Option Addr) (l c:Nat) (news:List Value) (hx:a.eval x=J ax l c) (hl:news.length=l*size) (hnews:∀(j:Nat) u,news[j]?=F_ u->∃ad:Addr,ax=F_ ad/\w.cell? (ad.add j)=F_ u) (h1:∀u∈news,u.oneCell'=Hb)
  (h63:n+l<=maxLen) (hbytes:(n+l)*bytes<=140737488355328) (hbase:base<=w.heap.size)
  (h:∀v' w',w'.ownsRow base e size v' (n+l) (xs++news)->w.grownBy w' v.ownBlock->wpList Tryz.prog ops Q rest (a.put o.dst v') w'):wpList Tryz.prog ops Q (o ::rest) a w:=by
 rcases news with _|⟨u,news⟩
 ·have hl0:l=0:=by
   rcases GJ l with e|e
   ·exact e
   ·have:=Nat.mul_pos e hsz;simp at hl;omega
  subst hl0;refine wpList_plain hgd λK hK=>?_;have hr:=iU (ty:=o.type) ht hi hown ax c;exact yx
 ·obtain⟨ad,rfl,_⟩:=hnews 0 u rfl;exact dk hgd s x t t ho base e e i z size bytes ht ht hi hz hsize hby hzs hsz v n xs hs hown ad l c (u ::news) hx hl (λj y hy=>by
   obtain⟨ad',e,h2⟩:=hnews j y hy
   cases e
   exact h2) h1 h63 hbytes hbase h
structure Lq (B:Nat) (w w':World):Prop where
 os:w'.os=w.os
 tape:w'.tape=w.tape
 output:w'.output=w.output
 size:w.heap.size<=w'.heap.size
 block:∀k,k<w.heap.size->(k<B\/∃(cs:Array Value) (T:TypeId),w.heap[k]?=F_ (G7 cs T (0,0))/\cs.size=2)->w'.heap[k]?=w.heap[k]?
end Rc
namespace Gs
section
variable {SR:World->World->Prop} {t4:Tmp} {Ψ:Fact} {P:Program} {ops:Array Oper} {Q:Exit->Act->World->Prop} {W:World} {a0:Act} {back:Option Oper}
structure At (t4:Tmp) (Ψ:Fact) (front:List Oper) (φs:List Fact) (W:World) (a0:Act) (listed:Array Bool) (a:Act) (w:World):Prop where
 old:Go.Proofs.YtiplhgedmjoliaaGreatDoor.At front φs W a0 listed a w
 sto:∀(i:Nat) (o:Oper),front[i]?=F_ o->o.dst=U->listed.getD i G_=Hb->Ψ (a.tmps.getD t4 undef) w/\∀(i':Nat) (p:Oper),front[i']?=F_ p->p.dst=F_ t4->listed.getD i' G_=Hb
theorem DU {i:Nat} (h:listed.getD i G_=Hb):(listed.setIfInBounds j Hb).getD i G_=Hb:=by
 by_cases e:j=i
 ·subst e;simp only[FD,Array.getElem?_setIfInBounds];split
  ·split
   ·rfl
   ·simp[FD] at h;next hx=>
     have:listed[j]?=U:=Array.getElem?_eq_none_iff.2 af;rw[this] at h
     cases h
  ·contradiction
 ·simpa[FD,Array.getElem?_setIfInBounds,e] using h
theorem DN {i:Nat} (e:¬j=i) (h:(listed.setIfInBounds j Hb).getD i G_=Hb):listed.getD i G_=Hb:=by
 simpa[FD,Array.getElem?_setIfInBounds,e] using h
end
structure Form (W w w':World):Prop where
 low:Below W.heap.size w w'
 form:∀(k:Nat) (cs:Array Value) (T:TypeId),w.heap[k]?=F_ (G7 cs T (0,0))->∃cs',cs'.size=cs.size/\w'.heap[k]?=F_ (G7 cs' T (0,0))
end Gs
namespace Gt
def growB(n:Nat) (front:List Oper) (back:Option Oper):Bool:=
 let ops:=(front++back.toList).toArray
 decide ((front.filterMap (·.dst)).Nodup) && front.all (λo=>match o.dst with|F_ t=>decide (t<n)|U=>Hb) &&
 (Gm front.length).all (λj=>match front[j]? with
  | some o=>(o.looksAt ops).all (λt=>(Gm front.length).all λi=>match front[i]? with
    | some p=>p.dst !=F_ t || (decide (i<j) && o.after.any λe=>e.on==i && F9 .any e)
    | none=>Hb)
  | none=>Hb) &&
 (Gm ops.size).all (λj=>match ops[j]? with|F_ o=>o.after.all (λe=>decide (e.on<j))|U=>Hb) &&
 (match back with|F_ o=>(Gm front.length).all (λi=>o.after.any λe=>F9 .any e && (e.on==i || match front[e.on]? with|F_ p=>p.after.any (λe'=>e'.on==i && F9 .any e')|U=>G_))|U=>Hb)
section
variable {P:Program} {ops:Array Oper} {Q:Exit->Act->World->Prop} {W:World} {a0:Act} {back:Option Oper}
theorem dE {n:Nat} (h:growB n front back=Hb):
  (front.filterMap (·.dst)).Nodup/\(∀o∈front,∀t,o.dst=F_ t->t<n)/\
  (∀(j:Nat) (o:Oper),front[j]?=F_ o->∀t∈o.looksAt (front++back.toList).toArray,∀(i:Nat) (p:Oper),front[i]?=F_ p->p.dst=F_ t->i<j/\∃e∈o.after,e.on=i/\F9 .any e=Hb)/\
  (∀(j:Nat) o,(front++back.toList).toArray[j]?=F_ o->∀e∈o.after,e.on<j)/\
  (∀o,back=F_ o->∀i,i<front.length->∃e∈o.after,F9 .any e=Hb/\(e.on=i\/∃p,front[e.on]?=F_ p/\∃e'∈p.after,e'.on=i/\F9 .any e'=Hb)):=by
 unfold growB at h;simp only[FU,decide_eq_true_eq] at h;obtain⟨⟨⟨⟨h1,h2⟩,h3⟩,h4⟩,h5⟩:=h;refine⟨h1,?_,?_,?_,?_⟩
 ·intro o ho t ht;have:=List.all_eq_true.1 h2 o ho;rw[ht] at this;simpa using this
 ·exact Cw
 ·exact yN
 ·intro o ho i hi;subst ho;have:=List.all_eq_true.1 h5 i (List.mem_range.2 hi);obtain⟨k,hk,hx⟩:=Array.any_eq_true.1 this;simp only[FU,Bool.or_eq_true,beq_iff_eq] at hx;refine⟨_,Array.getElem_mem hk,hx.1,hx.2.imp id λh9=>?_⟩;split at h9
  ·next p hp=>
   obtain⟨k',hk',hx'⟩:=Array.any_eq_true.1 h9;simp only[FU,beq_iff_eq] at hx';exact⟨p,hp,_,Array.getElem_mem hk',hx'.1,hx'.2⟩
  ·cases h9
structure Ac (front:List Oper) (φs:List Fact) (W:World) (a0:Act) (listed:Array Bool) (a:Act) (w:World):Prop where
 old:At front φs W a0 listed a w
 cl:∀(j:Nat) (o:Oper),front[j]?=F_ o->listed.getD j G_=Hb->∀e∈o.after,F9 .any e=Hb->listed.getD e.on G_=Hb
theorem de {φs:List Fact} (hops:ops=(front++back.toList).toArray) (hB:growB a0.tmps.size front back=Hb) (hlen:φs.length=front.length)
  (hs:∀(i:Nat) (o:Oper) (φ:Fact),front[i]?=F_ o->φs[i]?=F_ φ->φ.ck/\Obl P ops Q W a0 (knAll [] (front.take i) (φs.take i)) o φ) (hf:Fin P ops Q W a0 back (knAll [] front φs)):
  ∀(fuel:Nat) (listed:Array Bool) (a:Act) (w:World),listed.size=ops.size->listed.toList.count G_<=fuel->(∀o,back=F_ o->listed.getD front.length G_=G_)->Ac front φs W a0 listed a w->wpAny P .any ops Q fuel listed a w:=by
 obtain⟨hn,hin,hdep,hlt,hback⟩:=dE hB;rw[<-hops] at hdep hlt;have hsz:ops.size=front.length+back.toList.length:=by rw[hops];simp
 have hend:∀(listed:Array Bool) (a:Act) (w:World),listed.size=ops.size->(∀i,i<ops.size->listed.getD i G_=Hb)->(∀o,back=F_ o->listed.getD front.length G_=G_)->Ac front φs W a0 listed a w->Q .normal a w:=by
  intro listed a w hz hall hb h;have h1:=Fin.last hf hlen hin h.old (λi hi=>hall i af);exact pY
 intro fuel;induction fuel with
 | zero=>
  intro listed a w hz hc hb h;have hall:∀i,i<ops.size->listed.getD i G_=Hb:=λi hi=>fN af i af;refine⟨?_,hend listed a w hz hall hb h⟩
  cases hr:Ga .any ops listed with
  | nil=>rfl
  | cons j js=>
   have hm:j∈Ga .any ops listed:=by rw[hr];simp
   obtain⟨h1,o,ho,-⟩:=mem_ready.1 hm;have hj:=(FJ.1 ho).1;rw[<-cM af,hall j hj] at h1
   cases h1
 | succ fuel ih=>
  intro listed a w hz hc hb h;refine⟨λhr=>hend listed a w hz (fz hz hlt hr) hb h,λj hj=>?_⟩;obtain⟨hun,o,ho,hall⟩:=mem_ready.1 hj;have hjs:j<ops.size:=(FJ.1 ho).1;have hcs:=count_set (listed:=listed) (i:=j) af hun
  by_cases hjf:j<front.length
  ·have hof:front[j]?=F_ o:=by rw[hops] at ho;simpa[FI hjf] using ho
   have hφ:φs[j]?=F_ (φs[j]'(by omega)):=Fu _;obtain⟨hm,hob⟩:=hs j o _ hof hφ
   have hfacts:∀t∈o.looksAt ops,ai a0 (knAll [] (front.take j) (φs.take j)) a w t:=by
    intro t ht;unfold ai
    cases hk:(knAll [] (front.take j) (φs.take j)).lookup t with
    | some φ=>
     rcases cR _ _ _ hk with ⟨i,p,h1,h2,h3⟩|h1
     ·have hij:i<j:=by have:=(Fm.1 h1).1;simp at this;omega
      rw[FQ,if_pos hij] at h1 h3;obtain⟨-,e,he,hon,hbi⟩:=hdep j o hof t ht i p h1 h2;have hl:=hall e he hbi;rw[hon] at hl;exact h.old.known i p φ h1 h3 t h2 hl
     ·simp at h1
    | none=>
     refine h.old.other t (λi p hp hd=>?_)
     exfalso
     obtain⟨hij,-⟩:=hdep j o hof t ht i p hp hd;have hi:=(Fm.1 hp).1;exact (cS _ _ _ hk).2 i p (φs[i]'(by omega)) rG rK hd
   have h1:=hob a w (wpAny P .any ops Q fuel (listed.setIfInBounds j Hb)) h.old.size h.old.below hfacts (λv w' hbw hv=>by
    refine ih _ _ _ (by simpa using hz) af (λo' ho'=>?_) ⟨h.old.step hn hin (λi o φ h1 h2=>(hs i o φ h1 h2).1) hof hφ af hbw hv,λj' o' ho' hl e he hbe=>(by
     by_cases ej:j=j'
     ·subst ej;obtain rfl:o=o':=Fp (hof.symm.trans ho');exact Gs.DU (hall e he hbe)
     ·exact Gs.DU (h.cl j' o' ho' (Gs.DN ej hl) e he hbe))⟩
    have h2:=hb o' ho'
    have e:¬j=front.length:=af
    simpa[FD,Array.getElem?_setIfInBounds,e] using h2)
   unfold wpOp;rw[ho]
   simp only
   split
   ·rename_i hw;rw[if_pos hw] at h1;exact He h1
   ·rename_i hw;rw[if_neg hw] at h1;exact h1
  ·cases hk:back with
   | none=>rw[hk] at hsz;simp at hsz;omega
   | some b=>
    have hjn:j=front.length:=by rw[hk] at hsz;simp at hsz;omega
    subst hjn
    have hob:o=b:=by
     rw[hops,hk] at ho
     simp at ho
     exact ho.symm
    subst hob
    have hfl:∀i,i<front.length->listed.getD i G_=Hb:=λi hi=>by
     obtain⟨e,he,hbi,hon⟩:=hback o hk i hi;have hl:=hall e he hbi
     rcases hon with hon|⟨p,hp,e',he',hon,hbi'⟩
     ·rwa [hon] at hl
     ·have:=h.cl e.on p hp hl e' he' hbi'
      rwa [hon] at this
    have h1:=Fin.last hf hlen hin h.old hfl;rw[hk] at h1
    have h2:=h1 (wpAny P .any ops Q fuel (listed.setIfInBounds front.length Hb)) (λa' w' hq=>by
     have hr:Ga .any ops (listed.setIfInBounds front.length Hb)=[]:=by
      cases hr:Ga .any ops (listed.setIfInBounds front.length Hb) with
      | nil=>rfl
      | cons i is=>
       have hm:i∈Ga .any ops (listed.setIfInBounds front.length Hb):=by rw[hr];simp
       obtain⟨h3,o',ho',-⟩:=mem_ready.1 hm;have hi:=(FJ.1 ho').1
       exfalso
       by_cases e:front.length=i
       ·subst e
        simp[FD,show front.length<listed.size from by omega] at h3
       ·have h4:=hfl i (by rw[hk] at hsz;simp at hsz;omega);rw[cM af] at h4
        simp[FD,e] at h3 h4
        rw[h3] at h4
        cases h4
     cases fuel with
     | zero=>exact⟨hr,hq⟩
     | succ fuel=>exact⟨λ_=>hq,λi hi=>by rw[hr] at hi;cases hi⟩)
    unfold wpOp;rw[ho]
    simp only
    split
    ·rename_i hw;rw[if_pos hw] at h2;exact He h2
    ·rename_i hw;rw[if_neg hw] at h2;exact h2
end
theorem aQ {id:Nat} {l:List Oper} {last:Oper} (hm:P.follows .mixedOrders=Hb) (hf:l.dropLast=front) (hb:l.getLast?=F_ last) (hB:growB a0.tmps.size front (F_ last)=Hb)
  (h:Grow P l.toArray Q W a0 (F_ last) front []):(Code.region id l.toArray Hb).wp P Q a0 W:=by
 obtain⟨φs,hlen,hs,hfi⟩:=Grow.spec _ _ h;have hl:l=front++(F_ last).toList:=by
  exact pO
 refine wp_region_any hm (de (by rw[hl]) hB hlen hs hfi _ _ _ _ aH ?_ (λo ho=>?_) ⟨⟨rfl,rfl,(Ft _ _).drew,λi o φ h1 h2 t ht hx=>?_,λt _=>rfl⟩,λj o h1 hx=>?_⟩)
 ·exact lW
 ·exact bK _ _
 ·rw[bK] at hx;cases hx
 ·rw[bK] at hx;cases hx
end Gt
attribute [local go_sem] Oper.semAt_some
structure Vx where
 v:Vd
 a:Option Addr
 len:Nat
 cap:Nat
def Ec(J0 J1 J2:Act->World->Prop) (Q:Exit->Act->World->Prop):Exit->Act->World->Prop
 | .goto l,a,w=>(l=0/\J0 a w)\/(l=1/\J1 a w)\/(l=2/\J2 a w)
 | e,a,w=>Q e a w
def never:Act->World->Prop:=λ_ _=>False
def at1(P:Program) (Q:Exit->Act->World->Prop) (r1:Code):Act->World->Prop:=λa w=>r1.wp P (Ec never never never Q) a w
end Go.Proofs.YtiplhgedmjoliaaGreatDoor
