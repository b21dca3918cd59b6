import Derived.Test.YtdoldaceehdifaaGreatDoorT2
import Derived.WalkKit
import Derived.LaidEql
import Derived.Stop.Asserts
import Derived.RowKitTokens
import Derived.Test.YtdoldaceehdifaaGreatDoorRows
import Derived.WalkSpells
import Derived.RegionTactic
import Derived.Laws.AppendOwn
import Derived.Laws.AppendOwnNone
import Derived.Deep.AppendLies
/-
 Whether what is bound is so on both sides, as the specification asks it.
-/
set_option maxRecDepth 100000
set_option maxHeartbeats 12800000
open And renaming intro→qD
open Array renaming getElem?_push_size→qN, getD_eq_getD_getElem?→qX, getElem?_setIfInBounds→rb, getElem?_range→rQ, getElem?_map→rV
open Bool renaming eq_false_or_eq_true→rz
open Go.Calls renaming quiet_of_same→qW
open Go.RowKit.Below renaming heap_setCell→qH, refl→qI, heap_alloc→qY, size→rR
open Go.Value renaming string→qV
open Go.Value.slice renaming injEq→rO
open Go.World renaming setCell→re, cells?_some→rH, cell?→rN
open Int renaming le_trans→qZ, add_assoc→rj
open List renaming getElem?_eq_some_iff→qE, getElem?_eq_getElem→qJ, take_of_length_le→qM, replicate→qQ, lookup→qS, getElem?_map→qT, getElem?_take→rh, eq_nil_of_length_eq_zero→rn, getElem?_eq_none→rp, mem_cons→ry, getElem?_append_left→rD, getElem?_append_right→rK
open Nat renaming le_refl→qF, le_trans→qK, lt_of_lt_of_le→qO, le_succ→qU, zero_add→rA, add_zero→rG
open Option renaming map_eq_some_iff→qL
open Option.some renaming inj→qG, injEq→ri
namespace Go.Proofs.YtdoldaceehdifaaGreatDoor
theorem nP {p:Prop} (h:p:=by have h1:=(qE.1 ht).1;have h2:=HVL.out;omega):p:=h
end Go.Proofs.YtdoldaceehdifaaGreatDoor
namespace Go.Proofs.YtdoldaceehdifaaGreatDoor
theorem qo {p:Prop} (h:p:=by
 rcases hcase with ⟨v,hbd⟩|hbd
 ·obtain⟨j3,hj3⟩:=hbd.at;have hl3':j3<l3:=by have h1:=(qE.1 hj3).1;omega
  obtain⟨b3,o3,v',rfl,hb3,hv',hat⟩:=bf HR.v hl3';rw[hj3] at hv';obtain rfl:=qG hv';obtain⟨xa,xl,xc,hvr,z0,z2,z3,z5,d0,d1,d2,d3,d4,d5,d6,d7⟩:=aA hat;have HJ:=aa hj3;have HD:=aa hbd;have HC2:=aa d2;have HB3:=aa hb3;have hj31:decide ((j3:Int)<0)=false:=a8
  clear hv' hat hvr z0 z2 z3 z5 d0 d1 d2 d3 d4 d5 d6 d7 hj3 hbd hb3;obtain⟨Gk,Gr,HW⟩:=aV;obtain⟨k0,k1,k2,k3,k4,k5⟩:=sl6 Gk;have r3:=fun q:Wd wr=>q.slot (o:=3) Gr.out rfl;obtain⟨tw,hne0⟩:=en;have HC0:=aa (fun q:Wd wr=>cZ ⟨(some ⟨b1,o1,none⟩),l1,y1,a2,l2,y2,(some ⟨b3,o3,none⟩),l3,y3,a4,l4,y4,(some ⟨b,o,none⟩),l5,y5⟩ c t q.w (HR.below (HW.trans (q.b.mono HW.size))) HX.out HV.out HNE.out HJ.out HD.out);go_wp2_with fail;refine ag al al ?_;repeat (go_big_quiet_step (first|(go_at_call 113;exact Calls.wide (HC0.out _))|fail))
  refine wpQuiet_nil ?_;rintro _ ⟨q1,rfl⟩;have HB1:=upB HW q1.b;obtain⟨Ck,Cr⟩:=bH;clear hne0 HW HB HC0 k0 k1 k2 k3 k4 k5 r3 tw Gk Gr Bk Br pr3;have HB:=HB1;clear HB1;have Bk:=Ck;clear Ck;have Br:=Cr;clear Cr;obtain⟨hc1,hb1,HBW1⟩:=ka;clear hc hb HBW;by_cases hg:∃(i:Nat) (x:Xd),c.xs[i]?=some x/\x.n=t;rotate_left
  ·have HG:=aa hg;clear hg;obtain⟨Gk,Gr,HW⟩:=aV;obtain⟨k0,k1,k2,k3,k4,k5⟩:=sl6 Gk;obtain⟨r0,r1,r2,r3,r4,r5⟩:=sl6 Gr;obtain⟨tw,hne0⟩:=eN;have HC0:=aa (fun q:Wd q1.w=>cW ⟨(some ⟨b1,o1,none⟩),l1,y1,a2,l2,y2,(some ⟨b3,o3,none⟩),l3,y3,a4,l4,y4,(some ⟨b,o,none⟩),l5,y5⟩ c.now c.xs t q.w (HR.x.below (HW.trans (q.b.mono HW.size))) (fun i x h1 h2=>HG.out ⟨i,x,h1,h2⟩));exact jd
  obtain⟨i4,x4,g1,g2⟩:=hg;obtain⟨HG1,HG2,hi41⟩:=j9;clear g1 g2;have hbv:=qO HB3.out HB.size;have v2:=(ah HB.out HB3.out).trans HC2.out;have hbn:=qO HBn.out HB.size;have n1:=(ah HB.out HBn.out).trans HCn.out;by_cases hz:v.z=n.z
  ·have hzq:=ba hz;have HZ:=aa hz;clear hz;obtain⟨Gk,Gr,HW⟩:=aV;obtain⟨k0,k1,k2,k3,k4,k5⟩:=sl6 Gk;obtain⟨r0,r1,r2,r3,r4,r5⟩:=sl6 Gr;obtain⟨tw,vw,nw,hne0,HC0⟩:=oj;go_wp2_with fail;refine ag al al ?_;repeat (go_big_quiet_step (first|(go_at_call 110;exact Calls.wide (HC0.out _))|fail))
   refine wpQuiet_nil ?_;rintro _ ⟨q2,rfl⟩;obtain⟨HB2,Ck⟩:=bX;have Cr:=upK Gr q2.b;clear hne0 HW HB HC0 k0 k1 k2 k3 k4 k5 r0 r1 r2 r3 r4 r5 tw vw nw Gk Gr Bk Br hc1 hb1 hbv v2 hbn n1;have HB:=HB2;clear HB2;have Bk:=Ck;clear Ck;have Br:=Cr;clear Cr;clear hzq;go_wp2_with fail;refine⟨⟨kq+1,by omega,by go_num,fun j s hj hs=>?_,HBW1.trans (q2.b.mono HBW1.size)⟩,by simp[intOf];omega⟩;by_cases e:j=kq
   ·subst e;rw[HXt.out] at hs;obtain rfl:=qG hs;exact⟨⟨i4,x4,HG1.out,HG2.out⟩,.inr ⟨v,j1,n,HD.out,HJn.out,HNn.out,HZ.out⟩⟩
   ·exact HQ2.out j s ae hs
  ·have hzq:=bB hz;have HZ:=aa hz;clear hz;obtain⟨Gk,Gr,HW⟩:=aV;obtain⟨k0,k1,k2,k3,k4,k5⟩:=sl6 Gk;obtain⟨r0,r1,r2,r3,r4,r5⟩:=sl6 Gr;obtain⟨tw,vw,nw,hne0,HC0⟩:=oj;go_wp2_with fail;refine ag al al ?_;repeat (go_big_quiet_step (first|(go_at_call 110;exact Calls.wide (HC0.out _))|fail))
   refine wpQuiet_nil ?_;rintro _ ⟨q2,rfl⟩;obtain⟨HB2,Ck⟩:=bX;have Cr:=upK Gr q2.b;clear hne0 HW HB HC0 k0 k1 k2 k3 k4 k5 r0 r1 r2 r3 r4 r5 tw vw nw Gk Gr Bk Br hc1 hb1 hbv v2 hbn n1;have HB:=HB2;clear HB2;have Bk:=Ck;clear Ck;have Br:=Cr;clear Cr;go_wp2;go_ret;refine ak.f (fun h=>?_) HB.out;have h9:=(h.1 k p HXp.out).2.1 kq t HXt.out;rcases h9.2 with h2|⟨v',i,n',h2,h3,h4,h5⟩
   ·exact HEm.out h2
   ·obtain rfl:=bh.inj HX.out HV.out HD.out h2;obtain⟨_,rfl⟩:=HNR.inj h3 HJn.out (h4.trans HNn.symm);exact HZ.out h5
 ·have HD:=aa hbd;clear hbd;obtain⟨Gk,Gr,HW⟩:=aV;obtain⟨k0,k1,k2,k3,k4,k5⟩:=sl6 Gk;have r3:=fun q:Wd wr=>q.slot (o:=3) Gr.out rfl;obtain⟨tw,hne0⟩:=en;have HC0:=aa (fun q:Wd wr=>dq ⟨(some ⟨b1,o1,none⟩),l1,y1,a2,l2,y2,a3,l3,y3,a4,l4,y4,(some ⟨b,o,none⟩),l5,y5⟩ c t q.w (HR.below (HW.trans (q.b.mono HW.size))) HX.out HV.out HNE.out HD.out);go_wp2_with fail;refine ag al al ?_;repeat (go_big_quiet_step (first|(go_at_call 113;exact Calls.wide (HC0.out _))|fail))
  refine wpQuiet_nil ?_;rintro _ ⟨q1,rfl⟩;have HB1:=upB HW q1.b;obtain⟨Ck,Cr⟩:=bH;clear hne0 HW HB HC0 k0 k1 k2 k3 k4 k5 r3 tw Gk Gr Bk Br pr3;have HB:=HB1;clear HB1;have Bk:=Ck;clear Ck;have Br:=Cr;clear Cr;obtain⟨hc1,hb1,HBW1⟩:=ka;clear hc hb HBW;by_cases hg:∃(i:Nat) (x:Xd),c.xs[i]?=some x/\x.n=t;rotate_left
  ·have HG:=aa hg;clear hg;obtain⟨Gk,Gr,HW⟩:=aV;obtain⟨k0,k1,k2,k3,k4,k5⟩:=sl6 Gk;obtain⟨r0,r1,r2,r3,r4,r5⟩:=sl6 Gr;obtain⟨tw,hne0⟩:=eN;have HC0:=aa (fun q:Wd q1.w=>cW ⟨(some ⟨b1,o1,none⟩),l1,y1,a2,l2,y2,a3,l3,y3,a4,l4,y4,(some ⟨b,o,none⟩),l5,y5⟩ c.now c.xs t q.w (HR.x.below (HW.trans (q.b.mono HW.size))) (fun i x h1 h2=>HG.out ⟨i,x,h1,h2⟩));exact jd
  obtain⟨i4,x4,g1,g2⟩:=hg;obtain⟨HG1,HG2,hi41⟩:=j9;clear g1 g2;obtain⟨Gk,Gr,HW⟩:=aV;obtain⟨k0,k1,k2,k3,k4,k5⟩:=sl6 Gk;obtain⟨r0,r1,r2,r3,r4,r5⟩:=sl6 Gr;obtain⟨tw,hne0⟩:=eN;have HC0:=aa (fun q:Wd q1.w=>dx ⟨(some ⟨b1,o1,none⟩),l1,y1,a2,l2,y2,a3,l3,y3,a4,l4,y4,(some ⟨b,o,none⟩),l5,y5⟩ c.now c.xs t q.w (HR.x.below (HW.trans (q.b.mono HW.size))) HX.out HG1.out HG2.out);go_wp2_with fail;refine ag al al ?_;repeat (go_big_quiet_step (first|(go_at_call 110;exact Calls.wide (HC0.out _))|fail))
  refine wpQuiet_nil ?_;rintro _ ⟨q2,rfl⟩;obtain⟨HB2,Ck⟩:=bX;have Cr:=upK Gr q2.b;clear hne0 HW HB HC0 k0 k1 k2 k3 k4 k5 r0 r1 r2 r3 r4 r5 tw Gk Gr Bk Br hc1 hb1;have HB:=HB2;clear HB2;have Bk:=Ck;clear Ck;have Br:=Cr;clear Cr;go_wp2;go_ret;refine ak.f (fun h=>?_) HB.out;have h9:=(h.1 k p HXp.out).2.1 kq t HXt.out;rcases h9.2 with h2|⟨v',i,n',h2,_⟩
  ·exact HEm.out h2
  ·exact HD.out v' h2):p:=h
theorem qn {p:Prop} (h:p:=by
 obtain rfl:vl=kq:=ae
 have HQb:Hid (PSb c p):=fun j t ht=>HQ2.out j t nP ht;clear HQ2;have TV2:=aa (TV.below HBW.out);have KV2:=Bk;have GV2:=Br;have BV2:=HB;clear KV GV BV TV Bk Br HB HBW;obtain⟨W2,hW⟩:∃W2,W2=wr:=⟨_,rfl⟩;rw[<-hW] at KV2 GV2 BV2 TV2;go_wp2;clear pr3;rw[<-hW];clear hW;go_loopw [8] (fun i wr=> ∃kz:Nat,kz<=k/\i=.int .i64 kz/\Hid (∀(j:Nat) q,j<kz->c.ps[j]?=some q->fG c q p)/\Hid (Below W2.heap.size W2 wr)) (fun i _=>k - (intOf i).toNat);case atStart=>exact⟨0,by omega,rfl,fun _ _ h=>absurd h ae,qI _ _⟩
 case round=>
  obtain⟨kz,hkz,rfl,HQ3,HBW⟩:=hrel;have HB:=aa (BV2.trans (HBW.mono BV2.size));have Bk:=upK KV2 HBW.out;have Br:=upK GV2 HBW.out;have HTp:=aa (TV2.below HBW.out);by_cases hlt3:kz<k
  ·obtain⟨b',o',pq,e',hb',hqq,hatq⟩:=bI (HR.p.below HB.out) (show kz<l5 by omega);cases e';obtain⟨qa,ql,qc,hqr,z0,z2,z4,d0,d1,d2,d3,d4,d5⟩:=aM hatq;have HXq:=aa hqq;have HTq:=aa hqr;clear hatq hqq hqr z0 z2 z4;by_cases hpr:fG c pq p
   ·have HPr:=aa hpr;clear hpr;obtain⟨Gk,Gr,HW⟩:=aV;obtain⟨k0,k1,k2,k3,k4,k5⟩:=sl6 Gk;obtain⟨r0,r1,r2,r3,r4,r5⟩:=sl6 Gr;obtain⟨q0,q1,q2,q3,q4,q5,hne0⟩:=nH;have HC0:=aa (fun qw:Wd wr=>(cX ⟨(some ⟨b1,o1,none⟩),l1,y1,a2,l2,y2,a3,l3,y3,a4,l4,y4,(some ⟨b,o,none⟩),l5,y5⟩ c pq p qa ql qc va vl vc qw.w (HR.below (HW.trans (qw.b.mono HW.size))) HX.out HV.out HNE.out (HTq.below qw.b) (HTp.below qw.b)).mono (fun _ _ h=>ak.yes h HPr.out));exact mz
   ·have HPr:=aa hpr;clear hpr;obtain⟨Gk,Gr,HW⟩:=aV;obtain⟨k0,k1,k2,k3,k4,k5⟩:=sl6 Gk;obtain⟨r0,r1,r2,r3,r4,r5⟩:=sl6 Gr;obtain⟨q0,q1,q2,q3,q4,q5,hne0⟩:=nH;have HC0:=aa (fun qw:Wd wr=>(cX ⟨(some ⟨b1,o1,none⟩),l1,y1,a2,l2,y2,a3,l3,y3,a4,l4,y4,(some ⟨b,o,none⟩),l5,y5⟩ c pq p qa ql qc va vl vc qw.w (HR.below (HW.trans (qw.b.mono HW.size))) HX.out HV.out HNE.out (HTq.below qw.b) (HTp.below qw.b)).mono (fun _ _ h=>ak.no h HPr.out));exact mx
  ·exact mw):p:=h
theorem pO {p:Prop} (h:p:=by
 exact jd):p:=h
theorem cM {p:Prop} (h:p:=by
 go_simp;refine hK _ _ (qI _ _) ?_;with_reducible rfl):p:=h
theorem iv {p:Prop} (h:p:=by
 obtain rfl:len=k:=ae
 go_wp2;go_ret;refine⟨rfl,?_,HB.out⟩;have h5:=HP.out;rw[qM ae,List.drop_of_length_le a8,List.append_nil] at h5;exact h5):p:=h
theorem dh {p:Prop} (h:p:=by
 obtain⟨h1,h2⟩:=qE.1 hx;simpa using h2.symm):p:=h
theorem ik {p:Prop} (h:p:=by
 rw[h3] at h4;exact⟨by rw[List.length_map,dd hZl ae];simp,qF _,by omega,.inr ⟨_,cur,H,rfl,h4⟩⟩):p:=h
theorem kj {p:Prop} (h:p:=by
 refine Obl.plain rfl ?_;intro ac wg K hsz hW hf hK;clear hsz;clear hf;go_simp;exact hK _ _ (ai _ _) ⟨_,rfl,hW.size,qN⟩):p:=h
theorem dF {p:Prop} (h:p:=by
 rintro e w' ⟨rfl,rfl⟩;go_wp2;go_ret;exact⟨rfl,rfl⟩):p:=h
theorem ij {p:Prop} (h:p:=by
 intro j r hr;rw[qT] at hr;obtain⟨x,hx,rfl⟩:=qL.1 hr;rfl):p:=h
theorem ic {p:Prop} (h:p:=by
 obtain⟨k0,k1,k2,k3,k4,k5⟩:=cs6 Bk;go_wp2;go_ret;exact⟨-1,rfl,.inl rfl,HB.out⟩):p:=h
theorem l8 {p:Prop} (h:p:=by
 rw[rp cC] at hj;cases hj):p:=h
theorem oP {p:Prop} (h:p:=by
 have HCq:=aa hq;go_wp2_with fail;refine⟨⟨k+1,by omega,by go_num,fun j z hj hz=>?_,HB.out,Bk.out⟩,by simp[intOf];omega⟩;by_cases e:j=k
 ·subst e;rw[HXn.out] at hz;obtain rfl:=qG hz;exact HCq.out
 ·exact HQ.out j z ae hz):p:=h
theorem oO {p:Prop} (h:p:=by
 rw[rA,aE hg];have hj:j<n:=by have:=(qE.1 hx).1;omega
 have e1:(cur.toList.take (n*1))[j]?=some (.string x):=by rw[htk];simp[hx]
 rw[rh,if_pos ae] at e1;simpa using e1):p:=h
theorem oC {p:Prop} (h:p:=by
 obtain rfl:l1=k:=ae
 go_wp2;go_ret;exact ak.t ⟨HQ1.out,fun j n hz=>HQ.out j n bC hz⟩ HB.out):p:=h
theorem mH {p:Prop} (h:p:=by
 go_enter Tryz.func75,Tryz.ntmps75;go_wp2;refine wp_loop_rounds 1 ?_;rw[rounds_succ];go_wp2;go_ret;exact⟨rfl,rfl⟩):p:=h
theorem pz {p:Prop} (h:p:=by
 subst e;rw[HXt.out] at hs;obtain rfl:=qG hs;exact⟨⟨i4,x4,HG1.out,HG2.out⟩,.inl HEm.out⟩):p:=h
theorem mA {p:Prop} (h:p:=by
 obtain⟨gb,hgb⟩:∃gb,gb=wr.heap.size:=⟨_,rfl⟩;rw[<-hgb] at Br;have pr3:=ck3 Br;rw[hgb] at pr3;go_wp2;rw[<-hgb];clear pr3 hgb;have KV:=Bk;have GV:=Br;have BV:=HB;have TV:=HTp;clear Bk Br HB HTp;obtain⟨W,hW⟩:∃W,W=q0.w:=⟨_,rfl⟩;rw[<-hW] at KV GV BV TV ⊢;clear hW;go_loopw [6] (fun i wr=> ∃kq:Nat,kq<=vl/\i=.int .i64 kq/\Hid (∀(j:Nat) t,j<kq->p.zs[j]?=some t->pK c p t)/\Hid (Below W.heap.size W wr)) (fun i _=>vl - (intOf i).toNat);case atStart=>exact⟨0,by omega,rfl,fun _ _ h=>absurd h ae,qI _ _⟩
 case round=>
  obtain⟨kq,hkq,rfl,HQ2,HBW⟩:=hrel;obtain⟨HB,Bk⟩:=gW;have Br:=upK GV HBW.out;have pr3:=ck3 Br;by_cases hlt2:kq<vl
  ·obtain⟨b2,o2,t,rfl,hb,hxt,hc,hsz⟩:=(TV.below HBW.out).at hlt2;have HXt:=aa hxt;clear hxt hsz;have hcase:(∃v,bh c t v)\/(∀v,¬bh c t v):=by
    by_cases h:∃v,bh c t v
    ·exact .inl h
    ·exact .inr (fun v hv=>h ⟨v,hv⟩)
   exact qo
  ·exact qn):p:=h
theorem jd {p:Prop} (h:p:=by
 go_wp2_with fail;refine ag al al ?_;repeat (go_big_quiet_step (first|(go_at_call 110;exact Calls.wide (HC0.out _))|fail))
 refine wpQuiet_nil ?_;rintro _ ⟨q2,rfl⟩;obtain⟨HB2,Ck⟩:=bX;have Cr:=upK Gr q2.b;clear hne0 HW HB HC0 k0 k1 k2 k3 k4 k5 r0 r1 r2 r3 r4 r5 tw Gk Gr Bk Br hc1 hb1;have HB:=HB2;clear HB2;have Bk:=Ck;clear Ck;have Br:=Cr;clear Cr;go_wp2;go_ret;refine ak.f (fun h=>?_) HB.out;have h9:=(h.1 k p HXp.out).2.1 kq t HXt.out;exact HG.out h9.1):p:=h
theorem mz {p:Prop} (h:p:=by
 go_wp2_with fail;refine ag al al ?_;repeat (go_big_quiet_step (first|(go_at_call 114;exact Calls.wide (HC0.out _))|fail))
 refine wpQuiet_nil ?_;rintro _ ⟨q9,rfl⟩;have HB1:=upB HW q9.b;have Ck:=upK Gk q9.b;have Cr:=upK Gr q9.b;clear hne0 HW HB HC0 k0 k1 k2 k3 k4 k5 r0 r1 r2 r3 r4 r5 q0 q1 q2 q3 q4 q5 Gk Gr Bk Br d0 d1 d2 d3 d4 d5;have HB:=HB1;clear HB1;have Bk:=Ck;clear Ck;have Br:=Cr;clear Cr;go_wp2_with fail;refine⟨⟨kz+1,by omega,by go_num,fun j s hj hs=>?_,HBW.trans (q9.b.mono HBW.size)⟩,by simp[intOf];omega⟩;by_cases e:j=kz
 ·subst e;rw[HXq.out] at hs;obtain rfl:=qG hs;exact HPr.out
 ·exact HQ3.out j s ae hs):p:=h
theorem my {p:Prop} (h:p:=by
 go_wp2_with fail;refine ag al al ?_;repeat (go_big_quiet_step (first|(go_at_call 110;exact Calls.wide (HC0.out _))|fail))
 refine wpQuiet_nil ?_;rintro _ ⟨q2,rfl⟩;obtain⟨HB2,Ck⟩:=bX;have Cr:=upK Gr q2.b;clear hne0 HW HB HC0 k0 k1 k2 k3 k4 k5 r0 r1 r2 r3 r4 r5 tw Gk Gr Bk Br hc1 hb1;have HB:=HB2;clear HB2;have Bk:=Ck;clear Ck;have Br:=Cr;clear Cr;go_wp2_with fail;refine⟨⟨kq+1,by omega,by go_num,fun j s hj hs=>?_,HBW1.trans (q2.b.mono HBW1.size)⟩,by simp[intOf];omega⟩;by_cases e:j=kq
 ·exact pz
 ·exact HQ2.out j s ae hs):p:=h
theorem mx {p:Prop} (h:p:=by
 go_wp2_with fail;refine ag al al ?_;repeat (go_big_quiet_step (first|(go_at_call 114;exact Calls.wide (HC0.out _))|fail))
 refine wpQuiet_nil ?_;rintro _ ⟨q9,rfl⟩;have HB1:=upB HW q9.b;have Ck:=upK Gk q9.b;have Cr:=upK Gr q9.b;clear hne0 HW HB HC0 k0 k1 k2 k3 k4 k5 r0 r1 r2 r3 r4 r5 q0 q1 q2 q3 q4 q5 Gk Gr Bk Br d0 d1 d2 d3 d4 d5;have HB:=HB1;clear HB1;have Bk:=Ck;clear Ck;have Br:=Cr;clear Cr;go_wp2;go_ret;exact ak.f (fun h=>HPr.out ((h.1 k p HXp.out).2.2 kz pq hlt3 HXq.out)) HB.out):p:=h
theorem jc {p:Prop} (h:p:=by
 have hgl:=ab (HS.own.choose_spec.choose_spec.1.blk);refine⟨_,_,_,rfl,HVZ.out,qF _,by omega,HT.2.2.2.1,.inr ⟨rfl,by show w.heap.size<=_;omega,by omega,_,hG,fun j x hx=>?_⟩⟩;simp[hx]):p:=h
theorem mw {p:Prop} (h:p:=by
 obtain rfl:k=kz:=ae
 go_wp2_with fail;refine⟨⟨k+1,by omega,by go_num,fun j z hj hz=>?_,HB.out,Bk.out⟩,by simp[intOf];omega⟩;by_cases e:j=k
 ·subst e;rw[HXp.out] at hz;obtain rfl:=qG hz;exact⟨HPa.out,HQb.out,fun j2 q2 hj2 hq2=>HQ3.out j2 q2 hj2 hq2⟩
 ·exact HQ.out j z ae hz):p:=h
theorem eU {p:Prop} (h:p:=by
 rw[qT,bm hZl ae,List.getElem?_replicate,if_pos hlt];rfl):p:=h
theorem mg {p:Prop} (h:p:=by
 clear hf;obtain⟨k0,k1,k2,k3,k4,k5⟩:=cs6 ((hW.block _ (ab GK.out)).trans GK.out);exact cM):p:=h
theorem nH {p:Prop} (h:p:=by
 have q0:∀q:Wd wr,q.w.cell? ⟨b,o+kz*6,none⟩=some (.string pq.n):=fun q=>(q.cell (hb')).trans (d0);have q1:∀q:Wd wr,q.w.cell? ⟨b,o+kz*6+1,none⟩=some (.int .i64 pq.c):=fun q=>(q.cell (hb')).trans (d1);have q2:∀q:Wd wr,q.w.cell? ⟨b,o+kz*6+2,none⟩=some (.string pq.z):=fun q=>(q.cell (hb')).trans (d2);have q3:∀q:Wd wr,q.w.cell? ⟨b,o+kz*6+3,none⟩=some (.slice qa ql qc):=fun q=>(q.cell (hb')).trans (d3);have q4:∀q:Wd wr,q.w.cell? ⟨b,o+kz*6+4,none⟩=some (.string pq.d):=fun q=>(q.cell (hb')).trans (d4);have q5:∀q:Wd wr,q.w.cell? ⟨b,o+kz*6+5,none⟩=some (.int .i64 pq.p):=fun q=>(q.cell (hb')).trans (d5);have hne0:=Wd.ne wr;exact qD q0 (qD q1 (qD q2 (qD q3 (qD q4 (qD q5 hne0)))))):p:=h
theorem py {p:Prop} (h:p:=by
 have Gk:Hid ((wr.alloc (.cells #[.string p.n,.int .i64 p.c,.string p.z,.slice va vl vc,.string p.d,.int .i64 2] 65)).heap[w.heap.size]?=some (.cells (clo6 (some ⟨b1,o1,none⟩) l1 y1 a2 l2 y2 a3 l3 y3 a4 l4 y4 (some ⟨b,o,none⟩) l5 y5 c.now) 37 (0,0))):=(qY _ _ _ (ab Bk.out)).trans (Bk.out);have Gr:Hid ((wr.alloc (.cells #[.string p.n,.int .i64 p.c,.string p.z,.slice va vl vc,.string p.d,.int .i64 2] 65)).heap[wr.heap.size]?=some (.cells #[.string p.n,.int .i64 p.c,.string p.z,.slice va vl vc,.string p.d,.int .i64 2] 65 (0,0))):=qN;have HW:Hid (Below w.heap.size w (wr.alloc (.cells #[.string p.n,.int .i64 p.c,.string p.z,.slice va vl vc,.string p.d,.int .i64 2] 65))):=(HB.trans ((ai _ _).mono HB.size));exact qD Gk (qD Gr HW)):p:=h
theorem pt {p:Prop} (h:p:=by
 have nw:=fun q:Wd (wr.alloc (.cells #[.string p.n,.int .i64 p.c,.string p.z,.slice va vl vc,.string p.d,.int .i64 2] 65))=>(q.cell hbnv).trans e5v;have hne0:=Wd.ne (wr.alloc (.cells #[.string p.n,.int .i64 p.c,.string p.z,.slice va vl vc,.string p.d,.int .i64 2] 65));have HC0:=aa (fun q:Wd (wr.alloc (.cells #[.string p.n,.int .i64 p.c,.string p.z,.slice va vl vc,.string p.d,.int .i64 2] 65))=>eJ ⟨(some ⟨b1,o1,none⟩),l1,y1,a2,l2,y2,a3,l3,y3,a4,l4,y4,(some ⟨b,o,none⟩),l5,y5⟩ c.now c.ns p.d q.w (HR.n.below (HW.trans (q.b.mono HW.size))) HNR.out HJn.out HNn.out);exact qD nw (qD hne0 HC0)):p:=h
theorem fO {p:Prop} (h:p:=by
 have HE:=aa h;have v0:=h.v0;have v1:=h.v1;have v2:=h.v2;have v3:=h.v3;have v4:=h.v4;have v5:=h.v5;have v6:=h.v6;have v7:=h.v7;have v8:=h.v8;have v9:=h.v9;exact qD HE (qD v0 (qD v1 (qD v2 (qD v3 (qD v4 (qD v5 (qD v6 (qD v7 (qD v8 v9)))))))))):p:=h
theorem nF {p:Prop} (h:p:=by
 have Gk:=Bk;have Gv:=Bv;have HW:=HB;have k2:=fun q:Wd q1.w=>q.slot (o:=2) Gk.out rfl;have v0:=fun q:Wd q1.w=>q.slot (o:=0) Gv.out rfl;have v2:=fun q:Wd q1.w=>q.slot (o:=2) Gv.out rfl;have v5:=fun q:Wd q1.w=>q.slot (o:=5) Gv.out rfl;have v6:=fun q:Wd q1.w=>q.slot (o:=6) Gv.out rfl;exact qD Gk (qD Gv (qD HW (qD k2 (qD v0 (qD v2 (qD v5 v6))))))):p:=h
theorem hJ {p:Prop} (h:p:=by
 have v1w:=fun q:Wd w2=>(q.cell hbv).trans v1;have v3w:=fun q:Wd w2=>(q.cell hbv).trans v3;have v4w:=fun q:Wd w2=>(q.cell hbv).trans v4;have v5w:=fun q:Wd w2=>(q.cell hbv).trans v5;have hne0:=Wd.ne w2;exact qD v1w (qD v3w (qD v4w (qD v5w hne0)))):p:=h
theorem lM {p:Prop} (h:p:=by
 have hbnv:b1<(wr.alloc (.cells #[.string p.n,.int .i64 p.c,.string p.z,.slice va vl vc,.string p.d,.int .i64 2] 65)).heap.size:=by simp;omega
 have e5v:=(ah (ai wr (.cells #[.string p.n,.int .i64 p.c,.string p.z,.slice va vl vc,.string p.d,.int .i64 2] 65)) hbn).trans e5;exact qD hbnv e5v):p:=h
theorem g_ {p:Prop} (h:p:=by
 have hnx1:=(qI _ _).grown hgrow (qF _) (fun k hk=>by cases hk);have HB:Hid (Below w.heap.size w w1):=hnx1;exact qD hnx1 HB):p:=h
theorem om {p:Prop} (h:p:=by
 have p3:=fun q:Wd wr=>q.slot (o:=3) Gp.out rfl;have n6:=fun q:Wd wr=>q.slot (o:=6) Gn.out rfl;have tw:=fun q:Wd wr=>(q.cell hb).trans hc;have vw:=fun q:Wd wr=>(q.cell hbv).trans v0;have hne0:=Wd.ne wr;have HC0:=aa (fun q:Wd wr=>cZ ⟨(some ⟨b1,o1,none⟩),l1,y1,a2,l2,y2,(some ⟨b3,o3,none⟩),l3,y3,a4,l4,y4,a5,l5,y5⟩ c t q.w (HR.below (HW.trans (q.b.mono HW.size))) HX.out HV.out HNE.out HJ.out HDb.out);exact qD p3 (qD n6 (qD tw (qD vw (qD hne0 HC0))))):p:=h
theorem oj {p:Prop} (h:p:=by
 have tw:=fun q:Wd q1.w=>(q.cell hb1).trans hc1;have vw:=fun q:Wd q1.w=>(q.cell hbv).trans v2;have nw:=fun q:Wd q1.w=>(q.cell hbn).trans n1;have hne0:=Wd.ne q1.w;have HC0:=aa (fun q:Wd q1.w=>dx ⟨(some ⟨b1,o1,none⟩),l1,y1,a2,l2,y2,(some ⟨b3,o3,none⟩),l3,y3,a4,l4,y4,(some ⟨b,o,none⟩),l5,y5⟩ c.now c.xs t q.w (HR.x.below (HW.trans (q.b.mono HW.size))) HX.out HG1.out HG2.out);exact qD tw (qD vw (qD nw (qD hne0 HC0)))):p:=h
theorem aV {p:Prop} (h:p:=by
 have Gk:=Bk;have Gr:=Br;have HW:=HB;exact qD Gk (qD Gr HW)):p:=h
theorem bH {p:Prop} (h:p:=by
 have Ck:=upK Gk q1.b;have Cr:=upK Gr q1.b;exact qD Ck Cr):p:=h
theorem lK {p:Prop} (h:p:=by
 have Gk:=Bk;have Gv:=Bv;have HW:=HB;have k0:=fun q:Wd q1.w=>q.slot (o:=0) Gk.out rfl;have v2:=fun q:Wd q1.w=>q.slot (o:=2) Gv.out rfl;have v7:=fun q:Wd q1.w=>q.slot (o:=7) Gv.out rfl;exact qD Gk (qD Gv (qD HW (qD k0 (qD v2 v7))))):p:=h
theorem oh {p:Prop} (h:p:=by
 have h8:=@run_callFunc_extern Tryz.prog 123 _ Extern.ReflectliteType.typeOf Tryz.func123 al al al al;have h32:=@run_callFunc_extern Tryz.prog 274 _ pU Tryz.func274 al al al al;have tT:=mW;have cT:=fY;have mR:=dt;exact qD h8 (qD h32 (qD tT (qD cT mR)))):p:=h
theorem en {p:Prop} (h:p:=by
 have tw:=fun q:Wd wr=>(q.cell hb).trans hc;have hne0:=Wd.ne wr;exact qD tw hne0):p:=h
theorem eN {p:Prop} (h:p:=by
 have tw:=fun q:Wd q1.w=>(q.cell hb1).trans hc1;have hne0:=Wd.ne q1.w;exact qD tw hne0):p:=h
theorem gX {p:Prop} (h:p:=by
 have HB2:=upB HW q0.b;have Ck:=upK Gk q0.b;have Cr:=upK Gr q0.b;have CHTp:=aa ((HTp.out).below q0.b);exact qD HB2 (qD Ck (qD Cr CHTp))):p:=h
theorem oe {p:Prop} (h:p:=by
 have yw:=fun q:Wd w1=>(q.cell hbv).trans hcv;have hne0:=Wd.ne w1;have HC0:=aa (fun q:Wd w1=>cO ⟨a1,l1,y1,a2,l2,y2,(some ⟨b,o,none⟩),l3,y3,(some ⟨b4,o4,none⟩),l4,y4,a5,l5,y5⟩ c.now c.ks v.k q.w (HR.k.below (HW.trans (q.b.mono HW.size))) HKS.out HG1.out HG2.out);exact qD yw (qD hne0 HC0)):p:=h
theorem od {p:Prop} (h:p:=by
 have Gk:=Bk;have Gv:=Bv;have HW:=HB;have k0:=fun q:Wd wr=>q.slot (o:=0) Gk.out rfl;have k1:=fun q:Wd wr=>q.slot (o:=1) Gk.out rfl;have k2:=fun q:Wd wr=>q.slot (o:=2) Gk.out rfl;have k3:=fun q:Wd wr=>q.slot (o:=3) Gk.out rfl;have k4:=fun q:Wd wr=>q.slot (o:=4) Gk.out rfl;have k5:=fun q:Wd wr=>q.slot (o:=5) Gk.out rfl;exact qD Gk (qD Gv (qD HW (qD k0 (qD k1 (qD k2 (qD k3 (qD k4 k5)))))))):p:=h
theorem n8 {p:Prop} (h:p:=by
 have hne0:=Wd.ne w1;have HC0:=aa (fun q:Wd w1=>cO ⟨a1,l1,y1,a2,l2,y2,(some ⟨b,o,none⟩),l3,y3,a4,l4,y4,a5,l5,y5⟩ c.now c.ks v.k q.w (HR.k.below (HW.trans (q.b.mono HW.size))) HKS.out HG1.out HG2.out);exact qD hne0 HC0):p:=h
theorem ka {p:Prop} (h:p:=by
 have hc1:=(q1.cell hb).trans hc;have hb1:=qO hb q1.b.size;have HBW1:=upB HBW q1.b;exact qD hc1 (qD hb1 HBW1)):p:=h
theorem lG {p:Prop} (h:p:=by
 have HT:=aa hvr;have hvl2:vl<=1048576:=by have:=HF.out k v hv;rw[hvr.1] at this;exact this
 have hvz:=hvr.1;have HVZ:=aa hvz;exact qD HT (qD hvl2 (qD hvz HVZ))):p:=h
theorem j9 {p:Prop} (h:p:=by
 have HG1:=aa g1;have HG2:=aa g2;have hi41:decide ((i4:Int)<0)=false:=a8
 exact qD HG1 (qD HG2 hi41)):p:=h
end Go.Proofs.YtdoldaceehdifaaGreatDoor
namespace Go.Proofs.YtdoldaceehdifaaGreatDoor
open Go.RowKit
namespace Rc
open Mk

def nN (c:Cl) (t:ByteArray):Prop:=∃(i:Nat) (k:Kd),c.ks[i]?=some k/\k.n=t
def SV (c:Cl) (v:Vd):Prop:=nN c v.k/\(v.m=⟨#[]⟩\/∃(i:Nat) (x:Xd),c.xs[i]?=some x/\x.n=v.m/\x.v=v.n)
def SX (c:Cl) (x:Xd):Prop:=nN c x.k/\(x.v=⟨#[]⟩\/∃(j:Nat) (v:Vd),c.vs[j]?=some v/\v.n=x.v/\v.m=x.n/\x.z<=v.c/\v.k=x.k/\v.x=x.x)
def jW (c:Cl):Prop:=(∀(j:Nat) z,c.vs[j]?=some z->SV c z)/\(∀(j:Nat) z,c.xs[j]?=some z->SX c z)

theorem iV (d:Ad) (c:Cl) (w:World) (hr:aK w d c.raw) (hks:aD Kd.n c.ks) (hxs:aD Xd.n c.xs) (hvs:aD Vd.n c.vs):
  Calls Tryz.prog 61 #[.agg #[.slice d.a1 d.l1 d.c1,.slice d.a2 d.l2 d.c2,.slice d.a3 d.l3 d.c3,.slice d.a4 d.l4 d.c4,.slice d.a5 d.l5 d.c5,.int .i64 c.now]] w (ak (jW c) w):=by
 obtain⟨a1,l1,y1,a2,l2,y2,a3,l3,y3,a4,l4,y4,a5,l5,y5⟩:=d;dsimp only;obtain⟨HR,hl1,hm1,hl2,hm2,hl3,hm3,hl4,hm4,hl5,hm5⟩:=pw;clear hr;have HKS:=aa hks;have HXS:=aa hxs;have HVS:=aa hvs;clear hks hxs hvs;go_enter Tryz.func61,Tryz.ntmps61;go_wp2;go_loopw [3] (fun i wr=> ∃k:Nat,k<=l3/\i=.int .i64 k/\Hid (∀(j:Nat) z,j<k->c.vs[j]?=some z->SV c z)/\Hid (Below w.heap.size w wr)/\Hid (wr.heap[w.heap.size]?=some (.cells (clo6 a1 l1 y1 a2 l2 y2 a3 l3 y3 a4 l4 y4 a5 l5 y5 c.now) 37 (0,0)))) (fun i _=>l3 - (intOf i).toNat);case atStart=>exact⟨0,by omega,rfl,fun _ _ h=>absurd h ae,ai _ _,qN⟩
 case round=>
  obtain⟨k,hk,rfl,HQ,HB,Bk⟩:=hrel;have pk:=ck2 Bk;by_cases hlt:k<l3
  ·obtain⟨b,o,v,rfl,hb,hx,hat⟩:=bf (HR.v.below HB.out) hlt;obtain⟨va,vl,vc,hvr,z0,z2,z3,z5,c0,c1,c2,c3,c4,c5,c6,c7⟩:=aA hat;have HXv:=aa hx;have HTv:=aa hvr;have HZv0:=aa z0;have HZv2:=aa z2;have HZv3:=aa z3;have HZv5:=aa z5;clear hat hx z0 z2 z3 z5 hvr;obtain⟨k0,k1,k2,k3,k4,k5⟩:=cs6 Bk;have ltk_0:=ab Bk.out;go_wp2_with fail;refine (dy ⟨a1,l1,y1,a2,l2,y2,(some ⟨b,o,none⟩),l3,y3,a4,l4,y4,a5,l5,y5⟩ c.now c.xs v.m _ (HR.x.below (HB.trans ((ai _ _).mono HB.size)))).mono ?_;rintro e w1 ⟨hb2,hf⟩;clear k0 k1 k2 k3 k4 k5 ltk_0;obtain⟨HA0,hbx⟩:=aJ hb2;replace Bk:=upK Bk hbx;have Br:=aa HA0;replace HB:=upB HB hbx;clear hb2 hbx HA0;clear pk hb c0 c1 c2 c3 c4 c5 c6 c7;by_cases hkh:nN c v.k;rotate_left
   ·have HKH:=aa hkh;clear hkh;obtain⟨r,hre⟩:∃r:Int,e=.returned (.int .i64 r):=by rcases hf with ⟨j,y,_,_,h⟩|⟨_,h⟩ <;> exact⟨_,h⟩
    subst hre;clear hf;obtain⟨Gk,Gr,HW⟩:=aV;obtain⟨k0,k1,k2,k3,k4,k5⟩:=sl6 Gk;obtain⟨r0,r1,r2,r3,r4,r5,r6,r7⟩:=sl8 Gr;have hne0:=Wd.ne w1;have HC0:=aa (fun q:Wd w1=>ft ⟨a1,l1,y1,a2,l2,y2,(some ⟨b,o,none⟩),l3,y3,a4,l4,y4,a5,l5,y5⟩ c.now c.ks v.k q.w (HR.k.below (HW.trans (q.b.mono HW.size))) (fun j y h1 h2=>HKH.out ⟨j,y,h1,h2⟩));go_wp2_with fail;refine ag al al ?_;repeat (go_big_quiet_step (first|(go_at_call 111;exact Calls.wide (HC0.out _))|fail))
    refine wpQuiet_nil ?_;rintro _ ⟨q1,rfl⟩;have HB2:=upB HW q1.b;obtain⟨Ck,Cr⟩:=bH;clear hne0 HW HB HC0 k0 k1 k2 k3 k4 k5 r0 r1 r2 r3 r4 r5 r6 r7 Gk Gr Bk Br;have HB:=HB2;clear HB2;have Bk:=Ck;clear Ck;have Br:=Cr;clear Cr;go_wp2;go_ret;exact ak.f (fun h=>HKH.out (h.1 k v HXv.out).1) HB.out
   obtain⟨i2,kd2,g1,g2⟩:=hkh;have HG1:=aa g1;have HG2:=aa g2;have hi20:¬((i2:Int)<0):=ae
   have hi21:decide ((i2:Int)<0)=false:=a8
   clear g1 g2;by_cases he:v.m=⟨#[]⟩
   ·have hq:=ck he;have HEm:=aa he;clear he;obtain⟨r,hre⟩:∃r:Int,e=.returned (.int .i64 r):=by rcases hf with ⟨j,y,_,_,h⟩|⟨_,h⟩ <;> exact⟨_,h⟩
    subst hre;clear hf;obtain⟨Gk,Gr,HW⟩:=aV;obtain⟨k0,k1,k2,k3,k4,k5⟩:=sl6 Gk;obtain⟨r0,r1,r2,r3,r4,r5,r6,r7⟩:=sl8 Gr;obtain⟨hne0,HC0⟩:=n8;go_wp2_with fail;refine ag al al ?_;repeat (go_big_quiet_step (first|(go_at_call 111;exact Calls.wide (HC0.out _))|fail))
    refine wpQuiet_nil ?_;rintro _ ⟨q1,rfl⟩;have HB2:=upB HW q1.b;obtain⟨Ck,Cr⟩:=bH;clear hne0 HW HB HC0 k0 k1 k2 k3 k4 k5 r0 r1 r2 r3 r4 r5 r6 r7 Gk Gr Bk Br;have HB:=HB2;clear HB2;have Bk:=Ck;clear Ck;have Br:=Cr;clear Cr;go_wp2_with fail;refine⟨⟨k+1,by omega,by go_num,fun j z hj hz=>?_,HB.out,Bk.out⟩,by simp[intOf];omega⟩;by_cases e:j=k
    ·subst e;rw[HXv.out] at hz;obtain rfl:=qG hz;exact⟨⟨i2,kd2,HG1.out,HG2.out⟩,.inl HEm.out⟩
    ·exact HQ.out j z ae hz
   have hq:=aY he;have HEm:=aa he;clear he;rcases hf with ⟨j4,y,h1,h2,rfl⟩|⟨hh,rfl⟩;rotate_left
   ·have HH:=aa hh;clear hh;obtain⟨Gk,Gr,HW⟩:=aV;obtain⟨k0,k1,k2,k3,k4,k5⟩:=sl6 Gk;obtain⟨r0,r1,r2,r3,r4,r5,r6,r7⟩:=sl8 Gr;obtain⟨hne0,HC0⟩:=n8;go_wp2_with fail;refine ag al al ?_;repeat (go_big_quiet_step (first|(go_at_call 111;exact Calls.wide (HC0.out _))|fail))
    refine wpQuiet_nil ?_;rintro _ ⟨q1,rfl⟩;have HB2:=upB HW q1.b;obtain⟨Ck,Cr⟩:=bH;clear hne0 HW HB HC0 k0 k1 k2 k3 k4 k5 r0 r1 r2 r3 r4 r5 r6 r7 Gk Gr Bk Br;have HB:=HB2;clear HB2;have Bk:=Ck;clear Ck;have Br:=Cr;clear Cr;go_wp2;go_ret;refine ak.f (fun h=>?_) HB.out;rcases (h.1 k v HXv.out).2 with h2|⟨i,y,h2,h3,_⟩
    ·exact HEm.out h2
    ·exact HH.out i y h2 h3
   have hl4':j4<l4:=by have h3:=(qE.1 h1).1;omega
   obtain⟨b4,o4,y',rfl,hb4,hy',hat⟩:=ch HR.x hl4';rw[h1] at hy';obtain rfl:=qG hy';obtain⟨z0,z2,z4,c0,c1,c2,c3,c4⟩:=aS hat;have HJ:=aa h1;have HN:=aa h2;have hcv:=(ah HB.out hb4).trans c4;have hbv:=qO hb4 HB.size;have hj0:¬((j4:Int)<0):=ae
   have hj1:decide ((j4:Int)<0)=false:=a8
   clear hy' hat z0 z2 z4 c0 c1 c2 c3 c4 h1 h2;by_cases hvn:y.v=v.n
   ·have hq2:=ba hvn;have HVN:=aa hvn;clear hvn;obtain⟨Gk,Gr,HW⟩:=aV;obtain⟨k0,k1,k2,k3,k4,k5⟩:=sl6 Gk;obtain⟨r0,r1,r2,r3,r4,r5,r6,r7⟩:=sl8 Gr;obtain⟨yw,hne0,HC0⟩:=oe;go_wp2_with fail;refine ag al al ?_;repeat (go_big_quiet_step (first|(go_at_call 111;exact Calls.wide (HC0.out _))|fail))
    refine wpQuiet_nil ?_;rintro _ ⟨q1,rfl⟩;have HB2:=upB HW q1.b;obtain⟨Ck,Cr⟩:=bH;clear hne0 HW HB HC0 k0 k1 k2 k3 k4 k5 r0 r1 r2 r3 r4 r5 r6 r7 yw Gk Gr Bk Br hcv hbv;have HB:=HB2;clear HB2;have Bk:=Ck;clear Ck;have Br:=Cr;clear Cr;go_wp2_with fail;refine⟨⟨k+1,by omega,by go_num,fun j z hj hz=>?_,HB.out,Bk.out⟩,by simp[intOf];omega⟩;by_cases e:j=k
    ·subst e;rw[HXv.out] at hz;obtain rfl:=qG hz;exact⟨⟨i2,kd2,HG1.out,HG2.out⟩,.inr ⟨j4,y,HJ.out,HN.out,HVN.out⟩⟩
    ·exact HQ.out j z ae hz
   ·have hq2:=bB hvn;have HVN:=aa hvn;clear hvn;obtain⟨Gk,Gr,HW⟩:=aV;obtain⟨k0,k1,k2,k3,k4,k5⟩:=sl6 Gk;obtain⟨r0,r1,r2,r3,r4,r5,r6,r7⟩:=sl8 Gr;obtain⟨yw,hne0,HC0⟩:=oe;go_wp2_with fail;refine ag al al ?_;repeat (go_big_quiet_step (first|(go_at_call 111;exact Calls.wide (HC0.out _))|fail))
    refine wpQuiet_nil ?_;rintro _ ⟨q1,rfl⟩;have HB2:=upB HW q1.b;obtain⟨Ck,Cr⟩:=bH;clear hne0 HW HB HC0 k0 k1 k2 k3 k4 k5 r0 r1 r2 r3 r4 r5 r6 r7 yw Gk Gr Bk Br hcv hbv;have HB:=HB2;clear HB2;have Bk:=Ck;clear Ck;have Br:=Cr;clear Cr;go_wp2;go_ret;refine ak.f (fun h=>?_) HB.out;rcases (h.1 k v HXv.out).2 with h2|⟨i,y2,h2,h3,h4⟩
    ·exact HEm.out h2
    ·obtain⟨_,rfl⟩:=HXS.inj h2 HJ.out (h3.trans HN.symm);exact HVN.out h4
  ·obtain rfl:l3=k:=ae
   have HQ1:Hid (∀(j:Nat) z,c.vs[j]?=some z->SV c z):=fun j z hz=>HQ.out j z bC hz;clear HQ;have kc:=ck3 Bk;go_wp2;go_loopw [6] (fun i wr=> ∃k:Nat,k<=l4/\i=.int .i64 k/\Hid (∀(j:Nat) z,j<k->c.xs[j]?=some z->SX c z)/\Hid (Below w.heap.size w wr)/\Hid (wr.heap[w.heap.size]?=some (.cells (clo6 a1 l1 y1 a2 l2 y2 a3 l3 y3 a4 l4 y4 a5 l5 y5 c.now) 37 (0,0)))) (fun i _=>l4 - (intOf i).toNat);case atStart=>exact⟨0,by omega,rfl,fun _ _ h=>absurd h ae,HB.out,Bk.out⟩
   case round=>
    obtain⟨k,hk,rfl,HQ,HB,Bk⟩:=hrel;have pk:=ck3 Bk;by_cases hlt:k<l4
    ·obtain⟨b,o,x,rfl,hb,hx,hat⟩:=ch (HR.x.below HB.out) hlt;obtain⟨z0,z2,z4,c0,c1,c2,c3,c4⟩:=aS hat;have HXx:=aa hx;have HZx0:=aa z0;have HZx2:=aa z2;have HZx4:=aa z4;clear hat hx z0 z2 z4;obtain⟨k0,k1,k2,k3,k4,k5⟩:=cs6 Bk;have ltk_0:=ab Bk.out;go_wp2_with fail;refine (eI ⟨a1,l1,y1,a2,l2,y2,a3,l3,y3,(some ⟨b,o,none⟩),l4,y4,a5,l5,y5⟩ c.now c.vs x.v _ (HR.v.below (HB.trans ((ai _ _).mono HB.size)))).mono ?_;rintro e w1 ⟨hb2,hf⟩;clear k0 k1 k2 k3 k4 k5 ltk_0;obtain⟨HA0,hbx⟩:=aJ hb2;replace Bk:=upK Bk hbx;have Br:=aa HA0;replace HB:=upB HB hbx;clear hb2 hbx HA0;clear pk hb c0 c1 c2 c3 c4;by_cases hkh:nN c x.k;rotate_left
     ·have HKH:=aa hkh;clear hkh;obtain⟨r,hre⟩:∃r:Int,e=.returned (.int .i64 r):=by rcases hf with ⟨j,y,_,_,h⟩|⟨_,h⟩ <;> exact⟨_,h⟩
      subst hre;clear hf;obtain⟨k0,k1,k2,k3,k4,k5⟩:=cs6 Bk;have ltk_1:=ab Bk.out;obtain⟨r0,r1,r2,r3,r4⟩:=cs5 Br;have ltr_1:=ab Br.out;go_wp2_with fail;refine (ft ⟨a1,l1,y1,a2,l2,y2,a3,l3,y3,(some ⟨b,o,none⟩),l4,y4,a5,l5,y5⟩ c.now c.ks x.k _ (HR.k.below HB.out) (fun j y h1 h2=>HKH.out ⟨j,y,h1,h2⟩)).mono ?_;rintro e w2 ⟨rfl,hb3⟩;clear k0 k1 k2 k3 k4 k5 ltk_1 r0 r1 r2 r3 r4 ltr_1;replace Bk:=upK Bk hb3;replace Br:=upK Br hb3;replace HB:=upB HB hb3;clear hb3;go_wp2;go_ret;exact ak.f (fun h=>HKH.out (h.2 k x HXx.out).1) HB.out
     obtain⟨i2,kd2,g1,g2⟩:=hkh;have HG1:=aa g1;have HG2:=aa g2;have hi20:¬((i2:Int)<0):=ae
     have hi21:decide ((i2:Int)<0)=false:=a8
     clear g1 g2;by_cases he:x.v=⟨#[]⟩
     ·have hq:=ck he;have HEm:=aa he;clear he;obtain⟨r,hre⟩:∃r:Int,e=.returned (.int .i64 r):=by rcases hf with ⟨j,y,_,_,h⟩|⟨_,h⟩ <;> exact⟨_,h⟩
      subst hre;clear hf;obtain⟨k0,k1,k2,k3,k4,k5⟩:=cs6 Bk;have ltk_1:=ab Bk.out;obtain⟨r0,r1,r2,r3,r4⟩:=cs5 Br;have ltr_1:=ab Br.out;go_wp2_with fail;refine (cO ⟨a1,l1,y1,a2,l2,y2,a3,l3,y3,(some ⟨b,o,none⟩),l4,y4,a5,l5,y5⟩ c.now c.ks x.k _ (HR.k.below HB.out) HKS.out HG1.out HG2.out).mono ?_;rintro e w2 ⟨rfl,hb3⟩;clear k0 k1 k2 k3 k4 k5 ltk_1 r0 r1 r2 r3 r4 ltr_1;replace Bk:=upK Bk hb3;replace Br:=upK Br hb3;replace HB:=upB HB hb3;clear hb3;obtain⟨k0,k1,k2,k3,k4,k5⟩:=cs6 Bk;have ltk_2:=ab Bk.out;obtain⟨r0,r1,r2,r3,r4⟩:=cs5 Br;have ltr_2:=ab Br.out;go_wp2_with fail;refine⟨⟨k+1,by omega,by go_num,fun j z hj hz=>?_,HB.out,Bk.out⟩,by simp[intOf];omega⟩;by_cases e:j=k
      ·subst e;rw[HXx.out] at hz;obtain rfl:=qG hz;exact⟨⟨i2,kd2,HG1.out,HG2.out⟩,.inl HEm.out⟩
      ·exact HQ.out j z ae hz
     have hq:=aY he;have HEm:=aa he;clear he;rcases hf with ⟨j3,y,h1,h2,rfl⟩|⟨hh,rfl⟩;rotate_left
     ·have HH:=aa hh;clear hh;obtain⟨k0,k1,k2,k3,k4,k5⟩:=cs6 Bk;have ltk_1:=ab Bk.out;obtain⟨r0,r1,r2,r3,r4⟩:=cs5 Br;have ltr_1:=ab Br.out;go_wp2_with fail;refine (cO ⟨a1,l1,y1,a2,l2,y2,a3,l3,y3,(some ⟨b,o,none⟩),l4,y4,a5,l5,y5⟩ c.now c.ks x.k _ (HR.k.below HB.out) HKS.out HG1.out HG2.out).mono ?_;rintro e w2 ⟨rfl,hb3⟩;clear k0 k1 k2 k3 k4 k5 ltk_1 r0 r1 r2 r3 r4 ltr_1;replace Bk:=upK Bk hb3;replace Br:=upK Br hb3;replace HB:=upB HB hb3;clear hb3;have pr:=ck4 Br;obtain⟨Gk,Gr,HW⟩:=aV;have k2:=fun q:Wd w2=>q.slot (o:=2) Gk.out rfl;obtain⟨r0,r1,r2,r3,r4⟩:=sl5 Gr;have hne0:=Wd.ne w2;go_wp2_with fail;refine ag al al ?_;repeat (go_big_quiet_step (first|fail))
      refine wpQuiet_nil ?_;rintro _ ⟨q1,rfl⟩;have HB3:=upB HW q1.b;obtain⟨Ck,Cr⟩:=bH;clear hne0 HW HB k2 r0 r1 r2 r3 r4 Gk Gr Bk Br pr;have HB:=HB3;clear HB3;have Bk:=Ck;clear Ck;have Br:=Cr;clear Cr;go_wp2;go_ret;refine ak.f (fun h=>?_) HB.out;rcases (h.2 k x HXx.out).2 with h2|⟨i,y,h2,h3,_⟩
      ·exact HEm.out h2
      ·exact HH.out i y h2 h3
     have hl3':j3<l3:=by have h3:=(qE.1 h1).1;omega
     obtain⟨b3,o3,y',rfl,hb3,hy',hat⟩:=bf HR.v hl3';rw[h1] at hy';obtain rfl:=qG hy';obtain⟨va,vl,vc,hvr,z0,z2,z3,z5,c0,c1,c2,c3,c4,c5,c6,c7⟩:=aA hat;have HJ:=aa h1;have HN:=aa h2;have hj0:¬((j3:Int)<0):=ae
     have hj1:decide ((j3:Int)<0)=false:=a8
     have HC1:=aa c1;have HC3:=aa c3;have HC4:=aa c4;have HC5:=aa c5;have HB3:=aa hb3;clear hy' hat hvr z0 z2 z3 z5 c0 c1 c2 c3 c4 c5 c6 c7 h1 h2 hb3;obtain⟨k0,k1,k2,k3,k4,k5⟩:=cs6 Bk;have ltk_1:=ab Bk.out;obtain⟨r0,r1,r2,r3,r4⟩:=cs5 Br;have ltr_1:=ab Br.out;go_wp2_with fail;refine (cO ⟨a1,l1,y1,a2,l2,y2,(some ⟨b3,o3,none⟩),l3,y3,(some ⟨b,o,none⟩),l4,y4,a5,l5,y5⟩ c.now c.ks x.k _ (HR.k.below HB.out) HKS.out HG1.out HG2.out).mono ?_;rintro e w2 ⟨rfl,hb3⟩;clear k0 k1 k2 k3 k4 k5 ltk_1 r0 r1 r2 r3 r4 ltr_1;replace Bk:=upK Bk hb3;replace Br:=upK Br hb3;replace HB:=upB HB hb3;clear hb3;have pr:=ck4 Br;have hbv:=qO HB3.out HB.size;have v1:=(ah HB.out HB3.out).trans HC1.out;have v3:=(ah HB.out HB3.out).trans HC3.out;have v4:=(ah HB.out HB3.out).trans HC4.out;have v5:=(ah HB.out HB3.out).trans HC5.out;clear HC1 HC3 HC4 HC5 HB3;by_cases hno:y.m=x.n;rotate_left
     ·have HNo:=aa hno;clear hno;have n1:=bB HNo.out;obtain⟨Gk,Gr,HW⟩:=aV;have k2:=fun q:Wd w2=>q.slot (o:=2) Gk.out rfl;obtain⟨r0,r1,r2,r3,r4⟩:=sl5 Gr;obtain⟨v1w,v3w,v4w,v5w,hne0⟩:=hJ;go_wp2_with fail;refine ag al al ?_;repeat (go_big_quiet_step (first|fail))
      refine wpQuiet_nil ?_;rintro _ ⟨q1,rfl⟩;have HB3:=upB HW q1.b;obtain⟨Ck,Cr⟩:=bH;clear hne0 HW HB k2 r0 r1 r2 r3 r4 v1w v3w v4w v5w Gk Gr Bk Br pr v1 v3 v4 v5 hbv;have HB:=HB3;clear HB3;have Bk:=Ck;clear Ck;have Br:=Cr;clear Cr;go_wp2;go_ret;refine ak.f (fun h=>?_) HB.out;rcases (h.2 k x HXx.out).2 with h2|⟨i,y2,h2,h3,h4⟩
      ·exact HEm.out h2
      ·obtain⟨_,rfl⟩:=HVS.inj h2 HJ.out (h3.trans HN.symm);exact HNo.out h4.1
     have HY1:=aa hno;have q1:=ba hno;clear hno;by_cases hno:x.z<=y.c;rotate_left
     ·have HNo:=aa hno;clear hno;have n1:y.c<x.z:=by have:=HNo.out;omega
      obtain⟨Gk,Gr,HW⟩:=aV;have k2:=fun q:Wd w2=>q.slot (o:=2) Gk.out rfl;obtain⟨r0,r1,r2,r3,r4⟩:=sl5 Gr;obtain⟨v1w,v3w,v4w,v5w,hne0⟩:=hJ;go_wp2_with fail;refine ag al al ?_;repeat (go_big_quiet_step (first|fail))
      refine wpQuiet_nil ?_;rintro _ ⟨q1,rfl⟩;have HB3:=upB HW q1.b;obtain⟨Ck,Cr⟩:=bH;clear hne0 HW HB k2 r0 r1 r2 r3 r4 v1w v3w v4w v5w Gk Gr Bk Br pr v1 v3 v4 v5 hbv;have HB:=HB3;clear HB3;have Bk:=Ck;clear Ck;have Br:=Cr;clear Cr;go_wp2;go_ret;refine ak.f (fun h=>?_) HB.out;rcases (h.2 k x HXx.out).2 with h2|⟨i,y2,h2,h3,h4⟩
      ·exact HEm.out h2
      ·obtain⟨_,rfl⟩:=HVS.inj h2 HJ.out (h3.trans HN.symm);have h5:=h4.2.1;have h6:=HNo.out;omega
     have HY2:=aa hno;have q2:decide (y.c<x.z)=false:=by simp;omega
     clear hno;by_cases hno:y.k=x.k;rotate_left
     ·have HNo:=aa hno;clear hno;have n1:=bB HNo.out;obtain⟨Gk,Gr,HW⟩:=aV;have k2:=fun q:Wd w2=>q.slot (o:=2) Gk.out rfl;obtain⟨r0,r1,r2,r3,r4⟩:=sl5 Gr;obtain⟨v1w,v3w,v4w,v5w,hne0⟩:=hJ;go_wp2_with fail;refine ag al al ?_;repeat (go_big_quiet_step (first|fail))
      refine wpQuiet_nil ?_;rintro _ ⟨q1,rfl⟩;have HB3:=upB HW q1.b;obtain⟨Ck,Cr⟩:=bH;clear hne0 HW HB k2 r0 r1 r2 r3 r4 v1w v3w v4w v5w Gk Gr Bk Br pr v1 v3 v4 v5 hbv;have HB:=HB3;clear HB3;have Bk:=Ck;clear Ck;have Br:=Cr;clear Cr;go_wp2;go_ret;refine ak.f (fun h=>?_) HB.out;rcases (h.2 k x HXx.out).2 with h2|⟨i,y2,h2,h3,h4⟩
      ·exact HEm.out h2
      ·obtain⟨_,rfl⟩:=HVS.inj h2 HJ.out (h3.trans HN.symm);exact HNo.out h4.2.2.1
     have HY3:=aa hno;have q3:=ba hno;clear hno;by_cases hno:y.x=x.x;rotate_left
     ·have HNo:=aa hno;clear hno;have n1:(y.x==x.x)=false:=by simpa using HNo.out
      obtain⟨Gk,Gr,HW⟩:=aV;have k2:=fun q:Wd w2=>q.slot (o:=2) Gk.out rfl;obtain⟨r0,r1,r2,r3,r4⟩:=sl5 Gr;obtain⟨v1w,v3w,v4w,v5w,hne0⟩:=hJ;go_wp2_with fail;refine ag al al ?_;repeat (go_big_quiet_step (first|fail))
      refine wpQuiet_nil ?_;rintro _ ⟨q1,rfl⟩;have HB3:=upB HW q1.b;obtain⟨Ck,Cr⟩:=bH;clear hne0 HW HB k2 r0 r1 r2 r3 r4 v1w v3w v4w v5w Gk Gr Bk Br pr v1 v3 v4 v5 hbv;have HB:=HB3;clear HB3;have Bk:=Ck;clear Ck;have Br:=Cr;clear Cr;go_wp2;go_ret;refine ak.f (fun h=>?_) HB.out;rcases (h.2 k x HXx.out).2 with h2|⟨i,y2,h2,h3,h4⟩
      ·exact HEm.out h2
      ·obtain⟨_,rfl⟩:=HVS.inj h2 HJ.out (h3.trans HN.symm);exact HNo.out h4.2.2.2
     have HY4:=aa hno;have q4:(y.x==x.x)=true:=by simpa using hno
     clear hno;obtain⟨Gk,Gr,HW⟩:=aV;have k2:=fun q:Wd w2=>q.slot (o:=2) Gk.out rfl;obtain⟨r0,r1,r2,r3,r4⟩:=sl5 Gr;obtain⟨v1w,v3w,v4w,v5w,hne0⟩:=hJ;go_wp2_with fail;refine ag al al ?_;repeat (go_big_quiet_step (first|fail))
     refine wpQuiet_nil ?_;rintro _ ⟨qz,rfl⟩;have HB3:=upB HW qz.b;have Ck:=upK Gk qz.b;have Cr:=upK Gr qz.b;clear hne0 HW HB k2 r0 r1 r2 r3 r4 v1w v3w v4w v5w Gk Gr Bk Br pr v1 v3 v4 v5 hbv;have HB:=HB3;clear HB3;have Bk:=Ck;clear Ck;have Br:=Cr;clear Cr;clear q1 q2 q3 q4;go_wp2_with fail;refine⟨⟨k+1,by omega,by go_num,fun j z hj hz=>?_,HB.out,Bk.out⟩,by simp[intOf];omega⟩;by_cases e:j=k
     ·subst e;rw[HXx.out] at hz;obtain rfl:=qG hz;exact⟨⟨i2,kd2,HG1.out,HG2.out⟩,.inr ⟨j3,y,HJ.out,HN.out,HY1.out,HY2.out,HY3.out,HY4.out⟩⟩
     ·exact HQ.out j z ae hz
    ·obtain rfl:l4=k:=ae
     have HQ2:Hid (∀(j:Nat) z,c.xs[j]?=some z->SX c z):=fun j z hz=>HQ.out j z bC hz;exact ke

def PSa (c:Cl) (p:Pd):Prop:=p.d=⟨#[]⟩\/∃(i:Nat) (n:Nd),c.ns[i]?=some n/\n.n=p.d/\(p.z=⟨#[]⟩\/n.z=p.z)
def pK (c:Cl) (p:Pd) (t:ByteArray):Prop:=(∃(i:Nat) (x:Xd),c.xs[i]?=some x/\x.n=t)/\(p.d=⟨#[]⟩\/∃(v:Vd) (i:Nat) (n:Nd),bh c t v/\c.ns[i]?=some n/\n.n=p.d/\v.z=n.z)
def PSb (c:Cl) (p:Pd):Prop:=∀(j:Nat) t,p.zs[j]?=some t->pK c p t
def PSc (c:Cl) (k:Nat) (p:Pd):Prop:=∀(j:Nat) q,j<k->c.ps[j]?=some q->fG c q p
def PS (c:Cl) (k:Nat) (p:Pd):Prop:=PSa c p/\PSb c p/\PSc c k p
def gi (c:Cl):Prop:=(∀(k:Nat) p,c.ps[k]?=some p->PS c k p)/\∀(j:Nat) n,c.ns[j]?=some n->cpuOf n.n c.ps<=n.c

theorem gG (d:Ad) (c:Cl) (w:World) (hr:aK w d c.raw) (hn:aD Nd.n c.ns) (hx:aD Xd.n c.xs) (hv:aD Vd.n c.vs) (hne:∀(j:Nat) v,c.vs[j]?=some v->¬v.n=⟨#[]⟩) (hps8:c.ps.length<=8) (hpc:∀(j:Nat) p,c.ps[j]?=some p->0<=p.c/\p.c<=1000000):
  Calls Tryz.prog 62 #[.agg #[.slice d.a1 d.l1 d.c1,.slice d.a2 d.l2 d.c2,.slice d.a3 d.l3 d.c3,.slice d.a4 d.l4 d.c4,.slice d.a5 d.l5 d.c5,.int .i64 c.now]] w (ak (gi c) w):=by
 obtain⟨a1,l1,y1,a2,l2,y2,a3,l3,y3,a4,l4,y4,a5,l5,y5⟩:=d;dsimp only;obtain⟨HR,hl1,hm1,hl3⟩:=lH;obtain⟨hl5,hm5⟩:=hE;clear hr;have HNR:=aa hn;obtain⟨HX,HV,HNE⟩:=ei;have HL5:=aa hps8;have HPC:=aa hpc;clear hn hx hv hne hps8 hpc;go_enter Tryz.func62,Tryz.ntmps62;go_wp2;go_loopw [3] (fun i wr=> ∃k:Nat,k<=l5/\i=.int .i64 k/\Hid (∀(j:Nat) z,j<k->c.ps[j]?=some z->PS c j z)/\Hid (Below w.heap.size w wr)/\Hid (wr.heap[w.heap.size]?=some (.cells (clo6 a1 l1 y1 a2 l2 y2 a3 l3 y3 a4 l4 y4 a5 l5 y5 c.now) 37 (0,0)))) (fun i _=>l5 - (intOf i).toNat);case atStart=>exact⟨0,by omega,rfl,fun _ _ h=>absurd h ae,ai _ _,qN⟩
 case round=>
  obtain⟨k,hk,rfl,HQ,HB,Bk⟩:=hrel;have pk:=ck4 Bk;by_cases hlt:k<l5
  ·obtain⟨b,o,p,rfl,hb,hx,hat⟩:=bI (HR.p.below HB.out) hlt;obtain⟨va,vl,vc,hvr,z0,z2,z4,c0,c1,c2,c3,c4,c5⟩:=aM hat;have HXp:=aa hx;have HTp:=aa hvr;clear hat hx z0 z2 z4 hvr;have hvl:=HTp.1;have hvc:=qK HTp.2.1 HTp.2.2.1;have HVL:=aa hvl;clear hvl;obtain⟨k0,k1,k2,k3,k4,k5⟩:=cs6 Bk;have ltk_0:=ab Bk.out;go_wp2_with fail;refine (eK ⟨a1,l1,y1,a2,l2,y2,a3,l3,y3,a4,l4,y4,(some ⟨b,o,none⟩),l5,y5⟩ c.now c.ns p.d _ (HR.n.below (HB.trans ((ai _ _).mono HB.size)))).mono ?_;rintro e w1 ⟨hb2,hf⟩;clear k0 k1 k2 k3 k4 k5 ltk_0;obtain⟨HA0,hbx⟩:=aJ hb2;replace Bk:=upK Bk hbx;have Br:=aa HA0;replace HTp:=aa (HTp.below hbx);replace HB:=upB HB hbx;clear hb2 hbx HA0;clear pk hb c0 c1 c2 c3 c4 c5;by_cases he:p.d=⟨#[]⟩
   ·have hq:=ck he;have HEm:=aa he;clear he;obtain⟨r5,hre⟩:∃r:Int,e=.returned (.int .i64 r):=by rcases hf with ⟨j,y,_,_,h⟩|⟨_,h⟩ <;> exact⟨_,h⟩
    subst hre;clear hf;obtain⟨Gk,Gr,HW⟩:=aV;have k0:=fun q:Wd w1=>q.slot (o:=0) Gk.out rfl;obtain⟨r0,r1,r2,r3,r4,r5⟩:=sl6 Gr;have hne0:=Wd.ne w1;go_wp2_with fail;refine ag al al ?_;repeat (go_big_quiet_step (first|fail))
    refine wpQuiet_nil ?_;rintro _ ⟨q0,rfl⟩;obtain⟨HB2,Ck,Cr,CHTp⟩:=gX;clear hne0 HW HB k0 r0 r1 r2 r3 r4 r5 Gk Gr Bk Br HTp;have HB:=HB2;clear HB2;have HTp:=CHTp;clear CHTp;have Bk:=Ck;clear Ck;have Br:=Cr;clear Cr;have HPa:Hid (PSa c p):=.inl HEm.out;obtain⟨gb,hgb⟩:∃gb,gb=wr.heap.size:=⟨_,rfl⟩;rw[<-hgb] at Br;have pr3:=ck3 Br;rw[hgb] at pr3;go_wp2;rw[<-hgb];clear pr3 hgb;have KV:=Bk;have GV:=Br;have BV:=HB;have TV:=HTp;clear Bk Br HB HTp;obtain⟨W,hW⟩:∃W,W=q0.w:=⟨_,rfl⟩;rw[<-hW] at KV GV BV TV ⊢;clear hW;go_loopw [6] (fun i wr=> ∃kq:Nat,kq<=vl/\i=.int .i64 kq/\Hid (∀(j:Nat) t,j<kq->p.zs[j]?=some t->pK c p t)/\Hid (Below W.heap.size W wr)) (fun i _=>vl - (intOf i).toNat);case atStart=>exact⟨0,by omega,rfl,fun _ _ h=>absurd h ae,qI _ _⟩
    case round=>
     obtain⟨kq,hkq,rfl,HQ2,HBW⟩:=hrel;obtain⟨HB,Bk⟩:=gW;have Br:=upK GV HBW.out;have pr3:=ck3 Br;by_cases hlt2:kq<vl
     ·obtain⟨b2,o2,t,rfl,hb,hxt,hc,hsz⟩:=(TV.below HBW.out).at hlt2;have HXt:=aa hxt;clear hxt hsz;have hcase:(∃v,bh c t v)\/(∀v,¬bh c t v):=by
       exact oL
      rcases hcase with ⟨v,hbd⟩|hbd
      ·obtain⟨j3,hj3⟩:=hbd.at;have hl3':j3<l3:=by have h1:=(qE.1 hj3).1;omega
       obtain⟨b3,o3,v',rfl,hb3,hv',hat⟩:=bf HR.v hl3';rw[hj3] at hv';obtain rfl:=qG hv';obtain⟨xa,xl,xc,hvr,z0,z2,z3,z5,d0,d1,d2,d3,d4,d5,d6,d7⟩:=aA hat;have HJ:=aa hj3;have HD:=aa hbd;have HC2:=aa d2;have HB3:=aa hb3;have hj31:decide ((j3:Int)<0)=false:=a8
       clear hv' hat hvr z0 z2 z3 z5 d0 d1 d2 d3 d4 d5 d6 d7 hj3 hbd hb3;obtain⟨Gk,Gr,HW⟩:=aV;obtain⟨k0,k1,k2,k3,k4,k5⟩:=sl6 Gk;have r3:=fun q:Wd wr=>q.slot (o:=3) Gr.out rfl;obtain⟨tw,hne0⟩:=en;have HC0:=aa (fun q:Wd wr=>cZ ⟨a1,l1,y1,a2,l2,y2,(some ⟨b3,o3,none⟩),l3,y3,a4,l4,y4,(some ⟨b,o,none⟩),l5,y5⟩ c t q.w (HR.below (HW.trans (q.b.mono HW.size))) HX.out HV.out HNE.out HJ.out HD.out);go_wp2_with fail;refine ag al al ?_;repeat (go_big_quiet_step (first|(go_at_call 113;exact Calls.wide (HC0.out _))|fail))
       refine wpQuiet_nil ?_;rintro _ ⟨q1,rfl⟩;have HB1:=upB HW q1.b;obtain⟨Ck,Cr⟩:=bH;clear hne0 HW HB HC0 k0 k1 k2 k3 k4 k5 r3 tw Gk Gr Bk Br pr3;have HB:=HB1;clear HB1;have Bk:=Ck;clear Ck;have Br:=Cr;clear Cr;obtain⟨hc1,hb1,HBW1⟩:=ka;clear hc hb HBW;by_cases hg:∃(i:Nat) (x:Xd),c.xs[i]?=some x/\x.n=t;rotate_left
       ·have HG:=aa hg;clear hg;obtain⟨Gk,Gr,HW⟩:=aV;obtain⟨k0,k1,k2,k3,k4,k5⟩:=sl6 Gk;obtain⟨r0,r1,r2,r3,r4,r5⟩:=sl6 Gr;obtain⟨tw,hne0⟩:=eN;have HC0:=aa (fun q:Wd q1.w=>cW ⟨a1,l1,y1,a2,l2,y2,(some ⟨b3,o3,none⟩),l3,y3,a4,l4,y4,(some ⟨b,o,none⟩),l5,y5⟩ c.now c.xs t q.w (HR.x.below (HW.trans (q.b.mono HW.size))) (fun i x h1 h2=>HG.out ⟨i,x,h1,h2⟩));exact pO
       obtain⟨i4,x4,g1,g2⟩:=hg;obtain⟨HG1,HG2,hi41⟩:=j9;clear g1 g2;obtain⟨Gk,Gr,HW⟩:=aV;obtain⟨k0,k1,k2,k3,k4,k5⟩:=sl6 Gk;obtain⟨r0,r1,r2,r3,r4,r5⟩:=sl6 Gr;obtain⟨tw,hne0⟩:=eN;have HC0:=aa (fun q:Wd q1.w=>dx ⟨a1,l1,y1,a2,l2,y2,(some ⟨b3,o3,none⟩),l3,y3,a4,l4,y4,(some ⟨b,o,none⟩),l5,y5⟩ c.now c.xs t q.w (HR.x.below (HW.trans (q.b.mono HW.size))) HX.out HG1.out HG2.out);exact my
      ·have HD:=aa hbd;clear hbd;obtain⟨Gk,Gr,HW⟩:=aV;obtain⟨k0,k1,k2,k3,k4,k5⟩:=sl6 Gk;have r3:=fun q:Wd wr=>q.slot (o:=3) Gr.out rfl;obtain⟨tw,hne0⟩:=en;have HC0:=aa (fun q:Wd wr=>dq ⟨a1,l1,y1,a2,l2,y2,a3,l3,y3,a4,l4,y4,(some ⟨b,o,none⟩),l5,y5⟩ c t q.w (HR.below (HW.trans (q.b.mono HW.size))) HX.out HV.out HNE.out HD.out);go_wp2_with fail;refine ag al al ?_;repeat (go_big_quiet_step (first|(go_at_call 113;exact Calls.wide (HC0.out _))|fail))
       refine wpQuiet_nil ?_;rintro _ ⟨q1,rfl⟩;have HB1:=upB HW q1.b;obtain⟨Ck,Cr⟩:=bH;clear hne0 HW HB HC0 k0 k1 k2 k3 k4 k5 r3 tw Gk Gr Bk Br pr3;have HB:=HB1;clear HB1;have Bk:=Ck;clear Ck;have Br:=Cr;clear Cr;obtain⟨hc1,hb1,HBW1⟩:=ka;clear hc hb HBW;by_cases hg:∃(i:Nat) (x:Xd),c.xs[i]?=some x/\x.n=t;rotate_left
       ·have HG:=aa hg;clear hg;obtain⟨Gk,Gr,HW⟩:=aV;obtain⟨k0,k1,k2,k3,k4,k5⟩:=sl6 Gk;obtain⟨r0,r1,r2,r3,r4,r5⟩:=sl6 Gr;obtain⟨tw,hne0⟩:=eN;have HC0:=aa (fun q:Wd q1.w=>cW ⟨a1,l1,y1,a2,l2,y2,a3,l3,y3,a4,l4,y4,(some ⟨b,o,none⟩),l5,y5⟩ c.now c.xs t q.w (HR.x.below (HW.trans (q.b.mono HW.size))) (fun i x h1 h2=>HG.out ⟨i,x,h1,h2⟩));exact pO
       obtain⟨i4,x4,g1,g2⟩:=hg;obtain⟨HG1,HG2,hi41⟩:=j9;clear g1 g2;obtain⟨Gk,Gr,HW⟩:=aV;obtain⟨k0,k1,k2,k3,k4,k5⟩:=sl6 Gk;obtain⟨r0,r1,r2,r3,r4,r5⟩:=sl6 Gr;obtain⟨tw,hne0⟩:=eN;have HC0:=aa (fun q:Wd q1.w=>dx ⟨a1,l1,y1,a2,l2,y2,a3,l3,y3,a4,l4,y4,(some ⟨b,o,none⟩),l5,y5⟩ c.now c.xs t q.w (HR.x.below (HW.trans (q.b.mono HW.size))) HX.out HG1.out HG2.out);exact my
     ·obtain rfl:vl=kq:=ae
      have HQb:Hid (PSb c p):=fun j t ht=>HQ2.out j t nP ht;clear HQ2;have TV2:=aa (TV.below HBW.out);have KV2:=Bk;have GV2:=Br;have BV2:=HB;clear KV GV BV TV Bk Br HB HBW;obtain⟨W2,hW⟩:∃W2,W2=wr:=⟨_,rfl⟩;rw[<-hW] at KV2 GV2 BV2 TV2;go_wp2;clear pr3;rw[<-hW];clear hW;go_loopw [8] (fun i wr=> ∃kz:Nat,kz<=k/\i=.int .i64 kz/\Hid (∀(j:Nat) q,j<kz->c.ps[j]?=some q->fG c q p)/\Hid (Below W2.heap.size W2 wr)) (fun i _=>k - (intOf i).toNat);case atStart=>exact⟨0,by omega,rfl,fun _ _ h=>absurd h ae,qI _ _⟩
      case round=>
       obtain⟨kz,hkz,rfl,HQ3,HBW⟩:=hrel;have HB:=aa (BV2.trans (HBW.mono BV2.size));have Bk:=upK KV2 HBW.out;have Br:=upK GV2 HBW.out;have HTp:=aa (TV2.below HBW.out);by_cases hlt3:kz<k
       ·obtain⟨b',o',pq,e',hb',hqq,hatq⟩:=bI (HR.p.below HB.out) (show kz<l5 by omega);cases e';obtain⟨qa,ql,qc,hqr,z0,z2,z4,d0,d1,d2,d3,d4,d5⟩:=aM hatq;have HXq:=aa hqq;have HTq:=aa hqr;clear hatq hqq hqr z0 z2 z4;by_cases hpr:fG c pq p
        ·have HPr:=aa hpr;clear hpr;obtain⟨Gk,Gr,HW⟩:=aV;obtain⟨k0,k1,k2,k3,k4,k5⟩:=sl6 Gk;obtain⟨r0,r1,r2,r3,r4,r5⟩:=sl6 Gr;obtain⟨q0,q1,q2,q3,q4,q5,hne0⟩:=nH;have HC0:=aa (fun qw:Wd wr=>(cX ⟨a1,l1,y1,a2,l2,y2,a3,l3,y3,a4,l4,y4,(some ⟨b,o,none⟩),l5,y5⟩ c pq p qa ql qc va vl vc qw.w (HR.below (HW.trans (qw.b.mono HW.size))) HX.out HV.out HNE.out (HTq.below qw.b) (HTp.below qw.b)).mono (fun _ _ h=>ak.yes h HPr.out));exact mz
        ·have HPr:=aa hpr;clear hpr;obtain⟨Gk,Gr,HW⟩:=aV;obtain⟨k0,k1,k2,k3,k4,k5⟩:=sl6 Gk;obtain⟨r0,r1,r2,r3,r4,r5⟩:=sl6 Gr;obtain⟨q0,q1,q2,q3,q4,q5,hne0⟩:=nH;have HC0:=aa (fun qw:Wd wr=>(cX ⟨a1,l1,y1,a2,l2,y2,a3,l3,y3,a4,l4,y4,(some ⟨b,o,none⟩),l5,y5⟩ c pq p qa ql qc va vl vc qw.w (HR.below (HW.trans (qw.b.mono HW.size))) HX.out HV.out HNE.out (HTq.below qw.b) (HTp.below qw.b)).mono (fun _ _ h=>ak.no h HPr.out));exact mx
       ·exact mw
   have hq:=aY he;have HEm:=aa he;clear he;rcases hf with ⟨j1,n,h1,h2,rfl⟩|⟨hh,rfl⟩;rotate_left
   ·have HH:=aa hh;clear hh;obtain⟨Gk,Gr,HW⟩:=aV;have k0:=fun q:Wd w1=>q.slot (o:=0) Gk.out rfl;obtain⟨r0,r1,r2,r3,r4,r5⟩:=sl6 Gr;have hne0:=Wd.ne w1;go_wp2_with fail;refine ag al al ?_;repeat (go_big_quiet_step (first|fail))
    refine wpQuiet_nil ?_;rintro _ ⟨q0,rfl⟩;obtain⟨HB2,Ck,Cr,CHTp⟩:=gX;clear hne0 HW HB k0 r0 r1 r2 r3 r4 r5 Gk Gr Bk Br HTp;have HB:=HB2;clear HB2;have HTp:=CHTp;clear CHTp;have Bk:=Ck;clear Ck;have Br:=Cr;clear Cr;go_wp2;go_ret;refine ak.f (fun h=>?_) HB.out;rcases (h.1 k p HXp.out).1 with h2|⟨i,n,h2,h3,_⟩
    ·exact HEm.out h2
    ·exact HH.out i n h2 h3
   have hl1':j1<l1:=by have h3:=(qE.1 h1).1;omega
   obtain⟨b1,o1,n',rfl,hb1n,hn',hat⟩:=bp HR.n hl1';rw[h1] at hn';obtain rfl:=qG hn';obtain⟨na,nl,nc,hnr,z0,z1,d0,d1,d2,d3,d4,d5,d6⟩:=aH hat;have HJn:=aa h1;have HNn:=aa h2;have HCn:=aa d1;have HBn:=aa hb1n;have hj11:decide ((j1:Int)<0)=false:=a8
   have hbn:=qO hb1n HB.size;have n1:=(ah HB.out hb1n).trans d1;clear hn' hat hnr z0 z1 d0 d1 d2 d3 d4 d5 d6 h1 h2 hb1n;by_cases hz0:p.z=⟨#[]⟩
   ·have hq2:=ck hz0;have HPa:Hid (PSa c p):=.inr ⟨j1,n,HJn.out,HNn.out,.inl hz0⟩;clear hz0;obtain⟨Gk,Gr,HW⟩:=aV;have k0:=fun q:Wd w1=>q.slot (o:=0) Gk.out rfl;obtain⟨r0,r1,r2,r3,r4,r5⟩:=sl6 Gr;have nw:=fun q:Wd w1=>(q.cell hbn).trans n1;have hne0:=Wd.ne w1;go_wp2_with fail;refine ag al al ?_;repeat (go_big_quiet_step (first|fail))
    refine wpQuiet_nil ?_;rintro _ ⟨q0,rfl⟩;obtain⟨HB2,Ck,Cr,CHTp⟩:=gX;clear hne0 HW HB k0 r0 r1 r2 r3 r4 r5 nw Gk Gr Bk Br HTp hbn n1;have HB:=HB2;clear HB2;have HTp:=CHTp;clear CHTp;have Bk:=Ck;clear Ck;have Br:=Cr;clear Cr;clear hq2;exact mA
   have hq2:=aY hz0;by_cases hz1:n.z=p.z
   ·have hq3:=ba hz1;have HPa:Hid (PSa c p):=.inr ⟨j1,n,HJn.out,HNn.out,.inr hz1⟩;clear hz0 hz1;obtain⟨Gk,Gr,HW⟩:=aV;have k0:=fun q:Wd w1=>q.slot (o:=0) Gk.out rfl;obtain⟨r0,r1,r2,r3,r4,r5⟩:=sl6 Gr;have nw:=fun q:Wd w1=>(q.cell hbn).trans n1;have hne0:=Wd.ne w1;go_wp2_with fail;refine ag al al ?_;repeat (go_big_quiet_step (first|fail))
    refine wpQuiet_nil ?_;rintro _ ⟨q0,rfl⟩;obtain⟨HB2,Ck,Cr,CHTp⟩:=gX;clear hne0 HW HB k0 r0 r1 r2 r3 r4 r5 nw Gk Gr Bk Br HTp hbn n1;have HB:=HB2;clear HB2;have HTp:=CHTp;clear CHTp;have Bk:=Ck;clear Ck;have Br:=Cr;clear Cr;clear hq2 hq3;exact mA
   ·have hq3:=bB hz1;have HZ0:=aa hz0;have HZ1:=aa hz1;clear hz0 hz1;obtain⟨Gk,Gr,HW⟩:=aV;have k0:=fun q:Wd w1=>q.slot (o:=0) Gk.out rfl;obtain⟨r0,r1,r2,r3,r4,r5⟩:=sl6 Gr;have nw:=fun q:Wd w1=>(q.cell hbn).trans n1;have hne0:=Wd.ne w1;go_wp2_with fail;refine ag al al ?_;repeat (go_big_quiet_step (first|fail))
    refine wpQuiet_nil ?_;rintro _ ⟨q0,rfl⟩;obtain⟨HB2,Ck,Cr,CHTp⟩:=gX;clear hne0 HW HB k0 r0 r1 r2 r3 r4 r5 nw Gk Gr Bk Br HTp hbn n1;have HB:=HB2;clear HB2;have HTp:=CHTp;clear CHTp;have Bk:=Ck;clear Ck;have Br:=Cr;clear Cr;go_wp2;go_ret;refine ak.f (fun h=>?_) HB.out;rcases (h.1 k p HXp.out).1 with h2|⟨i,n',h2,h3,h4⟩
    ·exact HEm.out h2
    ·obtain⟨_,rfl⟩:=HNR.inj h2 HJn.out (h3.trans HNn.symm);rcases h4 with h4|h4
     ·exact HZ0.out h4
     ·exact HZ1.out h4
  ·obtain rfl:l5=k:=ae
   have HQ1:Hid (∀(k:Nat) p,c.ps[k]?=some p->PS c k p):=fun j z hz=>HQ.out j z bC hz;clear HQ;go_wp2;clear pk;go_loopw [9] (fun i wr=> ∃k:Nat,k<=l1/\i=.int .i64 k/\Hid (∀(j:Nat) n,j<k->c.ns[j]?=some n->cpuOf n.n c.ps<=n.c)/\Hid (Below w.heap.size w wr)/\Hid (wr.heap[w.heap.size]?=some (.cells (clo6 a1 l1 y1 a2 l2 y2 a3 l3 y3 a4 l4 y4 a5 l5 y5 c.now) 37 (0,0)))) (fun i _=>l1 - (intOf i).toNat);case atStart=>exact⟨0,by omega,rfl,fun _ _ h=>absurd h ae,HB.out,Bk.out⟩
   case round=>
    obtain⟨k,hk,rfl,HQ,HB,Bk⟩:=hrel;have pk:=ck0 Bk;by_cases hlt:k<l1
    ·obtain⟨b,o,n,rfl,hb,hx,hat⟩:=bp (HR.n.below HB.out) hlt;obtain⟨va,vl,vc,hvr,z0,z1,c0,c1,c2,c3,c4,c5,c6⟩:=aH hat;have HXn:=aa hx;clear hat hx z0 z1 hvr;have Gk:=Bk;have HW:=HB;obtain⟨k0,k1,k2,k3,k4,k5⟩:=sl6 Gk;have n0w:=fun q:Wd wr=>(q.cell hb).trans c0;have n2w:=fun q:Wd wr=>(q.cell hb).trans c2;have hne0:=Wd.ne wr;have HC0:=aa (fun q:Wd wr=>kO ⟨(some ⟨b,o,none⟩),l1,y1,a2,l2,y2,a3,l3,y3,a4,l4,y4,a5,l5,y5⟩ c.now c.ps n.n q.w (HR.p.below (HW.trans (q.b.mono HW.size))) HL5.out HPC.out);go_wp2_with fail;refine ag al al ?_;repeat (go_big_quiet_step (first|(go_at_call 65;exact Calls.wide (HC0.out _))|fail))
     refine wpQuiet_nil ?_;rintro _ ⟨q1,rfl⟩;have HB1:=upB HW q1.b;have Ck:=upK Gk q1.b;clear hne0 HW HB HC0 k0 k1 k2 k3 k4 k5 n0w n2w Gk Bk pk c0 c1 c2 c3 c4 c5 c6 hb;have HB:=HB1;clear HB1;have Bk:=Ck;clear Ck;by_cases hq:cpuOf n.n c.ps<=n.c
     ·exact oP
     ·have HCq:=aa hq;go_wp2;go_ret;exact ak.f (fun h=>by have h1:cpuOf n.n c.ps<=n.c:=h.2 k n HXn.out;have h2:=HCq.out;omega) HB.out
    ·exact oC

def lf (c:Cl):Prop:=(∀(j:Nat) z,c.vs[j]?=some z->AQ1 c z)/\∀(j:Nat) n,c.ns[j]?=some n->onOf n.n c.vs<=n.s

theorem fm (d:Ad) (c:Cl) (w:World) (hr:aK w d c.raw) (hn:aD Nd.n c.ns) (hvs8:c.vs.length<=8):
  Calls Tryz.prog 63 #[.agg #[.slice d.a1 d.l1 d.c1,.slice d.a2 d.l2 d.c2,.slice d.a3 d.l3 d.c3,.slice d.a4 d.l4 d.c4,.slice d.a5 d.l5 d.c5,.int .i64 c.now]] w (ak (lf c) w):=by
 obtain⟨a1,l1,y1,a2,l2,y2,a3,l3,y3,a4,l4,y4,a5,l5,y5⟩:=d;dsimp only;obtain⟨HR,hl1,hm1,hl3⟩:=lH;have hm3:l3<=9223372036854775807:=qK hr.v.2.1 hr.v.2.2.1;clear hr;have HNR:=aa hn;have HL3:=aa hvs8;clear hn hvs8;go_enter Tryz.func63,Tryz.ntmps63;go_wp2;go_loopw [3] (fun i wr=> ∃k:Nat,k<=l3/\i=.int .i64 k/\Hid (∀(j:Nat) z,j<k->c.vs[j]?=some z->AQ1 c z)/\Hid (Below w.heap.size w wr)/\Hid (wr.heap[w.heap.size]?=some (.cells (clo6 a1 l1 y1 a2 l2 y2 a3 l3 y3 a4 l4 y4 a5 l5 y5 c.now) 37 (0,0)))) (fun i _=>l3 - (intOf i).toNat);case atStart=>exact⟨0,by omega,rfl,fun _ _ h=>absurd h ae,ai _ _,qN⟩
 case round=>
  obtain⟨k,hk,rfl,HQ,HB,Bk⟩:=hrel;have pk:=ck2 Bk;by_cases hlt:k<l3
  ·obtain⟨b,o,v,rfl,hb,hx,hat⟩:=bf (HR.v.below HB.out) hlt;obtain⟨va,vl,vc,hvr,z0,z2,z3,z5,c0,c1,c2,c3,c4,c5,c6,c7⟩:=aA hat;have HXv:=aa hx;have HTv:=aa hvr;clear hat hx z0 z2 z3 z5 hvr;have hvl:=HTv.1;have hvc:=qK HTv.2.1 HTv.2.2.1;have HVL:=aa hvl;clear hvl;have KV:Hid ((wr.alloc (.cells (vov v va vl vc) 118)).heap[w.heap.size]?=some (.cells (clo6 a1 l1 y1 a2 l2 y2 (some ⟨b,o,none⟩) l3 y3 a4 l4 y4 a5 l5 y5 c.now) 37 (0,0))):=(qY wr (.cells (vov v va vl vc) 118) _ (ab Bk.out)).trans Bk.out;obtain⟨GV,BV⟩:=n9;have TT:=aa (HTv.below (ai wr (.cells (vov v va vl vc) 118)));obtain⟨W,hW⟩:∃W,W=wr.alloc (.cells (vov v va vl vc) 118):=⟨_,rfl⟩;obtain⟨gb,hgb⟩:∃gb,gb=wr.heap.size:=⟨_,rfl⟩;rw[<-hW] at KV GV BV TT;rw[<-hgb] at GV;go_wp2;rw[<-hW,<-hgb];clear hW hgb HB Bk HTv c0 c1 c2 c3 c4 c5 c6 c7 hb pk;go_loopw [5] (fun i wr=> ∃kq:Nat,kq<=vl/\i=.int .i64 kq/\Hid (∀(j:Nat) t,j<kq->v.zs[j]?=some t->∃(i:Nat) (n:Nd),c.ns[i]?=some n/\n.n=t/\n.z=v.z)/\Hid (Below W.heap.size W wr)) (fun i _=>vl - (intOf i).toNat);case atStart=>exact⟨0,by omega,rfl,fun _ _ h=>absurd h ae,qI _ _⟩
   case round=>
    obtain⟨kq,hkq,rfl,HQ2,HBW⟩:=hrel;obtain⟨HB,Bk⟩:=gW;have Bv:=upK GV HBW.out;have pv:=ck7 Bv;by_cases hlt2:kq<vl
    ·obtain⟨b2,o2,t,rfl,hb,hx,hc,hsz⟩:=(TT.below HBW.out).at hlt2;have HXt:=aa hx;clear hx hsz;by_cases hnn:∃(i:Nat) (n:Nd),c.ns[i]?=some n/\n.n=t;rotate_left
     ·have HH:=aa hnn;clear hnn;obtain⟨Gk,Gv,HW,k0,k1,k2,k3,k4,k5⟩:=od;have v7:=fun q:Wd wr=>q.slot (o:=7) Gv.out rfl;obtain⟨tw,hne0⟩:=en;have HC0:=aa (fun q:Wd wr=>kN ⟨a1,l1,y1,a2,l2,y2,(some ⟨b,o,none⟩),l3,y3,a4,l4,y4,a5,l5,y5⟩ c.now c.ns t q.w (HR.n.below (HW.trans (q.b.mono HW.size))) (fun i n h1 h2=>HH.out ⟨i,n,h1,h2⟩));go_wp2_with fail;refine ag al al ?_;repeat (go_big_quiet_step (first|(go_at_call 23;exact Calls.wide (HC0.out _))|fail))
      refine wpQuiet_nil ?_;rintro _ ⟨q1,rfl⟩;have HB1:=upB HW q1.b;have Ck:=upK Gk q1.b;have Cv:=upK Gv q1.b;clear hne0 HW HB HC0 k0 k1 k2 k3 k4 k5 v7 tw Gk Gv Bk Bv pv;have HB:=HB1;clear HB1;have Bk:=Ck;clear Ck;have Bv:=Cv;clear Cv;obtain⟨Gk,Gv,HW,k0,v2,v7⟩:=lK;have hne0:=Wd.ne q1.w;go_wp2_with fail;refine ag al al ?_;repeat (go_big_quiet_step (first|fail))
      refine wpQuiet_nil ?_;rintro _ ⟨q2,rfl⟩;obtain⟨HB2,Ck⟩:=bX;have Cv:=upK Gv q2.b;clear hne0 HW HB k0 v2 v7 Gk Gv Bk Bv;have HB:=HB2;clear HB2;have Bk:=Ck;clear Ck;have Bv:=Cv;clear Cv;go_wp2;go_ret;refine ak.f (fun h=>?_) HB.out;obtain⟨i,n,h2,h3,_⟩:=(h.1 k v HXv.out) kq t HXt.out;exact HH.out ⟨i,n,h2,h3⟩
     obtain⟨j1,n,h1,h2⟩:=hnn;have hl1':j1<l1:=by have h3:=(qE.1 h1).1;omega
     obtain⟨b1,o1,n',rfl,hb1n,hn',hat⟩:=bp HR.n hl1';rw[h1] at hn';obtain rfl:=qG hn';obtain⟨na,nl,nc,hnr,z0,z1,d0,d1,d2,d3,d4,d5,d6⟩:=aH hat;have HJn:=aa h1;have HNn:=aa h2;have HCn:=aa d1;have HBn:=aa hb1n;have hj11:decide ((j1:Int)<0)=false:=a8
     clear hn' hat hnr z0 z1 d0 d1 d2 d3 d4 d5 d6 h1 h2 hb1n;have Gk:=Bk;have Gv:=Bv;have HW:=HB;obtain⟨k0,k1,k2,k3,k4,k5⟩:=sl6 Gk;have v7:=fun q:Wd wr=>q.slot (o:=7) Gv.out rfl;obtain⟨tw,hne0⟩:=en;have HC0:=aa (fun q:Wd wr=>eJ ⟨(some ⟨b1,o1,none⟩),l1,y1,a2,l2,y2,(some ⟨b,o,none⟩),l3,y3,a4,l4,y4,a5,l5,y5⟩ c.now c.ns t q.w (HR.n.below (HW.trans (q.b.mono HW.size))) HNR.out HJn.out HNn.out);go_wp2_with fail;refine ag al al ?_;repeat (go_big_quiet_step (first|(go_at_call 23;exact Calls.wide (HC0.out _))|fail))
     refine wpQuiet_nil ?_;rintro _ ⟨q1,rfl⟩;have HB1:=upB HW q1.b;have Ck:=upK Gk q1.b;have Cv:=upK Gv q1.b;clear hne0 HW HB HC0 k0 k1 k2 k3 k4 k5 v7 tw Gk Gv Bk Bv pv hb hc;have HB:=HB1;clear HB1;have Bk:=Ck;clear Ck;have Bv:=Cv;clear Cv;have HBW1:=upB HBW q1.b;have hbn:=qO HBn.out HB.size;have n1:=(ah HB.out HBn.out).trans HCn.out;clear HBW;by_cases hz:n.z=v.z
     ·have q8:=ba hz;have HZ:=aa hz;clear hz;obtain⟨Gk,Gv,HW,k0,v2,v7⟩:=lK;have nw:=fun q:Wd q1.w=>(q.cell hbn).trans n1;have hne0:=Wd.ne q1.w;go_wp2_with fail;refine ag al al ?_;repeat (go_big_quiet_step (first|fail))
      refine wpQuiet_nil ?_;rintro _ ⟨q2,rfl⟩;obtain⟨HB2,Ck⟩:=bX;have Cv:=upK Gv q2.b;clear hne0 HW HB k0 v2 v7 nw Gk Gv Bk Bv hbn n1;have HB:=HB2;clear HB2;have Bk:=Ck;clear Ck;have Bv:=Cv;clear Cv;clear q8;go_wp2_with fail;refine⟨⟨kq+1,by omega,by go_num,fun j s hj hs=>?_,HBW1.trans (q2.b.mono HBW1.size)⟩,by simp[intOf];omega⟩;by_cases e:j=kq
      ·subst e;rw[HXt.out] at hs;obtain rfl:=qG hs;exact⟨j1,n,HJn.out,HNn.out,HZ.out⟩
      ·exact HQ2.out j s ae hs
     ·have q8:=bB hz;have HZ:=aa hz;clear hz;obtain⟨Gk,Gv,HW,k0,v2,v7⟩:=lK;have nw:=fun q:Wd q1.w=>(q.cell hbn).trans n1;have hne0:=Wd.ne q1.w;go_wp2_with fail;refine ag al al ?_;repeat (go_big_quiet_step (first|fail))
      refine wpQuiet_nil ?_;rintro _ ⟨q2,rfl⟩;obtain⟨HB2,Ck⟩:=bX;have Cv:=upK Gv q2.b;clear hne0 HW HB k0 v2 v7 nw Gk Gv Bk Bv hbn n1;have HB:=HB2;clear HB2;have Bk:=Ck;clear Ck;have Bv:=Cv;clear Cv;go_wp2;go_ret;refine ak.f (fun h=>?_) HB.out;obtain⟨i,m2,e1,e2,e3⟩:=(h.1 k v HXv.out) kq t HXt.out;obtain⟨_,rfl⟩:=HNR.inj e1 HJn.out (e2.trans HNn.symm);exact HZ.out e3
    ·exact oX
  ·obtain rfl:l3=k:=ae
   have HQ1:Hid (∀(j:Nat) z,c.vs[j]?=some z->AQ1 c z):=fun j z hz=>HQ.out j z bC hz;clear HQ;go_wp2;clear pk;go_loopw [7] (fun i wr=> ∃k:Nat,k<=l1/\i=.int .i64 k/\Hid (∀(j:Nat) n,j<k->c.ns[j]?=some n->onOf n.n c.vs<=n.s)/\Hid (Below w.heap.size w wr)/\Hid (wr.heap[w.heap.size]?=some (.cells (clo6 a1 l1 y1 a2 l2 y2 a3 l3 y3 a4 l4 y4 a5 l5 y5 c.now) 37 (0,0)))) (fun i _=>l1 - (intOf i).toNat);case atStart=>exact⟨0,by omega,rfl,fun _ _ h=>absurd h ae,HB.out,Bk.out⟩
   case round=>
    obtain⟨k,hk,rfl,HQ,HB,Bk⟩:=hrel;have pk:=ck0 Bk;by_cases hlt:k<l1
    ·obtain⟨b,o,n,rfl,hb,hx,hat⟩:=bp (HR.n.below HB.out) hlt;obtain⟨va,vl,vc,hvr,z0,z1,c0,c1,c2,c3,c4,c5,c6⟩:=aH hat;have HXn:=aa hx;clear hat hx z0 z1 hvr;have Gk:=Bk;have HW:=HB;obtain⟨k0,k1,k2,k3,k4,k5⟩:=sl6 Gk;have n0w:=fun q:Wd wr=>(q.cell hb).trans c0;have n2w:=fun q:Wd wr=>(q.cell hb).trans c3;have hne0:=Wd.ne wr;have HC0:=aa (fun q:Wd wr=>nD ⟨(some ⟨b,o,none⟩),l1,y1,a2,l2,y2,a3,l3,y3,a4,l4,y4,a5,l5,y5⟩ c.now c.vs n.n q.w (HR.v.below (HW.trans (q.b.mono HW.size))) HL3.out);go_wp2_with fail;refine ag al al ?_;repeat (go_big_quiet_step (first|(go_at_call 115;exact Calls.wide (HC0.out _))|fail))
     refine wpQuiet_nil ?_;rintro _ ⟨q1,rfl⟩;have HB1:=upB HW q1.b;have Ck:=upK Gk q1.b;clear hne0 HW HB HC0 k0 k1 k2 k3 k4 k5 n0w n2w Gk Bk pk c0 c1 c2 c3 c4 c5 c6 hb;have HB:=HB1;clear HB1;have Bk:=Ck;clear Ck;by_cases hq:onOf n.n c.vs<=n.s
     ·exact oP
     ·have HCq:=aa hq;go_wp2;go_ret;exact ak.f (fun h=>by have h1:onOf n.n c.vs<=n.s:=h.2 k n HXn.out;have h2:=HCq.out;omega) HB.out
    ·exact oC

def gk (W:World):Fact:=fun v w=> ∃g,v=.pointer (some ⟨g,0,none⟩)/\W.heap.size<=g/\w.heap[g]?=some (.cells #[.string ⟨#[]⟩,.string ⟨#[]⟩,.int .i64 0,.int .i64 0,.int .i64 0,.bool false,.slice none 0 0] 72 (0,0))
theorem gk.mono (W:World):Fact.b8 (gk W):=by
 rintro v w w' ⟨g,h1,h2,h3⟩ hb;exact⟨g,h1,h2,(hb.block g (ab h3)).trans h3⟩
theorem pQ {w:World} {g:Nat} {v0 v1 v2 v3 v4 v5 v6:Value} (h:w.heap[g]?=some (.cells #[.string ⟨#[]⟩,.string ⟨#[]⟩,.int .i64 0,.int .i64 0,.int .i64 0,.bool false,.slice none 0 0] 72 (0,0))):
  (((((((w.setCell ⟨g,0,none⟩ (v0)).setCell ⟨g,1,none⟩ (v1)).setCell ⟨g,2,none⟩ (v2)).setCell ⟨g,3,none⟩ (v3)).setCell ⟨g,4,none⟩ (v4)).setCell ⟨g,5,none⟩ (v5)).setCell ⟨g,6,none⟩ (v6)).heap[g]?=some (.cells #[v0,v1,v2,v3,v4,v5,v6] 72 (0,0)):=by
 have:=aC (i:=6) (aC (i:=5) (aC (i:=4) (aC (i:=3) (aC (i:=2) (aC (i:=1) (aC (i:=0) h v0) v1) v2) v3) v4) v5) v6;simpa using this
theorem iT {W w:World} {g:Nat} {v0 v1 v2 v3 v4 v5 v6:Value} (hg:W.heap.size<=g) (h:Below W.heap.size W w):Below W.heap.size W (((((((w.setCell ⟨g,0,none⟩ (v0)).setCell ⟨g,1,none⟩ (v1)).setCell ⟨g,2,none⟩ (v2)).setCell ⟨g,3,none⟩ (v3)).setCell ⟨g,4,none⟩ (v4)).setCell ⟨g,5,none⟩ (v5)).setCell ⟨g,6,none⟩ (v6)):=
 af hg (af hg (af hg (af hg (af hg (af hg (af hg h))))))
def p_ (c:Cl) (p:Pd) (n:Nd):Prop:=∀(j:Nat) t,p.zs[j]?=some t->∃v,bh c t v/\InL n.zs v.n

theorem gJ (d:Ad) (c:Cl) (p:Pd) (pa:Option Addr) (pl pc:Nat) (j1:Nat) (n:Nd) (w:World) (hr:aK w d c.raw) (hn:aD Nd.n c.ns) (hx:aD Xd.n c.xs) (hv:aD Vd.n c.vs) (hne:∀(j:Nat) v,c.vs[j]?=some v->¬v.n=⟨#[]⟩) (hp:an w pa pl pc p.zs) (hj1:c.ns[j1]?=some n) (hnn:n.n=p.d) (hbd:∀(j:Nat) t,p.zs[j]?=some t->∃v,bh c t v):
  Calls Tryz.prog 117 #[.agg #[.slice d.a1 d.l1 d.c1,.slice d.a2 d.l2 d.c2,.slice d.a3 d.l3 d.c3,.slice d.a4 d.l4 d.c4,.slice d.a5 d.l5 d.c5,.int .i64 c.now],.agg #[.string p.n,.int .i64 p.c,.string p.z,.slice pa pl pc,.string p.d,.int .i64 p.p]] w (ak (p_ c p n) w):=by
 obtain⟨a1,l1,y1,a2,l2,y2,a3,l3,y3,a4,l4,y4,a5,l5,y5⟩:=d;dsimp only;have HR:=aa hr;have hl1:c.ns.length=l1:=j8
 have hl3:c.vs.length=l3:=ly
 clear hr;have HNR:=aa hn;obtain⟨HX,HV,HNE⟩:=ei;have HP:=aa hp;have HBD:=aa hbd;have hlc:=qK hp.2.1 hp.2.2.1;have hzl:=hp.1;have hl1':j1<l1:=by have h3:=(qE.1 hj1).1;omega
 obtain⟨b1,o1,n',rfl,hb1n,hn',hat⟩:=bp HR.n hl1';rw[hj1] at hn';obtain rfl:=qG hn';obtain⟨na,nl,nc,hnr,z0,z1,d0,d1,d2,d3,d4,d5,d6⟩:=aH hat;have HJn:=aa hj1;have HNn:=aa hnn;have HTn:=aa hnr;have HBn:=aa hb1n;have HD:Hid (w.cell? ⟨b1,o1+j1*7,none⟩=some (.string n.n)/\w.cell? ⟨b1,o1+j1*7+1,none⟩=some (.string n.z)/\w.cell? ⟨b1,o1+j1*7+2,none⟩=some (.int .i64 n.c)/\w.cell? ⟨b1,o1+j1*7+3,none⟩=some (.int .i64 n.s)/\w.cell? ⟨b1,o1+j1*7+4,none⟩=some (.int .i64 n.u)/\w.cell? ⟨b1,o1+j1*7+5,none⟩=some (.bool n.d)/\w.cell? ⟨b1,o1+j1*7+6,none⟩=some (.slice na nl nc)):=⟨d0,d1,d2,d3,d4,d5,d6⟩;clear hn' hat hnr z0 z1 d0 d1 d2 d3 d4 d5 d6 hj1 hnn hb1n hn hx hv hne hp hbd;obtain⟨W,hW0⟩:∃W,W=(w.alloc (.cells (clo6 (some ⟨b1,o1,none⟩) l1 y1 a2 l2 y2 a3 l3 y3 a4 l4 y4 a5 l5 y5 c.now) 37)).alloc (.cells (pov p pa pl pc) 65):=⟨_,rfl⟩;have GK:Hid (W.heap[w.heap.size]?=some (.cells (clo6 (some ⟨b1,o1,none⟩) l1 y1 a2 l2 y2 a3 l3 y3 a4 l4 y4 a5 l5 y5 c.now) 37 (0,0))):=by rw[hW0];exact cH _ _ _
 have GP:Hid (W.heap[w.heap.size+1]?=some (.cells (pov p pa pl pc) 65 (0,0))):=by rw[hW0];exact bs _ _ _
 have BW:Hid (Below w.heap.size w W):=by rw[hW0];exact aF _ _ _
 go_enter Tryz.func117,Tryz.ntmps117;go_wp2_with fail;rw[<-hW0];clear hW0;rename_i K0 hK0;refine bq al rfl rfl al ?_;refine' Grow.aP _ rfl ?_ ?_;rotate_left 1
 ·refine Obl.plain rfl ?_;intro ac wg K hsz hW hf hK;clear hsz;have e2:=hf 2 aj;simp[av,qS] at e2;clear hf;exact cM
 refine' Grow.aP _ rfl ?_ ?_;rotate_left 1
 ·refine Obl.plain rfl ?_;intro ac wg K hsz hW hf hK;clear hsz;have e7:=hf 7 aj;simp[av,qS] at e7;exact mg
 refine' Grow.aP _ rfl ?_ ?_;rotate_left 1
 ·refine Obl.plain rfl ?_;intro ac wg K hsz hW hf hK;clear hsz;have e2:=hf 2 aj;simp[av,qS] at e2;exact mg
 refine' Grow.aP _ rfl ?_ ?_;rotate_left 1
 ·refine Obl.plain rfl ?_;intro ac wg K hsz hW hf hK;clear hsz;have e3:=hf 3 aj;simp[av,qS] at e3;clear hf;exact cM
 refine' Grow.aP _ rfl ?_ ?_;rotate_left 1
 ·refine Obl.plain rfl ?_;intro ac wg K hsz hW hf hK;clear hsz;have e10:=hf 10 aj;simp[av,qS] at e10;clear hf;obtain⟨r0,r1,r2,r3,r4,r5⟩:=cs6 ((hW.block _ (ab GP.out)).trans GP.out);exact cM
 refine' Grow.aP (.int .i64 j1) rfl ?_ ?_
 ·refine Obl.plain rfl ?_;intro ac wg K hsz hW hf hK;clear hsz;have e9:=hf 9 aj;simp[av,qS] at e9;have e11:=hf 11 aj;simp[av,qS] at e11;clear hf;go_simp;refine (eJ ⟨(some ⟨b1,o1,none⟩),l1,y1,a2,l2,y2,a3,l3,y3,a4,l4,y4,a5,l5,y5⟩ c.now c.ns p.d _ (HR.n.below (BW.trans (hW.mono BW.size))) HNR.out HJn.out HNn.out).mono ?_;rintro e w5 ⟨rfl,hb5⟩;exact hK _ _ hb5 rfl
 refine' Grow.aP _ rfl ?_ ?_;rotate_left 1
 ·refine Obl.plain rfl ?_;intro ac wg K hsz hW hf hK;clear hsz;have e8:=hf 8 aj;simp[av,qS] at e8;have e12:=hf 12 aj;simp[av,qS] at e12;clear hf;exact cM
 refine' Grow.aP _ rfl ?_ ?_;rotate_left 1
 ·refine Obl.plain rfl ?_;intro ac wg K hsz hW hf hK;clear hsz;have e13:=hf 13 aj;simp[av,qS] at e13;clear hf;have hBg:=BW.trans (hW.mono BW.size);obtain⟨d0,d1,d2,d3,d4,d5,d6⟩:=HD.out;have g0:=(ah hBg HBn.out).trans d0;have g1:=(ah hBg HBn.out).trans d1;have g2:=(ah hBg HBn.out).trans d2;have g3:=(ah hBg HBn.out).trans d3;have g4:=(ah hBg HBn.out).trans d4;have g5:=(ah hBg HBn.out).trans d5;have g6:=(ah hBg HBn.out).trans d6;clear d0 d1 d2 d3 d4 d5 d6 hBg;exact cM
 refine Grow.step (gk W) rfl (gk.mono W) ?_ ?_
 ·exact kj
 refine Grow.done ?_;intro q wz hW hf;simp only[List.forall_mem_cons] at hf;obtain⟨⟨g5,h5,hbW,hgb⟩,h14,-⟩:=hf;have r0:=ck0 hgb;have r1:=ck1 hgb;have r2:=ck2 hgb;have r3:=ck3 hgb;have r4:=ck4 hgb;have r5:=ck5 hgb;have r6:=ck6 hgb;have f0:=au hgb 0;have f1:=au hgb 1;have f2:=au hgb 2;have f3:=au hgb 3;have f4:=au hgb 4;have f5:=au hgb 5;have f6:=au hgb 6;have GN:=aa (pQ (v0:=.string n.n) (v1:=.string n.z) (v2:=.int .i64 n.c) (v3:=.int .i64 n.s) (v4:=.int .i64 n.u) (v5:=.bool n.d) (v6:=.slice na nl nc) hgb);have BN:=aa (iT (v0:=.string n.n) (v1:=.string n.z) (v2:=.int .i64 n.c) (v3:=.int .i64 n.s) (v4:=.int .i64 n.u) (v5:=.bool n.d) (v6:=.slice na nl nc) hbW hW);clear hgb hW;intro K hK;rw[if_pos (by rfl)];simp only[aW,List.foldr,Act.put,List.setIfInBounds_toArray,List.set_cons_zero,List.set_cons_succ,h5,h14];simp only[List.getLast];go_simp;refine hK _ _ ?_;refine hK0 _ _ ?_;clear hK hK0 K K0;generalize (((((((wz.setCell ⟨g5,0,none⟩ (.string n.n)).setCell ⟨g5,1,none⟩ (.string n.z)).setCell ⟨g5,2,none⟩ (.int .i64 n.c)).setCell ⟨g5,3,none⟩ (.int .i64 n.s)).setCell ⟨g5,4,none⟩ (.int .i64 n.u)).setCell ⟨g5,5,none⟩ (.bool n.d)).setCell ⟨g5,6,none⟩ (.slice na nl nc))=Y at GN BN ⊢;clear r0 f0 r1 f1 r2 f2 r3 f3 r4 f4 r5 f5 r6 f6;have KV:=upK GK BN.out;have PVv:=upK GP BN.out;have BV:=aa (BW.trans (BN.mono BW.size));clear GK GP BW BN hbW;have pp:=ck3 PVv;go_wp2;clear pp;go_loopw [6] (fun i wr=> ∃k:Nat,k<=pl/\i=.int .i64 k/\Hid (∀(j:Nat) t,j<k->p.zs[j]?=some t->∃v,bh c t v/\InL n.zs v.n)/\Hid (Below Y.heap.size Y wr)) (fun i _=>pl - (intOf i).toNat);case atStart=>exact⟨0,by omega,rfl,fun _ _ h=>absurd h ae,qI _ _⟩
 case round=>
  obtain⟨k,hk,rfl,HQ,HBY⟩:=hrel;have HB:=aa (BV.trans (HBY.mono BV.size));have Bk:=upK KV HBY.out;have Bp:=upK PVv HBY.out;have Bn:=upK GN HBY.out;have pp:=ck3 Bp;by_cases hlt:k<pl
  ·obtain⟨b,o,t,rfl,hb,hxt,hc,hsz⟩:=(HP.below HB.out).at hlt;have HXt:=aa hxt;clear hxt hsz;obtain⟨v,hbd⟩:=HBD.out k t HXt.out;obtain⟨j3,hj3⟩:=hbd.at;have hl3':j3<l3:=by have h1:=(qE.1 hj3).1;omega
   obtain⟨b3,o3,v',rfl,hb3,hv',hat⟩:=bf HR.v hl3';rw[hj3] at hv';obtain rfl:=qG hv';obtain⟨xa,xl,xc,hvr,z0,z2,z3,z5,d0,d1,d2,d3,d4,d5,d6,d7⟩:=aA hat;have HJ:=aa hj3;have HDb:=aa hbd;have hbv:=qO hb3 HB.size;have v0:=(ah HB.out hb3).trans d0;clear hv' hat hvr z0 z2 z3 z5 d0 d1 d2 d3 d4 d5 d6 d7 hj3 hbd hb3;by_cases hin:InL n.zs v.n
   ·have HIn:=aa hin;clear hin;have Gk:=Bk;have Gp:=Bp;have Gn:=Bn;have HW:=HB;obtain⟨k0,k1,k2,k3,k4,k5⟩:=sl6 Gk;obtain⟨p3,n6,tw,vw,hne0,HC0⟩:=om;have HC1:=aa (fun q:Wd wr=>(b_ na nl nc n.zs v.n q.w (HTn.below (HW.trans (q.b.mono HW.size)))).mono (fun _ _ h=>ak.yes h HIn.out));go_wp2_with fail;refine ag al al ?_;repeat (go_big_quiet_step (first|(go_at_call 113;exact Calls.wide (HC0.out _))|(go_at_call 116;exact Calls.wide (HC1.out _))|fail))
    refine wpQuiet_nil ?_;rintro _ ⟨q2,rfl⟩;have HB1:=upB HW q2.b;have Ck:=upK Gk q2.b;have Cp:=upK Gp q2.b;have Cn:=upK Gn q2.b;clear hne0 HW HB HC0 HC1 k0 k1 k2 k3 k4 k5 p3 n6 tw vw Gk Gp Gn Bk Bp Bn pp hb hc hbv v0;have HB:=HB1;clear HB1;have Bk:=Ck;clear Ck;have Bp:=Cp;clear Cp;have Bn:=Cn;clear Cn;go_wp2_with fail;refine⟨⟨k+1,by omega,by go_num,fun j s hj hs=>?_,HBY.trans (q2.b.mono HBY.size)⟩,by simp[intOf];omega⟩;by_cases e:j=k
    ·subst e;rw[HXt.out] at hs;obtain rfl:=qG hs;exact⟨v,HDb.out,HIn.out⟩
    ·exact HQ.out j s ae hs
   ·have HIn:=aa hin;clear hin;have Gk:=Bk;have Gp:=Bp;have Gn:=Bn;have HW:=HB;obtain⟨k0,k1,k2,k3,k4,k5⟩:=sl6 Gk;obtain⟨p3,n6,tw,vw,hne0,HC0⟩:=om;have HC1:=aa (fun q:Wd wr=>(b_ na nl nc n.zs v.n q.w (HTn.below (HW.trans (q.b.mono HW.size)))).mono (fun _ _ h=>ak.no h HIn.out));go_wp2_with fail;refine ag al al ?_;repeat (go_big_quiet_step (first|(go_at_call 113;exact Calls.wide (HC0.out _))|(go_at_call 116;exact Calls.wide (HC1.out _))|fail))
    refine wpQuiet_nil ?_;rintro _ ⟨q2,rfl⟩;have HB1:=upB HW q2.b;have Ck:=upK Gk q2.b;have Cp:=upK Gp q2.b;have Cn:=upK Gn q2.b;clear hne0 HW HB HC0 HC1 k0 k1 k2 k3 k4 k5 p3 n6 tw vw Gk Gp Gn Bk Bp Bn pp hb hc hbv v0;have HB:=HB1;clear HB1;have Bk:=Ck;clear Ck;have Bp:=Cp;clear Cp;have Bn:=Cn;clear Cn;go_wp2;go_ret;refine ak.f (fun h=>?_) HB.out;obtain⟨v2,e1,e2⟩:=h k t HXt.out;obtain rfl:=bh.inj HX.out HV.out HDb.out e1;exact HIn.out e2
  ·exact oz

theorem fM (d:Ad) (c:Cl) (w:World) (hr:aK w d c.raw) (hn:aD Nd.n c.ns) (hx:aD Xd.n c.xs) (hv:aD Vd.n c.vs) (hne:∀(j:Nat) v,c.vs[j]?=some v->¬v.n=⟨#[]⟩) (hrun:∀(j:Nat) p,c.ps[j]?=some p->p.p=2->(∃(i:Nat) (n:Nd),c.ns[i]?=some n/\n.n=p.d)/\∀(j:Nat) t,p.zs[j]?=some t->∃v,bh c t v):
  Calls Tryz.prog 64 #[.agg #[.slice d.a1 d.l1 d.c1,.slice d.a2 d.l2 d.c2,.slice d.a3 d.l3 d.c3,.slice d.a4 d.l4 d.c4,.slice d.a5 d.l5 d.c5,.int .i64 c.now]] w (ak (fi c) w):=by
 obtain⟨a1,l1,y1,a2,l2,y2,a3,l3,y3,a4,l4,y4,a5,l5,y5⟩:=d;dsimp only;obtain⟨HR,hl1,hm1,hl3⟩:=lH;obtain⟨hl5,hm5⟩:=hE;clear hr;have HNR:=aa hn;obtain⟨HX,HV,HNE⟩:=ei;have HRun:=aa hrun;clear hn hx hv hne hrun;go_enter Tryz.func64,Tryz.ntmps64;go_wp2;go_loopw [3] (fun i wr=> ∃k:Nat,k<=l1/\i=.int .i64 k/\Hid (∀(j:Nat) z,j<k->c.ns[j]?=some z->ld c z)/\Hid (Below w.heap.size w wr)/\Hid (wr.heap[w.heap.size]?=some (.cells (clo6 a1 l1 y1 a2 l2 y2 a3 l3 y3 a4 l4 y4 a5 l5 y5 c.now) 37 (0,0)))) (fun i _=>l1 - (intOf i).toNat);case atStart=>exact⟨0,by omega,rfl,fun _ _ h=>absurd h ae,ai _ _,qN⟩
 case round=>
  obtain⟨k,hk,rfl,HQ,HB,Bk⟩:=hrel;have pk:=ck0 Bk;by_cases hlt:k<l1
  ·obtain⟨b,o,n,rfl,hb,hx,hat⟩:=bp (HR.n.below HB.out) hlt;obtain⟨va,vl,vc,hvr,z0,z1,c0,c1,c2,c3,c4,c5,c6⟩:=aH hat;have HXn:=aa hx;have HTn:=aa hvr;clear hat hx z0 z1 hvr;have hvl:=HTn.1;have hvc:=qK HTn.2.1 HTn.2.2.1;have HVL:=aa hvl;clear hvl;have KV:Hid ((wr.alloc (.cells #[.string n.n,.string n.z,.int .i64 n.c,.int .i64 n.s,.int .i64 n.u,.bool n.d,.slice va vl vc] 72)).heap[w.heap.size]?=some (.cells (clo6 (some ⟨b,o,none⟩) l1 y1 a2 l2 y2 a3 l3 y3 a4 l4 y4 a5 l5 y5 c.now) 37 (0,0))):=(qY wr (.cells #[.string n.n,.string n.z,.int .i64 n.c,.int .i64 n.s,.int .i64 n.u,.bool n.d,.slice va vl vc] 72) _ (ab Bk.out)).trans Bk.out;have GV:Hid ((wr.alloc (.cells #[.string n.n,.string n.z,.int .i64 n.c,.int .i64 n.s,.int .i64 n.u,.bool n.d,.slice va vl vc] 72)).heap[wr.heap.size]?=some (.cells #[.string n.n,.string n.z,.int .i64 n.c,.int .i64 n.s,.int .i64 n.u,.bool n.d,.slice va vl vc] 72 (0,0))):=qN;have BV:=aa (HB.trans ((ai wr (.cells #[.string n.n,.string n.z,.int .i64 n.c,.int .i64 n.s,.int .i64 n.u,.bool n.d,.slice va vl vc] 72)).mono HB.size));have TT:=aa (HTn.below (ai wr (.cells #[.string n.n,.string n.z,.int .i64 n.c,.int .i64 n.s,.int .i64 n.u,.bool n.d,.slice va vl vc] 72)));obtain⟨W,hW⟩:∃W,W=wr.alloc (.cells #[.string n.n,.string n.z,.int .i64 n.c,.int .i64 n.s,.int .i64 n.u,.bool n.d,.slice va vl vc] 72):=⟨_,rfl⟩;obtain⟨gb,hgb⟩:∃gb,gb=wr.heap.size:=⟨_,rfl⟩;rw[<-hW] at KV GV BV TT;rw[<-hgb] at GV;go_wp2;rw[<-hW,<-hgb];clear hW hgb HB Bk HTn c0 c1 c2 c3 c4 c5 c6 hb pk;go_loopw [5] (fun i wr=> ∃kq:Nat,kq<=vl/\i=.int .i64 kq/\Hid (∀(j:Nat) t,j<kq->n.zs[j]?=some t->∃(i:Nat) (v:Vd),c.vs[i]?=some v/\v.n=t/\(n.d=true\/InL v.zs n.n))/\Hid (Below W.heap.size W wr)) (fun i _=>vl - (intOf i).toNat);case atStart=>exact⟨0,by omega,rfl,fun _ _ h=>absurd h ae,qI _ _⟩
   case round=>
    obtain⟨kq,hkq,rfl,HQ2,HBW⟩:=hrel;obtain⟨HB,Bk⟩:=gW;have Bv:=upK GV HBW.out;have pv:=ck6 Bv;by_cases hlt2:kq<vl
    ·obtain⟨b2,o2,t,rfl,hb,hx,hc,hsz⟩:=(TT.below HBW.out).at hlt2;have HXt:=aa hx;clear hx hsz;by_cases hnn:∃(i:Nat) (v:Vd),c.vs[i]?=some v/\v.n=t;rotate_left
     ·have HH:=aa hnn;clear hnn;obtain⟨Gk,Gv,HW,k0,k1,k2,k3,k4,k5⟩:=od;have v6:=fun q:Wd wr=>q.slot (o:=6) Gv.out rfl;obtain⟨tw,hne0⟩:=en;have HC0:=aa (fun q:Wd wr=>fq ⟨(some ⟨b,o,none⟩),l1,y1,a2,l2,y2,a3,l3,y3,a4,l4,y4,a5,l5,y5⟩ c.now c.vs t q.w (HR.v.below (HW.trans (q.b.mono HW.size))) (fun i v h1 h2=>HH.out ⟨i,v,h1,h2⟩));go_wp2_with fail;refine ag al al ?_;repeat (go_big_quiet_step (first|(go_at_call 112;exact Calls.wide (HC0.out _))|fail))
      refine wpQuiet_nil ?_;rintro _ ⟨q1,rfl⟩;have HB1:=upB HW q1.b;have Ck:=upK Gk q1.b;have Cv:=upK Gv q1.b;clear hne0 HW HB HC0 k0 k1 k2 k3 k4 k5 v6 tw Gk Gv Bk Bv pv;have HB:=HB1;clear HB1;have Bk:=Ck;clear Ck;have Bv:=Cv;clear Cv;obtain⟨Gk,Gv,HW,k2,v0,v2,v5,v6⟩:=nF;have hne0:=Wd.ne q1.w;go_wp2_with fail;refine ag al al ?_;repeat (go_big_quiet_step (first|fail))
      refine wpQuiet_nil ?_;rintro _ ⟨q2,rfl⟩;obtain⟨HB2,Ck⟩:=bX;have Cv:=upK Gv q2.b;clear hne0 HW HB k2 v0 v2 v5 v6 Gk Gv Bk Bv;have HB:=HB2;clear HB2;have Bk:=Ck;clear Ck;have Bv:=Cv;clear Cv;go_wp2;go_ret;refine ak.f (fun h=>?_) HB.out;obtain⟨i,v,h2,h3,_⟩:=(h.1 k n HXn.out) kq t HXt.out;exact HH.out ⟨i,v,h2,h3⟩
     obtain⟨j3,v,h1,h2⟩:=hnn;have hl3':j3<l3:=by have h3:=(qE.1 h1).1;omega
     obtain⟨b3,o3,v',rfl,hb3,hv',hat⟩:=bf HR.v hl3';rw[h1] at hv';obtain rfl:=qG hv';obtain⟨xa,xl,xc,hvr,z0,z2,z3,z5,d0,d1,d2,d3,d4,d5,d6,d7⟩:=aA hat;have HJ:=aa h1;have HNv:=aa h2;have HTx:=aa hvr;have HC7:=aa d7;have HB3:=aa hb3;have hj31:decide ((j3:Int)<0)=false:=a8
     clear hv' hat hvr z0 z2 z3 z5 d0 d1 d2 d3 d4 d5 d6 d7 h1 h2 hb3;have Gk:=Bk;have Gv:=Bv;have HW:=HB;obtain⟨k0,k1,k2,k3,k4,k5⟩:=sl6 Gk;have v6:=fun q:Wd wr=>q.slot (o:=6) Gv.out rfl;obtain⟨tw,hne0⟩:=en;have HC0:=aa (fun q:Wd wr=>gD ⟨(some ⟨b,o,none⟩),l1,y1,a2,l2,y2,(some ⟨b3,o3,none⟩),l3,y3,a4,l4,y4,a5,l5,y5⟩ c.now c.vs t q.w (HR.v.below (HW.trans (q.b.mono HW.size))) HV.out HJ.out HNv.out);go_wp2_with fail;refine ag al al ?_;repeat (go_big_quiet_step (first|(go_at_call 112;exact Calls.wide (HC0.out _))|fail))
     refine wpQuiet_nil ?_;rintro _ ⟨q1,rfl⟩;have HB1:=upB HW q1.b;have Ck:=upK Gk q1.b;have Cv:=upK Gv q1.b;clear hne0 HW HB HC0 k0 k1 k2 k3 k4 k5 v6 tw Gk Gv Bk Bv pv hb hc;have HB:=HB1;clear HB1;have Bk:=Ck;clear Ck;have Bv:=Cv;clear Cv;have HBW1:=upB HBW q1.b;have hbv:=qO HB3.out HB.size;have v7:=(ah HB.out HB3.out).trans HC7.out;clear HBW;rcases rz n.d with hd|hd
     ·have HDd:=aa hd;clear hd;have Bv2:Hid (q1.w.heap[gb]?=some (.cells #[.string n.n,.string n.z,.int .i64 n.c,.int .i64 n.s,.int .i64 n.u,.bool true,.slice (some ⟨b2,o2,none⟩) vl vc] 72 (0,0))):=by have:=Bv.out;rw[HDd.out] at this;exact this
      clear Bv;have Bv:=Bv2;clear Bv2;obtain⟨Gk,Gv,HW,k2,v0,v2,v5,v6⟩:=nF;have vw:=fun q:Wd q1.w=>(q.cell hbv).trans v7;have hne0:=Wd.ne q1.w;go_wp2_with fail;refine ag al al ?_;repeat (go_big_quiet_step (first|fail))
      refine wpQuiet_nil ?_;rintro _ ⟨q2,rfl⟩;obtain⟨HB2,Ck⟩:=bX;have Cv:=upK Gv q2.b;clear hne0 HW HB k2 v0 v2 v5 v6 vw Gk Gv Bk Bv hbv v7;have HB:=HB2;clear HB2;have Bk:=Ck;clear Ck;have Bv:=Cv;clear Cv;go_wp2_with fail;refine⟨⟨kq+1,by omega,by go_num,fun j s hj hs=>?_,HBW1.trans (q2.b.mono HBW1.size)⟩,by simp[intOf];omega⟩;by_cases e:j=kq
      ·subst e;rw[HXt.out] at hs;obtain rfl:=qG hs;exact⟨j3,v,HJ.out,HNv.out,.inl HDd.out⟩
      ·exact HQ2.out j s ae hs
     ·have HDd:=aa hd;clear hd;have Bv2:Hid (q1.w.heap[gb]?=some (.cells #[.string n.n,.string n.z,.int .i64 n.c,.int .i64 n.s,.int .i64 n.u,.bool false,.slice (some ⟨b2,o2,none⟩) vl vc] 72 (0,0))):=by have:=Bv.out;rw[HDd.out] at this;exact this
      clear Bv;have Bv:=Bv2;clear Bv2;by_cases hin:InL v.zs n.n
      ·have HIn:=aa hin;clear hin;obtain⟨Gk,Gv,HW,k2,v0,v2,v5,v6⟩:=nF;have vw:=fun q:Wd q1.w=>(q.cell hbv).trans v7;have hne0:=Wd.ne q1.w;have HC0:=aa (fun q:Wd q1.w=>(b_ xa xl xc v.zs n.n q.w (HTx.below (HW.trans (q.b.mono HW.size)))).mono (fun _ _ h=>ak.yes h HIn.out));go_wp2_with fail;refine ag al al ?_;repeat (go_big_quiet_step (first|(go_at_call 116;exact Calls.wide (HC0.out _))|fail))
       refine wpQuiet_nil ?_;rintro _ ⟨q2,rfl⟩;obtain⟨HB2,Ck⟩:=bX;have Cv:=upK Gv q2.b;clear hne0 HW HB HC0 k2 v0 v2 v5 v6 vw Gk Gv Bk Bv hbv v7;have HB:=HB2;clear HB2;have Bk:=Ck;clear Ck;have Bv:=Cv;clear Cv;go_wp2_with fail;refine⟨⟨kq+1,by omega,by go_num,fun j s hj hs=>?_,HBW1.trans (q2.b.mono HBW1.size)⟩,by simp[intOf];omega⟩;by_cases e:j=kq
       ·subst e;rw[HXt.out] at hs;obtain rfl:=qG hs;exact⟨j3,v,HJ.out,HNv.out,.inr HIn.out⟩
       ·exact HQ2.out j s ae hs
      ·have HIn:=aa hin;clear hin;obtain⟨Gk,Gv,HW,k2,v0,v2,v5,v6⟩:=nF;have vw:=fun q:Wd q1.w=>(q.cell hbv).trans v7;have hne0:=Wd.ne q1.w;have HC0:=aa (fun q:Wd q1.w=>(b_ xa xl xc v.zs n.n q.w (HTx.below (HW.trans (q.b.mono HW.size)))).mono (fun _ _ h=>ak.no h HIn.out));go_wp2_with fail;refine ag al al ?_;repeat (go_big_quiet_step (first|(go_at_call 116;exact Calls.wide (HC0.out _))|fail))
       refine wpQuiet_nil ?_;rintro _ ⟨q2,rfl⟩;obtain⟨HB2,Ck⟩:=bX;have Cv:=upK Gv q2.b;clear hne0 HW HB HC0 k2 v0 v2 v5 v6 vw Gk Gv Bk Bv hbv v7;have HB:=HB2;clear HB2;have Bk:=Ck;clear Ck;have Bv:=Cv;clear Cv;go_wp2;go_ret;refine ak.f (fun h=>?_) HB.out;obtain⟨i,v2,e1,e2,e3⟩:=(h.1 k n HXn.out) kq t HXt.out;obtain⟨_,rfl⟩:=HV.inj e1 HJ.out (e2.trans HNv.symm);rcases e3 with e3|e3
       ·rw[HDd.out] at e3;cases e3
       ·exact HIn.out e3
    ·obtain rfl:vl=kq:=ae
     go_wp2_with fail;refine⟨⟨k+1,by omega,by go_num,fun j z hj hz=>?_,HB.out,Bk.out⟩,by simp[intOf];omega⟩;by_cases e:j=k
     ·subst e;rw[HXn.out] at hz;exact mn
     ·exact HQ.out j z ae hz
  ·obtain rfl:l1=k:=ae
   have HQ1:Hid (∀(j:Nat) z,c.ns[j]?=some z->ld c z):=fun j z hz=>HQ.out j z bC hz;clear HQ;go_wp2;clear pk;go_loopw [7] (fun i wr=> ∃k:Nat,k<=l5/\i=.int .i64 k/\Hid (∀(j:Nat) z,j<k->c.ps[j]?=some z->MQ2 c z)/\Hid (Below w.heap.size w wr)/\Hid (wr.heap[w.heap.size]?=some (.cells (clo6 a1 l1 y1 a2 l2 y2 a3 l3 y3 a4 l4 y4 a5 l5 y5 c.now) 37 (0,0)))) (fun i _=>l5 - (intOf i).toNat);case atStart=>exact⟨0,by omega,rfl,fun _ _ h=>absurd h ae,HB.out,Bk.out⟩
   case round=>
    obtain⟨k,hk,rfl,HQ,HB,Bk⟩:=hrel;have pk:=ck4 Bk;by_cases hlt:k<l5
    ·obtain⟨b,o,p,rfl,hb,hx,hat⟩:=bI (HR.p.below HB.out) hlt;obtain⟨va,vl,vc,hvr,z0,z2,z4,c0,c1,c2,c3,c4,c5⟩:=aM hat;have HXp:=aa hx;have HTp:=aa hvr;clear hat hx z0 z2 z4 hvr;by_cases hp2:p.p=2;rotate_left
     ·have HP2:=aa hp2;have hp3:(p.p==2)=false:=by simpa using hp2
      have Gk:Hid ((wr.alloc (.cells #[.string p.n,.int .i64 p.c,.string p.z,.slice va vl vc,.string p.d,.int .i64 p.p] 65)).heap[w.heap.size]?=some (.cells (clo6 a1 l1 y1 a2 l2 y2 a3 l3 y3 a4 l4 y4 (some ⟨b,o,none⟩) l5 y5 c.now) 37 (0,0))):=(qY _ _ _ (ab Bk.out)).trans (Bk.out);have Gr:Hid ((wr.alloc (.cells #[.string p.n,.int .i64 p.c,.string p.z,.slice va vl vc,.string p.d,.int .i64 p.p] 65)).heap[wr.heap.size]?=some (.cells #[.string p.n,.int .i64 p.c,.string p.z,.slice va vl vc,.string p.d,.int .i64 p.p] 65 (0,0))):=qN;have HW:Hid (Below w.heap.size w (wr.alloc (.cells #[.string p.n,.int .i64 p.c,.string p.z,.slice va vl vc,.string p.d,.int .i64 p.p] 65))):=(HB.trans ((ai _ _).mono HB.size));obtain⟨k0,k1,k2,k3,k4,k5⟩:=sl6 Gk;obtain⟨r0,r1,r2,r3,r4,r5⟩:=sl6 Gr;have hne0:=Wd.ne (wr.alloc (.cells #[.string p.n,.int .i64 p.c,.string p.z,.slice va vl vc,.string p.d,.int .i64 p.p] 65));go_wp2_with fail;refine ag al al ?_;repeat (go_big_quiet_step (first|fail))
      refine wpQuiet_nil ?_;rintro _ ⟨q1,rfl⟩;have HB1:=upB HW q1.b;obtain⟨Ck,Cr⟩:=bH;clear hne0 HW HB k0 k1 k2 k3 k4 k5 r0 r1 r2 r3 r4 r5 Gk Gr Bk pk hb c0 c1 c2 c3 c4 c5;have HB:=HB1;clear HB1;have Bk:=Ck;clear Ck;clear Cr;clear hp2 hp3;go_wp2_with fail;refine⟨⟨k+1,by omega,by go_num,fun j z hj hz=>?_,HB.out,Bk.out⟩,by simp[intOf];omega⟩;exact oy
     have HP2:=aa hp2;obtain⟨⟨j1,n,h1,h2⟩,hbd⟩:=HRun.out k p HXp.out hp2;rw[hp2] at c5;clear hp2;have HBD:=aa hbd;have hl1':j1<l1:=by have h3:=(qE.1 h1).1;omega
     obtain⟨b1,o1,n',rfl,hb1n,hn',hat⟩:=bp HR.n hl1';rw[h1] at hn';obtain rfl:=qG hn';obtain⟨na,nl,nc,hnr,z0,z1,d0,d1,d2,d3,d4,d5,d6⟩:=aH hat;have HJn:=aa h1;have HNn:=aa h2;have e5:=(ah HB.out hb1n).trans d5;have hbn:=qO hb1n HB.size;clear hn' hat hnr z0 z1 d0 d1 d2 d3 d4 d5 d6 h1 h2 hb1n hbd;rcases rz n.d with hd|hd
     ·have HDd:=aa hd;rw[hd] at e5;clear hd;obtain⟨hbnv,e5v⟩:=lM;obtain⟨Gk,Gr,HW⟩:=py;obtain⟨k0,k1,k2,k3,k4,k5⟩:=sl6 Gk;obtain⟨r0,r1,r2,r3,r4,r5⟩:=sl6 Gr;obtain⟨nw,hne0,HC0⟩:=pt;go_wp2_with fail;refine ag al al ?_;repeat (go_big_quiet_step (first|(go_at_call 23;exact Calls.wide (HC0.out _))|fail))
      refine wpQuiet_nil ?_;rintro _ ⟨q1,rfl⟩;have HB1:=upB HW q1.b;obtain⟨Ck,Cr⟩:=bH;clear hne0 HW HB HC0 k0 k1 k2 k3 k4 k5 r0 r1 r2 r3 r4 r5 nw Gk Gr Bk pk hb hbn e5 hbnv e5v c0 c1 c2 c3 c4 c5;have HB:=HB1;clear HB1;have Bk:=Ck;clear Ck;clear Cr;go_wp2;go_ret;refine ak.f (fun h=>?_) HB.out;obtain⟨i,m,e1,e2,e3,_⟩:=(h.2 k p HXp.out) HP2.out;obtain⟨_,rfl⟩:=HNR.inj e1 HJn.out (e2.trans HNn.symm);rw[HDd.out] at e3;cases e3
     ·by_cases hal:p_ c p n
      ·have HAl:=aa hal;clear hal;have HDd:=aa hd;rw[hd] at e5;clear hd;obtain⟨hbnv,e5v⟩:=lM;have HCA:Hid (∀q:Wd (wr.alloc (.cells #[.string p.n,.int .i64 p.c,.string p.z,.slice va vl vc,.string p.d,.int .i64 2] 65)),Calls Tryz.prog 117 #[.agg #[.slice (some ⟨b1,o1,none⟩) l1 y1,.slice a2 l2 y2,.slice a3 l3 y3,.slice a4 l4 y4,.slice (some ⟨b,o,none⟩) l5 y5,.int .i64 c.now],.agg #[.string p.n,.int .i64 p.c,.string p.z,.slice va vl vc,.string p.d,.int .i64 2]] q.w fun e w'=>e=.returned (.bool true)/\Below q.w.heap.size q.w w'):=by
        intro q;have h0:=(gJ ⟨(some ⟨b1,o1,none⟩),l1,y1,a2,l2,y2,a3,l3,y3,a4,l4,y4,(some ⟨b,o,none⟩),l5,y5⟩ c p va vl vc j1 n q.w (HR.below (HB.trans (((ai wr _).trans (q.b.mono a8)).mono HB.size))) HNR.out HX.out HV.out HNE.out (HTp.below ((ai wr _).trans (q.b.mono a8))) HJn.out HNn.out HBD.out).mono (fun _ _ h=>ak.yes h HAl.out);rw[HP2.out] at h0;exact h0
       obtain⟨Gk,Gr,HW⟩:=py;obtain⟨k0,k1,k2,k3,k4,k5⟩:=sl6 Gk;obtain⟨r0,r1,r2,r3,r4,r5⟩:=sl6 Gr;obtain⟨nw,hne0,HC0⟩:=pt;have HC1:=aa (fun q:Wd (wr.alloc (.cells #[.string p.n,.int .i64 p.c,.string p.z,.slice va vl vc,.string p.d,.int .i64 2] 65))=>HCA.out q);go_wp2_with fail;refine ag al al ?_;repeat (go_big_quiet_step (first|(go_at_call 23;exact Calls.wide (HC0.out _))|(go_at_call 117;exact Calls.wide (HC1.out _))|fail))
       refine wpQuiet_nil ?_;rintro _ ⟨q1,rfl⟩;have HB1:=upB HW q1.b;obtain⟨Ck,Cr⟩:=bH;clear hne0 HW HB HC0 HC1 k0 k1 k2 k3 k4 k5 r0 r1 r2 r3 r4 r5 nw Gk Gr Bk pk hb hbn e5 hbnv e5v c0 c1 c2 c3 c4 c5;have HB:=HB1;clear HB1;have Bk:=Ck;clear Ck;clear Cr;go_wp2_with fail;refine⟨⟨k+1,by omega,by go_num,fun j z hj hz=>?_,HB.out,Bk.out⟩,by simp[intOf];omega⟩;by_cases e:j=k
       ·subst e;rw[HXp.out] at hz;obtain rfl:=qG hz;exact fun _=>⟨j1,n,HJn.out,HNn.out,HDd.out,HAl.out⟩
       ·exact HQ.out j z ae hz
      ·have HAl:=aa hal;clear hal;have HDd:=aa hd;rw[hd] at e5;clear hd;obtain⟨hbnv,e5v⟩:=lM;have HCA:Hid (∀q:Wd (wr.alloc (.cells #[.string p.n,.int .i64 p.c,.string p.z,.slice va vl vc,.string p.d,.int .i64 2] 65)),Calls Tryz.prog 117 #[.agg #[.slice (some ⟨b1,o1,none⟩) l1 y1,.slice a2 l2 y2,.slice a3 l3 y3,.slice a4 l4 y4,.slice (some ⟨b,o,none⟩) l5 y5,.int .i64 c.now],.agg #[.string p.n,.int .i64 p.c,.string p.z,.slice va vl vc,.string p.d,.int .i64 2]] q.w fun e w'=>e=.returned (.bool false)/\Below q.w.heap.size q.w w'):=by
        intro q;have h0:=(gJ ⟨(some ⟨b1,o1,none⟩),l1,y1,a2,l2,y2,a3,l3,y3,a4,l4,y4,(some ⟨b,o,none⟩),l5,y5⟩ c p va vl vc j1 n q.w (HR.below (HB.trans (((ai wr _).trans (q.b.mono a8)).mono HB.size))) HNR.out HX.out HV.out HNE.out (HTp.below ((ai wr _).trans (q.b.mono a8))) HJn.out HNn.out HBD.out).mono (fun _ _ h=>ak.no h HAl.out);rw[HP2.out] at h0;exact h0
       obtain⟨Gk,Gr,HW⟩:=py;obtain⟨k0,k1,k2,k3,k4,k5⟩:=sl6 Gk;obtain⟨r0,r1,r2,r3,r4,r5⟩:=sl6 Gr;obtain⟨nw,hne0,HC0⟩:=pt;have HC1:=aa (fun q:Wd (wr.alloc (.cells #[.string p.n,.int .i64 p.c,.string p.z,.slice va vl vc,.string p.d,.int .i64 2] 65))=>HCA.out q);go_wp2_with fail;refine ag al al ?_;repeat (go_big_quiet_step (first|(go_at_call 23;exact Calls.wide (HC0.out _))|(go_at_call 117;exact Calls.wide (HC1.out _))|fail))
       refine wpQuiet_nil ?_;rintro _ ⟨q1,rfl⟩;have HB1:=upB HW q1.b;obtain⟨Ck,Cr⟩:=bH;clear hne0 HW HB HC0 HC1 k0 k1 k2 k3 k4 k5 r0 r1 r2 r3 r4 r5 nw Gk Gr Bk pk hb hbn e5 hbnv e5v c0 c1 c2 c3 c4 c5;have HB:=HB1;clear HB1;have Bk:=Ck;clear Ck;clear Cr;go_wp2;go_ret;refine ak.f (fun h=>?_) HB.out;obtain⟨i,m,e1,e2,e3,e4⟩:=(h.2 k p HXp.out) HP2.out;obtain⟨_,rfl⟩:=HNR.inj e1 HJn.out (e2.trans HNn.symm);exact HAl.out e4
    ·obtain rfl:l5=k:=ae
     go_wp2;go_ret;exact ak.t ⟨HQ1.out,fun j z hz=>HQ.out j z bC hz⟩ HB.out

theorem c9 {α:Type} {nm:α->ByteArray} {xs:List α} {t:ByteArray} (h:aD nm xs):hit nm xs t=true↔∃(i:Nat) (x:α),xs[i]?=some x/\nm x=t:=by
 constructor
 ·intro e;obtain⟨x,h1,h2⟩:=dO e;exact⟨_,x,h1,h2⟩
 ·rintro⟨i,x,h1,h2⟩;exact (cS h h1 h2).2
theorem fF {c:Cl} (h:cq c):jX c↔jW c:=by
 have hk:=h.2.1.2.2;have hv:=h.2.2.1.2.2;have hx:=h.2.2.2.1.2.2;constructor
 ·rintro⟨h1,h2⟩;refine⟨fun j v e=>?_,fun j x e=>?_⟩
  ·obtain⟨a,b⟩:=h1 j v e;refine⟨(c9 hk).1 a,b.imp id ?_⟩;rintro⟨i,j',x,v',e1,e2,e3,e4,e5,e6,_⟩;exact⟨i,x,e1,e2,e5⟩
  ·obtain⟨a,b⟩:=h2 j x e;refine⟨(c9 hk).1 a,b.imp id ?_⟩;rintro⟨i,j',x',v',e1,e2,e3,e4,e5,e6,e7,e8,e9⟩;obtain⟨_,rfl⟩:=hx.inj e1 e e2;exact⟨j',v',e3,e4,e6,e7,e8,e9⟩
 ·rintro⟨h1,h2⟩;refine⟨fun j v e=>?_,fun j x e=>?_⟩
  ·obtain⟨a,b⟩:=h1 j v e;refine⟨(c9 hk).2 a,b.imp id ?_⟩;rintro⟨i,x,e1,e2,e3⟩;have hne:¬x.v=⟨#[]⟩:=fun q=>h.ne j v e (e3.symm.trans q);obtain⟨_,b2⟩:=h2 i x e1;rcases b2 with b2|⟨j',v',f1,f2,f3,f4,f5,f6⟩
   ·exact absurd b2 hne
   obtain⟨_,rfl⟩:=hv.inj f1 e (f2.trans e3);exact⟨i,j,x,v',e1,e2,e,rfl,e3,rfl,f4,f5,f6⟩
  ·obtain⟨a,b⟩:=h2 j x e;refine⟨(c9 hk).2 a,b.imp id ?_⟩;rintro⟨j',v,e1,e2,e3,e4,e5,e6⟩;exact⟨j,j',x,v,e,rfl,e1,e2,rfl,e3,e4,e5,e6⟩
theorem eX {c:Cl} (h:cq c) (hb:jW c):gj c↔gi c:=by
 have hn:=h.1.2.2;have hv:=h.2.2.1.2.2;have hx:=h.2.2.2.1.2.2;have one:(∀(j:Nat) z,c.vs[j]?=some z->PQ3 c z)↔∀(k:Nat) p,c.ps[k]?=some p->PSc c k p:=by
  constructor
  ·intro h3 k p hp j q hj hq;by_cases e1:q.d=⟨#[]⟩
   ·exact .inl e1
   by_cases e2:p.d=⟨#[]⟩
   ·exact .inr (.inl e2)
   by_cases e3:q.d=p.d
   ·exact .inr (.inr (.inl e3))
   refine .inr (.inr (.inr fun i t ht v hbd hs hin=>e3 ?_));obtain⟨i1,j1,x,f1,f2,f3,f4⟩:=hbd;have hxv:¬x.v=⟨#[]⟩:=fun z=>h.ne j1 v f3 (f4.trans z);have hvm:v.m=t:=by
    rcases (hb.2 i1 x f1).2 with z|⟨j2,v2,g1,g2,g3,_⟩
    ·exact absurd z hxv
    ·obtain⟨_,rfl⟩:=hv.inj g1 f3 (g2.trans f4.symm);rw[g3,f2]
   have ht0:¬v.m=⟨#[]⟩:=fun z=>by
    have h1:=(h.2.2.2.1.2.1 i1 x f1).1.1;rw[f2,<-hvm,z] at h1;exact absurd h1 aj
   have:=h3 j1 v f3 hs ht0;rw[hvm] at this;exact this j k q p hq hp e1 e2 ⟨i,ht⟩ hin
  ·intro h3 j v hj hs hm i1 i2 p q hp hq d1 d2 in1 in2;obtain⟨i4,x,f1,f2,f3⟩:=(hb.1 j v hj).2.resolve_left hm;have hbd:bh c v.m v:=⟨i4,j,x,f1,f2,hj,f3.symm⟩;rcases Nat.lt_trichotomy i1 i2 with k|k|k
   ·obtain⟨r,hr⟩:=in1;rcases h3 i2 q hq i1 p k hp with z|z|z|z
    ·exact absurd z d1
    ·exact absurd z d2
    ·exact z
    ·exact absurd in2 (z r v.m hr v hbd hs)
   ·subst k;rw[hp] at hq;rw[qG hq]
   ·obtain⟨r,hr⟩:=in2;rcases h3 i1 p hp i2 q k hq with z|z|z|z
    ·exact absurd z d2
    ·exact absurd z d1
    ·exact z.symm
    ·exact absurd in1 (z r v.m hr v hbd hs)
 constructor
 ·rintro⟨h1,h2,h3⟩;refine⟨fun k p hp=>⟨?_,?_,one.1 h3 k p hp⟩,h2⟩
  ·rcases (h1 k p hp).2 with z|⟨i,n,e1,e2,e3,e4⟩
   ·exact .inl z
   ·exact .inr ⟨i,n,e1,e2,e3.imp id Eq.symm⟩
  ·intro j t ht;refine⟨(c9 hx).1 ((h1 k p hp).1 j t ht),?_⟩;rcases (h1 k p hp).2 with z|⟨i,n,e1,e2,e3,e4⟩
   ·exact .inl z
   ·obtain⟨v,f1,f2⟩:=e4 j t ht;exact .inr ⟨v,i,n,f1,e1,e2,f2⟩
 ·rintro⟨h1,h2⟩;refine⟨fun k p hp=>⟨fun j t ht=>(c9 hx).2 ((h1 k p hp).2.1 j t ht).1,?_⟩,h2,one.2 (fun k p hp=>(h1 k p hp).2.2)⟩;rcases (h1 k p hp).1 with z|⟨i,n,e1,e2,e3⟩
  ·exact .inl z
  by_cases z:p.d=⟨#[]⟩
  ·exact .inl z
  refine .inr ⟨i,n,e1,e2,e3.imp id Eq.symm,fun j t ht=>?_⟩;obtain⟨v,i',n',f1,f2,f3,f4⟩:=((h1 k p hp).2.1 j t ht).2.resolve_left z;obtain⟨_,rfl⟩:=hn.inj f2 e1 (f3.trans e2.symm);exact⟨v,f1,f4⟩
theorem running {c:Cl} (h:cq c) (hp:gi c) (j:Nat) (p:Pd) (hj:c.ps[j]?=some p) (h2:p.p=2):(∃(i:Nat) (n:Nd),c.ns[i]?=some n/\n.n=p.d)/\∀(j:Nat) t,p.zs[j]?=some t->∃v,bh c t v:=by
 have hd:¬p.d=⟨#[]⟩:=fun e=>by
  have h1:=(h.2.2.2.2.2.1 j p hj).2.2.2.2;rcases h1 with ⟨h3,_⟩|⟨_,h3⟩
  ·rw[h2] at h3;cases h3
  ·have h4:=h3.1;rw[e] at h4;exact absurd h4 aj
 obtain⟨a,b,_⟩:=hp.1 j p hj;obtain⟨i,n,e1,e2,_⟩:=a.resolve_left hd;refine⟨⟨i,n,e1,e2⟩,fun k t ht=>?_⟩;obtain⟨v,_,_,e3,_⟩:=(b k t ht).2.resolve_left hd;exact⟨v,e3⟩

theorem iS (d:Ad) (c:Cl) (w:World) (hr:aK w d c.raw):
  Calls Tryz.prog 21 #[.agg #[.slice d.a1 d.l1 d.c1,.slice d.a2 d.l2 d.c2,.slice d.a3 d.l3 d.c3,.slice d.a4 d.l4 d.c4,.slice d.a5 d.l5 d.c5,.int .i64 c.now]] w (ak (dv c) w):=by
 obtain⟨HR,HB⟩:=eM;clear hr;go_enter Tryz.func21,Tryz.ntmps21;go_wp2_with fail;refine (fA c.now _).mono ?_;rintro e w1 ⟨r,rfl,hi,hw⟩;have hb:Below (w.alloc (.cells (clv d c.now) 37)).heap.size (w.alloc (.cells (clv d c.now) 37)) w1:=by first|(rw[hw];exact qI _ _)|(rw[<-hw];exact qI _ _)
 clear hw;obtain⟨HA0,hbx⟩:=aJ hb;have Bk:=aa HA0;replace HB:=upB HB hbx;clear hb hbx HA0;have HI1:=aa hi;clear hi;cases r
 ·exact lU
 obtain⟨k0,k1,k2,k3,k4,k5⟩:=cs6 Bk;go_wp2_with fail;refine (kQ d c _ (HR.below HB.out)).mono ?_;rintro e w2 ⟨r,rfl,hi,hb⟩;clear k0 k1 k2 k3 k4 k5;replace Bk:=upK Bk hb;replace HB:=upB HB hb;clear hb;have HI2:=aa hi;clear hi;cases r
 ·exact lX
 have HOK:=aa (HI2.1 bn);obtain⟨k0,k1,k2,k3,k4,k5⟩:=cs6 Bk;go_wp2_with fail;refine (iV d c _ (HR.below HB.out) HOK.2.1.2.2 HOK.2.2.2.1.2.2 HOK.2.2.1.2.2).mono ?_;rintro e w3 ⟨r,rfl,hi,hb⟩;clear k0 k1 k2 k3 k4 k5;replace Bk:=upK Bk hb;replace HB:=upB HB hb;clear hb;have HI3:=aa hi;clear hi;cases r
 ·obtain⟨k0,k1,k2,k3,k4,k5⟩:=cs6 Bk;go_wp2;go_ret;exact ak.f (fun h=>by have:=HI3.2 ((fF HOK.out).1 h.2.2.1);cases this) HB.out
 have HBd:=aa (HI3.1 bn);obtain⟨k0,k1,k2,k3,k4,k5⟩:=cs6 Bk;go_wp2_with fail;refine (gG d c _ (HR.below HB.out) HOK.1.2.2 HOK.2.2.2.1.2.2 HOK.2.2.1.2.2 HOK.ne (by have:=HOK.2.2.2.2.1;omega) HOK.qC).mono ?_;rintro e w4 ⟨r,rfl,hi,hb⟩;clear k0 k1 k2 k3 k4 k5;replace Bk:=upK Bk hb;replace HB:=upB HB hb;clear hb;have HI4:=aa hi;clear hi;cases r
 ·obtain⟨k0,k1,k2,k3,k4,k5⟩:=cs6 Bk;go_wp2;go_ret;exact ak.f (fun h=>by have:=HI4.2 ((eX HOK.out HBd.out).1 h.2.2.2.1);cases this) HB.out
 have HPl:=aa (HI4.1 bn);obtain⟨k0,k1,k2,k3,k4,k5⟩:=cs6 Bk;go_wp2_with fail;refine (fm d c _ (HR.below HB.out) HOK.1.2.2 (by have:=HOK.2.2.1.1;omega)).mono ?_;rintro e w5 ⟨r,rfl,hi,hb⟩;clear k0 k1 k2 k3 k4 k5;replace Bk:=upK Bk hb;replace HB:=upB HB hb;clear hb;have HI5:=aa hi;clear hi;cases r
 ·exact ov
 obtain⟨k0,k1,k2,k3,k4,k5⟩:=cs6 Bk;go_wp2_with fail;refine (fM d c _ (HR.below HB.out) HOK.1.2.2 HOK.2.2.2.1.2.2 HOK.2.2.1.2.2 HOK.ne (running HOK.out HPl.out)).mono ?_;rintro e w6 ⟨r,rfl,hi,hb⟩;clear k0 k1 k2 k3 k4 k5;replace Bk:=upK Bk hb;replace HB:=upB HB hb;clear hb;have HI6:=aa hi;clear hi;cases r
 ·exact ou
 go_wp2;go_ret;exact ak.t ⟨HI1.1 bn,HOK.out,(fF HOK.out).2 HBd.out,(eX HOK.out HBd.out).2 HPl.out,HI5.1 bn,HI6.1 bn⟩ HB.out

end Rc
end Go.Proofs.YtdoldaceehdifaaGreatDoor

namespace Go.Proofs.YtdoldaceehdifaaGreatDoor
open Go.RowKit Go.Extern.Stop Go.Stop Go.Extern
namespace Rc

structure Ers (w:World) (E:Nat->Addr):Prop where
 v0:w.cell? ⟨1,0,none⟩=some (.iface 255 (.pointer (some (E 0))))
 v1:w.cell? ⟨0,0,none⟩=some (.iface 255 (.pointer (some (E 1))))
 v2:w.cell? ⟨2,0,none⟩=some (.iface 255 (.pointer (some (E 2))))
 v3:w.cell? ⟨4,0,none⟩=some (.iface 255 (.pointer (some (E 3))))
 v4:w.cell? ⟨6,0,none⟩=some (.iface 255 (.pointer (some (E 4))))
 v5:w.cell? ⟨7,0,none⟩=some (.iface 255 (.pointer (some (E 5))))
 v6:w.cell? ⟨5,0,none⟩=some (.iface 255 (.pointer (some (E 6))))
 v7:w.cell? ⟨8,0,none⟩=some (.iface 255 (.pointer (some (E 7))))
 v8:w.cell? ⟨9,0,none⟩=some (.iface 255 (.pointer (some (E 8))))
 v9:w.cell? ⟨3,0,none⟩=some (.iface 255 (.pointer (some (E 9))))
 blk:∀i,i<10->∃cs T,w.heap[(E i).block]?=some (.cells cs T (0,0))
 inj:∀i j,i<10->j<10->E i=E j->i=j
theorem bQ {w:World} {b o:Nat} {v:Value} (h:w.cell? ⟨b,o,none⟩=some v):b<w.heap.size:=World.block_lt_of_cell? w _ h
theorem Ers.below {w w':World} {E:Nat->Addr} (h:Ers w E) (hb:Below w.heap.size w w'):Ers w' E:=
 ⟨(ah hb (bQ h.v0)).trans h.v0,(ah hb (bQ h.v1)).trans h.v1,(ah hb (bQ h.v2)).trans h.v2,(ah hb (bQ h.v3)).trans h.v3,(ah hb (bQ h.v4)).trans h.v4,(ah hb (bQ h.v5)).trans h.v5,(ah hb (bQ h.v6)).trans h.v6,(ah hb (bQ h.v7)).trans h.v7,(ah hb (bQ h.v8)).trans h.v8,(ah hb (bQ h.v9)).trans h.v9,fun i hi=>by
  obtain⟨cs,T,h1⟩:=h.blk i hi;exact⟨cs,T,(hb.block _ (ab h1)).trans h1⟩,h.inj⟩
theorem Ers.ens {w:World} {E:Nat->Addr} (h:Ers w E):ens w:=⟨_,_,h.v2⟩

theorem mW (v:Value) (w:World):(Extern.ReflectliteType.typeOf #[.iface 255 v]).run Tryz.prog w=.ok (.iface 205 (.agg #[.pointer (some ⟨10,255,none⟩)])) w:=by kernel_rfl
def pU:Array Value->Sem Value:=Extern.ReflectliteType.method fun t=>do Rtype.noPackHeld "Comparable" t;pure (.bool (<-typeInfo t).comparable)
theorem fY (w:World):(pU #[.agg #[.pointer (some ⟨10,255,none⟩)]]).run Tryz.prog w=.ok (.bool true) w:=by kernel_rfl
theorem dt (v:Value) (w:World):(Go.method 406 205 v "Comparable").run Tryz.prog w=.ok (274,v) w:=by kernel_rfl
theorem mY:(Tryz.prog.info? 255).map (·.comparable)=some true:=by kernel_rfl
theorem mX:(Tryz.prog.info? 294).map (·.size)=some 1:=by kernel_rfl
theorem pR (v:Value) (xT:TypeId) (w:World):(Instr.typeAssert (.iface 255 v) xT 207 true).run Tryz.prog w=.ok (.tuple #[.nilIface,.bool false]) w:=run_typeAssert_lacksB Tryz.underlying207 (by kernel_rfl) (by kernel_rfl) v xT w
theorem kT (v:Value) (xT:TypeId) (w:World):(Instr.typeAssert (.iface 255 v) xT 210 true).run Tryz.prog w=.ok (.tuple #[.nilIface,.bool false]) w:=run_typeAssert_lacksB Tryz.underlying210 (by kernel_rfl) (by kernel_rfl) v xT w
theorem jh (v:Value) (xT:TypeId) (w:World):(Instr.typeAssert (.iface 255 v) xT 212 true).run Tryz.prog w=.ok (.tuple #[.nilIface,.bool false]) w:=run_typeAssert_lacksB Tryz.underlying212 (by kernel_rfl) (by kernel_rfl) v xT w

theorem cj (a:Addr) (w:World)  :
  Calls Tryz.prog 75 #[.iface 255 (.pointer (some (a))),.iface 255 (.pointer (some (a)))] w fun e w'=>e=.returned (.bool true)/\w'=w:=by
 obtain⟨i,hi,hcmp⟩:=qL.1 mY;obtain⟨j,hj,hjs⟩:=qL.1 mX;obtain⟨h8,h32,tT,cT,mR⟩:=oh;have heq:=run_eql_iface_ptr_same (P:=Tryz.prog) w a Tryz.underlying67 Tryz.underlying255 hi hcmp hj;exact mH

theorem mV (a b:Addr) (ca cb:Array Value) (ta tb:TypeId) (w:World) (hne:a≠b) (ha:w.heap[a.block]?=some (.cells ca ta (0,0))) (hb:w.heap[b.block]?=some (.cells cb tb (0,0))):
  Calls Tryz.prog 75 #[.iface 255 (.pointer (some (a))),.iface 255 (.pointer (some (b)))] w fun e w'=>e=.returned (.bool false)/\w'=w:=by
 obtain⟨i,hi,hcmp⟩:=qL.1 mY;obtain⟨j,hj,hjs⟩:=qL.1 mX;obtain⟨h8,h32,tT,cT,mR⟩:=oh;have nE:=pR;have uE:=kT;have vE:=jh;have heq:=run_eql_iface_ptr_other (P:=Tryz.prog) w Tryz.underlying67 Tryz.underlying255 hi hcmp hj (by rw[hjs];decide) hne ha hb;exact mH

theorem ao {w:World} {E:Nat->Addr} (h:Ers w E) (i j:Nat) (hi:i<10) (hj:j<10) (hne:¬i=j):
  Calls Tryz.prog 75 #[.iface 255 (.pointer (some (E i))),.iface 255 (.pointer (some (E j)))] w fun e w'=>e=.returned (.bool false)/\w'=w:=by
 obtain⟨ca,ta,h1⟩:=h.blk i hi;obtain⟨cb,tb,h2⟩:=h.blk j hj;exact mV (E i) (E j) ca cb ta tb w (fun e=>hne (h.inj i j hi hj e)) h1 h2

def nr:Nat->Int
 | 0=>2
 | 1=>1
 | 2=>6
 | 3=>7
 | 4=>9
 | 5=>11
 | 6=>7
 | 7=>11
 | 8=>10
 | 9=>3
 | _=>0

theorem qm (E:Nat->Addr) (w:World) (h:Ers w E):Calls Tryz.prog 32 #[.iface 255 (.pointer (some (E 0)))] w fun e w'=>e=.returned (.int .i64 2)/\w'=w:=by
 obtain⟨HE,v0,v1,v2,v3,v4,v5,v6,v7,v8,v9⟩:=fO;clear h;go_enter Tryz.func32,Tryz.ntmps32;go_wp2_with fail;refine (cj (E 0) _).mono ?_;exact dF

theorem qk (E:Nat->Addr) (w:World) (h:Ers w E):Calls Tryz.prog 32 #[.iface 255 (.pointer (some (E 1)))] w fun e w'=>e=.returned (.int .i64 1)/\w'=w:=by
 obtain⟨HE,v0,v1,v2,v3,v4,v5,v6,v7,v8,v9⟩:=fO;clear h;go_enter Tryz.func32,Tryz.ntmps32;go_wp2_with fail;refine (ao HE.out 1 0 aj aj aj).mono ?_;rintro e w' ⟨rfl,rfl⟩;go_wp2_with fail;refine (ao HE.out 1 9 aj aj aj).mono ?_;rintro e w' ⟨rfl,rfl⟩;go_wp2_with fail;refine (ao HE.out 1 2 aj aj aj).mono ?_;rintro e w' ⟨rfl,rfl⟩;go_wp2_with fail;refine (ao HE.out 1 3 aj aj aj).mono ?_;rintro e w' ⟨rfl,rfl⟩;go_wp2_with fail;refine (ao HE.out 1 6 aj aj aj).mono ?_;rintro e w' ⟨rfl,rfl⟩;go_wp2_with fail;refine (ao HE.out 1 4 aj aj aj).mono ?_;rintro e w' ⟨rfl,rfl⟩;go_wp2_with fail;refine (ao HE.out 1 5 aj aj aj).mono ?_;rintro e w' ⟨rfl,rfl⟩;go_wp2_with fail;refine (ao HE.out 1 7 aj aj aj).mono ?_;rintro e w' ⟨rfl,rfl⟩;go_wp2_with fail;refine (ao HE.out 1 8 aj aj aj).mono ?_;exact dF

theorem qj (E:Nat->Addr) (w:World) (h:Ers w E):Calls Tryz.prog 32 #[.iface 255 (.pointer (some (E 2)))] w fun e w'=>e=.returned (.int .i64 6)/\w'=w:=by
 obtain⟨HE,v0,v1,v2,v3,v4,v5,v6,v7,v8,v9⟩:=fO;clear h;go_enter Tryz.func32,Tryz.ntmps32;go_wp2_with fail;refine (ao HE.out 2 0 aj aj aj).mono ?_;rintro e w' ⟨rfl,rfl⟩;go_wp2_with fail;refine (ao HE.out 2 9 aj aj aj).mono ?_;rintro e w' ⟨rfl,rfl⟩;go_wp2_with fail;refine (cj (E 2) _).mono ?_;exact dF

theorem qi (E:Nat->Addr) (w:World) (h:Ers w E):Calls Tryz.prog 32 #[.iface 255 (.pointer (some (E 3)))] w fun e w'=>e=.returned (.int .i64 7)/\w'=w:=by
 obtain⟨HE,v0,v1,v2,v3,v4,v5,v6,v7,v8,v9⟩:=fO;clear h;go_enter Tryz.func32,Tryz.ntmps32;go_wp2_with fail;refine (ao HE.out 3 0 aj aj aj).mono ?_;rintro e w' ⟨rfl,rfl⟩;go_wp2_with fail;refine (ao HE.out 3 9 aj aj aj).mono ?_;rintro e w' ⟨rfl,rfl⟩;go_wp2_with fail;refine (ao HE.out 3 2 aj aj aj).mono ?_;rintro e w' ⟨rfl,rfl⟩;go_wp2_with fail;refine (cj (E 3) _).mono ?_;exact dF

theorem qh (E:Nat->Addr) (w:World) (h:Ers w E):Calls Tryz.prog 32 #[.iface 255 (.pointer (some (E 4)))] w fun e w'=>e=.returned (.int .i64 9)/\w'=w:=by
 obtain⟨HE,v0,v1,v2,v3,v4,v5,v6,v7,v8,v9⟩:=fO;clear h;go_enter Tryz.func32,Tryz.ntmps32;go_wp2_with fail;refine (ao HE.out 4 0 aj aj aj).mono ?_;rintro e w' ⟨rfl,rfl⟩;go_wp2_with fail;refine (ao HE.out 4 9 aj aj aj).mono ?_;rintro e w' ⟨rfl,rfl⟩;go_wp2_with fail;refine (ao HE.out 4 2 aj aj aj).mono ?_;rintro e w' ⟨rfl,rfl⟩;go_wp2_with fail;refine (ao HE.out 4 3 aj aj aj).mono ?_;rintro e w' ⟨rfl,rfl⟩;go_wp2_with fail;refine (ao HE.out 4 6 aj aj aj).mono ?_;rintro e w' ⟨rfl,rfl⟩;go_wp2_with fail;refine (cj (E 4) _).mono ?_;exact dF

theorem qg (E:Nat->Addr) (w:World) (h:Ers w E):Calls Tryz.prog 32 #[.iface 255 (.pointer (some (E 5)))] w fun e w'=>e=.returned (.int .i64 11)/\w'=w:=by
 obtain⟨HE,v0,v1,v2,v3,v4,v5,v6,v7,v8,v9⟩:=fO;clear h;go_enter Tryz.func32,Tryz.ntmps32;go_wp2_with fail;refine (ao HE.out 5 0 aj aj aj).mono ?_;rintro e w' ⟨rfl,rfl⟩;go_wp2_with fail;refine (ao HE.out 5 9 aj aj aj).mono ?_;rintro e w' ⟨rfl,rfl⟩;go_wp2_with fail;refine (ao HE.out 5 2 aj aj aj).mono ?_;rintro e w' ⟨rfl,rfl⟩;go_wp2_with fail;refine (ao HE.out 5 3 aj aj aj).mono ?_;rintro e w' ⟨rfl,rfl⟩;go_wp2_with fail;refine (ao HE.out 5 6 aj aj aj).mono ?_;rintro e w' ⟨rfl,rfl⟩;go_wp2_with fail;refine (ao HE.out 5 4 aj aj aj).mono ?_;rintro e w' ⟨rfl,rfl⟩;go_wp2_with fail;refine (cj (E 5) _).mono ?_;exact dF

theorem qf (E:Nat->Addr) (w:World) (h:Ers w E):Calls Tryz.prog 32 #[.iface 255 (.pointer (some (E 6)))] w fun e w'=>e=.returned (.int .i64 7)/\w'=w:=by
 obtain⟨HE,v0,v1,v2,v3,v4,v5,v6,v7,v8,v9⟩:=fO;clear h;go_enter Tryz.func32,Tryz.ntmps32;go_wp2_with fail;refine (ao HE.out 6 0 aj aj aj).mono ?_;rintro e w' ⟨rfl,rfl⟩;go_wp2_with fail;refine (ao HE.out 6 9 aj aj aj).mono ?_;rintro e w' ⟨rfl,rfl⟩;go_wp2_with fail;refine (ao HE.out 6 2 aj aj aj).mono ?_;rintro e w' ⟨rfl,rfl⟩;go_wp2_with fail;refine (ao HE.out 6 3 aj aj aj).mono ?_;rintro e w' ⟨rfl,rfl⟩;go_wp2_with fail;refine (cj (E 6) _).mono ?_;exact dF

theorem qe (E:Nat->Addr) (w:World) (h:Ers w E):Calls Tryz.prog 32 #[.iface 255 (.pointer (some (E 7)))] w fun e w'=>e=.returned (.int .i64 11)/\w'=w:=by
 obtain⟨HE,v0,v1,v2,v3,v4,v5,v6,v7,v8,v9⟩:=fO;clear h;go_enter Tryz.func32,Tryz.ntmps32;go_wp2_with fail;refine (ao HE.out 7 0 aj aj aj).mono ?_;rintro e w' ⟨rfl,rfl⟩;go_wp2_with fail;refine (ao HE.out 7 9 aj aj aj).mono ?_;rintro e w' ⟨rfl,rfl⟩;go_wp2_with fail;refine (ao HE.out 7 2 aj aj aj).mono ?_;rintro e w' ⟨rfl,rfl⟩;go_wp2_with fail;refine (ao HE.out 7 3 aj aj aj).mono ?_;rintro e w' ⟨rfl,rfl⟩;go_wp2_with fail;refine (ao HE.out 7 6 aj aj aj).mono ?_;rintro e w' ⟨rfl,rfl⟩;go_wp2_with fail;refine (ao HE.out 7 4 aj aj aj).mono ?_;rintro e w' ⟨rfl,rfl⟩;go_wp2_with fail;refine (ao HE.out 7 5 aj aj aj).mono ?_;rintro e w' ⟨rfl,rfl⟩;go_wp2_with fail;refine (cj (E 7) _).mono ?_;exact dF

theorem qd (E:Nat->Addr) (w:World) (h:Ers w E):Calls Tryz.prog 32 #[.iface 255 (.pointer (some (E 8)))] w fun e w'=>e=.returned (.int .i64 10)/\w'=w:=by
 obtain⟨HE,v0,v1,v2,v3,v4,v5,v6,v7,v8,v9⟩:=fO;clear h;go_enter Tryz.func32,Tryz.ntmps32;go_wp2_with fail;refine (ao HE.out 8 0 aj aj aj).mono ?_;rintro e w' ⟨rfl,rfl⟩;go_wp2_with fail;refine (ao HE.out 8 9 aj aj aj).mono ?_;rintro e w' ⟨rfl,rfl⟩;go_wp2_with fail;refine (ao HE.out 8 2 aj aj aj).mono ?_;rintro e w' ⟨rfl,rfl⟩;go_wp2_with fail;refine (ao HE.out 8 3 aj aj aj).mono ?_;rintro e w' ⟨rfl,rfl⟩;go_wp2_with fail;refine (ao HE.out 8 6 aj aj aj).mono ?_;rintro e w' ⟨rfl,rfl⟩;go_wp2_with fail;refine (ao HE.out 8 4 aj aj aj).mono ?_;rintro e w' ⟨rfl,rfl⟩;go_wp2_with fail;refine (ao HE.out 8 5 aj aj aj).mono ?_;rintro e w' ⟨rfl,rfl⟩;go_wp2_with fail;refine (ao HE.out 8 7 aj aj aj).mono ?_;rintro e w' ⟨rfl,rfl⟩;go_wp2_with fail;refine (cj (E 8) _).mono ?_;exact dF

theorem gv (E:Nat->Addr) (i:Nat) (w:World) (h:Ers w E) (hi:i<9):Calls Tryz.prog 32 #[.iface 255 (.pointer (some (E i)))] w fun e w'=>e=.returned (.int .i64 (nr i))/\w'=w:=by
 match i,hi with
 | 0,_=>exact qm E w h
 | 1,_=>exact qk E w h
 | 2,_=>exact qj E w h
 | 3,_=>exact qi E w h
 | 4,_=>exact qh E w h
 | 5,_=>exact qg E w h
 | 6,_=>exact qf E w h
 | 7,_=>exact qe E w h
 | 8,_=>exact qd E w h

theorem gR (E:Nat->Addr) (i:Nat) (cc:Int) (hcc:cc=nr i) (w:World) (h:Ers w E) (hi:i<9):Calls Tryz.prog 45 #[.iface 255 (.pointer (some (E i)))] w fun e w'=>e=.returned (.agg #[.slice none 0 0,.slice none 0 0,.slice none 0 0,.slice none 0 0,.slice none 0 0,.int .i64 0,.string ⟨#[]⟩,.int .i64 cc])/\Below w.heap.size w w':=by
 have HE:=aa (h.below (ai w (.cells #[.slice none 0 0,.slice none 0 0,.slice none 0 0,.slice none 0 0,.slice none 0 0,.int .i64 0,.string ⟨#[]⟩,.int .i64 0] 42)));clear h;go_enter Tryz.func45,Tryz.ntmps45;go_wp2_with fail;refine (gv E i _ HE.out hi).mono ?_;rintro e w' ⟨rfl,rfl⟩;rw[<-hcc];clear hcc;go_wp2;exact bodyPost_ret (v:=.agg #[.slice none 0 0,.slice none 0 0,.slice none 0 0,.slice none 0 0,.slice none 0 0,.int .i64 0,.string ⟨#[]⟩,.int .i64 cc]) (by simp[results,Tryz.results45,go_sem]) rfl ⟨rfl,ai _ _⟩

end Rc
end Go.Proofs.YtdoldaceehdifaaGreatDoor

namespace Go.Proofs.YtdoldaceehdifaaGreatDoor
open Go.RowKit

end Go.Proofs.YtdoldaceehdifaaGreatDoor

namespace Go.Proofs.YtdoldaceehdifaaGreatDoor
open Go.RowKit
namespace Rc
open Mk

theorem jD:(Tryz.prog.info? 72).map (fun i=>(i.zero,i.size,i.bytes))=some (some (.agg #[.string ⟨#[]⟩,.string ⟨#[]⟩,.int .i64 0,.int .i64 0,.int .i64 0,.bool false,.slice none 0 0]),7,88):=by kernel_rfl
def ndZ:Nd:=⟨⟨#[]⟩,⟨#[]⟩,0,0,0,false,[]⟩

theorem pI {w:World} {g len:Nat} (h:w.heap[g]?=some (.cells (madeCells #[.string ⟨#[]⟩,.string ⟨#[]⟩,.int .i64 0,.int .i64 0,.int .i64 0,.bool false,.slice none 0 0] (len*7)) 72 (0,0))) (hl:len<=1048576) (S:Nat->Prop) (hS:S g):
  aw w (some ⟨g,0,none⟩) len len 7 72 ((qQ len ndZ).map ndF) S:=by
 refine⟨by simp,qF _,by omega,.inr ⟨g,_,fun _ _=>0,rfl,h,hS,?_,?_,?_⟩⟩
 ·exact ij
 ·intro j r hr i f hi;rw[qT] at hr;obtain⟨x,hx,rfl⟩:=qL.1 hr;have hj:j<len:=by have:=(qE.1 hx).1;simpa using this
  obtain rfl:x=ndZ:=by
   exact dh
  have him:i<7:=(qE.1 hi).1;have hlt:j*7+i<len*7:=ae
  have hcell:(madeCells #[.string ⟨#[]⟩,.string ⟨#[]⟩,.int .i64 0,.int .i64 0,.int .i64 0,.bool false,.slice none 0 0] (len*7))[j*7+i]?=some (#[.string ⟨#[]⟩,.string ⟨#[]⟩,.int .i64 0,.int .i64 0,.int .i64 0,.bool false,.slice none 0 0][i]!):=by
   unfold madeCells;rw[rV,rQ];rw[if_pos hlt];have:(j*7+i) % 7=i:=ae
   simp[this]
  refine⟨_,hcell,?_⟩;rcases i with _|_|_|_|_|_|_|i
  ·cases hi;exact⟨rfl,by decide⟩
  ·cases hi;exact⟨rfl,by decide⟩
  ·cases hi;exact rfl
  ·cases hi;exact rfl
  ·cases hi;exact rfl
  ·cases hi;exact rfl
  ·cases hi;exact⟨none,0,0,rfl,rfl,qF _,by decide,fun j x hx=>by simp[ndZ] at hx,.inl rfl⟩
  ·omega
 ·intro j r i zs j' r' i' zs' hr hi hz;exfalso;rw[qT] at hr;obtain⟨x,hx,rfl⟩:=qL.1 hr;obtain rfl:x=ndZ:=by
   exact dh
  have him:i<7:=(qE.1 hi).1;rcases i with _|_|_|_|_|_|_|i
  ·cases hi
  ·cases hi
  ·cases hi
  ·cases hi
  ·cases hi
  ·cases hi
  ·cases hi;exact hz rfl
  ·omega

theorem lk (a:Option Addr) (len cap:Nat) (xs:List Nd) (w:World) (hr:ay w a len cap 7 (xs.map ndF)) (hl:len<=1048576) (hf:∀(j:Nat) x,xs[j]?=some x->x.zs.length<=1048576):
  Calls Tryz.prog 25 #[.slice a len cap] w fun e w'=>e=.returned (.slice (some ⟨w.heap.size,0,none⟩) len len)/\aw w' (some ⟨w.heap.size,0,none⟩) len len 7 72 (xs.map ndF) (fun k=>w.heap.size<=k)/\Below w.heap.size w w':=by
 obtain⟨HR,hvl⟩:=de;have HF:=aa hf;clear hr hf;obtain⟨i0,hi,hz0,hz1,hz2⟩:=info_parts jD;go_enter Tryz.func25,Tryz.ntmps25;go_wp2_with (at_make;refine wpList_make_full _ rfl _ _ 31 rfl w.heap.size 72 i0 (.agg #[.string ⟨#[]⟩,.string ⟨#[]⟩,.int .i64 0,.int .i64 0,.int .i64 0,.bool false,.slice none 0 0]) 7 Tryz.underlying31 hi hz0 hz1 _ _ _ _ len rfl rfl ae ae eL dC (qF _) ?_);intro w1 hown hgrow;obtain⟨hnx1,HB⟩:=g_;have hc1:w1.heap[w.heap.size]?=some (.cells (madeCells #[.string ⟨#[]⟩,.string ⟨#[]⟩,.int .i64 0,.int .i64 0,.int .i64 0,.bool false,.slice none 0 0] (len*7)) 72 (0,0)):=by
  obtain⟨h1,h2⟩:=hown;rcases h2 with ⟨h3,_⟩|⟨g',cap',cur,hv,hB,hh,_,_,hsz,htk⟩
  ·cases h3
  ·simp only[rO,ri,Addr.mk.injEq] at hv;obtain⟨⟨rfl,_,_⟩,_,rfl⟩:=hv;rw[qM (by simp[hsz])] at htk;have:cur=madeCells #[.string ⟨#[]⟩,.string ⟨#[]⟩,.int .i64 0,.int .i64 0,.int .i64 0,.bool false,.slice none 0 0] (len*7):=by apply Array.ext';simpa using htk
   rw[this] at hh;simpa using hh
 have HP:Hid (aw w1 (some ⟨w.heap.size,0,none⟩) len len 7 72 ((xs.take 0++(qQ len ndZ).drop 0).map ndF) (fun k=>w.heap.size<=k)):=by
  have:=pI hc1 hl (fun k=>w.heap.size<=k) (qF _);simpa[Hid] using this
 have hZl:xs.length=(qQ len ndZ).length:=by simpa using hvl
 clear hown hgrow hi hz0 hz1 hz2 hnx1 hc1;go_wp2;go_loopw [4] (fun i wr=> ∃k:Nat,k<=len/\i=.int .i64 k/\Hid (aw wr (some ⟨w.heap.size,0,none⟩) len len 7 72 ((xs.take k++(qQ len ndZ).drop k).map ndF) (fun k=>w.heap.size<=k))/\Hid (Below w.heap.size w wr)) (fun i _=>len - (intOf i).toNat);case atStart=>exact⟨0,by omega,rfl,HP,HB⟩
 case round=>
  obtain⟨k,hk,rfl,HP,HB⟩:=hrel;by_cases hlt:k<len
  ·obtain⟨b,o,v,rfl,hb,hv,hat⟩:=bp (HR.below HB.out) hlt;obtain⟨va,vl,vc,hvr,z0,z1,c0,c1,c2,c3,c4,c5,c6⟩:=aH hat;have HV:=aa hv;have Hz0:=aa z0;have Hz1:=aa z1;obtain⟨HT,hvl2,hvz,HVZ⟩:=lG;clear hvr hvz;clear hat hv z0 z1;have hzk:((xs.take k++(qQ len ndZ).drop k).map ndF)[k]?=some (ndF ndZ):=by
    exact eU
   obtain⟨g,hg,hs⟩:=HP.st (ax.refl _ _) hzk;cases hg;have HS:=aa hs;clear hs hzk HP;go_wp2_with fail;refine (iQ v.n v.z v.c v.s v.u v.d va vl vc v.zs _ HT.out hvl2).mono ?_;rintro e w2 ⟨rfl,hG,hb2⟩;have HB2:=upB HB hb2;have h1:StJ w.heap.size 7 72 (fun k=>w.heap.size<=k) (fun k=>wr.heap.size<=k) wr w2 ((xs.take k++(qQ len ndZ).drop k).map ndF) k [.s ndZ.n,.s ndZ.z,.i ndZ.c,.i ndZ.s,.i ndZ.u,.b ndZ.d,.l ndZ.zs]:=HS.fresh hb2;have hL:iL w2 (wr.heap.size+1+1+1) (fun k=>w.heap.size<=k) w.heap.size v.zs (.slice (some ⟨wr.heap.size+1+1+1,0,none⟩) vl vl):=by
    exact jc
   have HL:=aa hL;clear hG hL;obtain⟨q0,e0⟩:=h1.cell (i:=0) rfl;have f0:=h1.bF (k*7);obtain⟨q1,e1⟩:=h1.cell (i:=1) rfl;have f1:=h1.bF (k*7+1);obtain⟨q2,e2⟩:=h1.cell (i:=2) rfl;have f2:=h1.bF (k*7+2);obtain⟨q3,e3⟩:=h1.cell (i:=3) rfl;have f3:=h1.bF (k*7+3);obtain⟨q4,e4⟩:=h1.cell (i:=4) rfl;have f4:=h1.bF (k*7+4);obtain⟨q5,e5⟩:=h1.cell (i:=5) rfl;have f5:=h1.bF (k*7+5);obtain⟨q6,e6⟩:=h1.cell (i:=6) rfl;have f6:=h1.bF (k*7+6);rw[rG] at e0;have HZ:=aa ((((((((h1).bR (i:=0) rfl v.n Hz0.out).bR (i:=1) rfl v.z Hz1.out).ew (i:=2) rfl v.c).ew (i:=3) rfl v.s).ew (i:=4) rfl v.u).ey (i:=5) rfl v.d).po (i:=6) rfl v.zs (fun _=>by show wr.heap.size<=_;omega) (Fv.Own.aQ (u:=.l v.zs) (Fv.Own.aQ (u:=.l v.zs) (Fv.Own.aQ (u:=.l v.zs) (Fv.Own.aQ (u:=.l v.zs) (Fv.Own.aQ (u:=.l v.zs) (Fv.Own.aQ (u:=.l v.zs) (HL.out))))))));clear h1 hb2 c0 c1 c2 c3 c4 c5 c6 hb;go_wp2_with fail;refine⟨⟨k+1,by omega,by go_num,?_,af (qF _) (af (qF _) (af (qF _) (af (qF _) (af (qF _) (af (qF _) (af (qF _) (HB2.out)))))))⟩,by simp[intOf];omega⟩;obtain⟨⟨cur,H,h2,-⟩,-,-⟩:=HZ.out;have h3:(((xs.take k++(qQ len ndZ).drop k).map ndF).set k (ndF v))=(xs.take (k+1)++(qQ len ndZ).drop (k+1)).map ndF:=by
    rw[<-List.map_set,bj hZl HV.out]
   have h4:bW _ w.heap.size 7 72 (((xs.take k++(qQ len ndZ).drop k).map ndF).set k (ndF v)) (fun k=>w.heap.size<=k) cur H:=h2;exact ik
  ·exact iv

theorem jE:(Tryz.prog.info? 116).map (fun i=>(i.zero,i.size,i.bytes))=some (some (.agg #[.string ⟨#[]⟩,.bool false,.bool false,.string ⟨#[]⟩]),4,40):=by kernel_rfl
def kdZ:Kd:=⟨⟨#[]⟩,false,false,⟨#[]⟩⟩

theorem pJ {w:World} {g len:Nat} (h:w.heap[g]?=some (.cells (madeCells #[.string ⟨#[]⟩,.bool false,.bool false,.string ⟨#[]⟩] (len*4)) 116 (0,0))) (hl:len<=1048576) (S:Nat->Prop) (hS:S g):
  aw w (some ⟨g,0,none⟩) len len 4 116 ((qQ len kdZ).map kdF) S:=by
 refine⟨by simp,qF _,by omega,.inr ⟨g,_,fun _ _=>0,rfl,h,hS,?_,?_,?_⟩⟩
 ·exact ij
 ·intro j r hr i f hi;rw[qT] at hr;obtain⟨x,hx,rfl⟩:=qL.1 hr;have hj:j<len:=by have:=(qE.1 hx).1;simpa using this
  obtain rfl:x=kdZ:=by
   exact dh
  have him:i<4:=(qE.1 hi).1;have hlt:j*4+i<len*4:=ae
  have hcell:(madeCells #[.string ⟨#[]⟩,.bool false,.bool false,.string ⟨#[]⟩] (len*4))[j*4+i]?=some (#[.string ⟨#[]⟩,.bool false,.bool false,.string ⟨#[]⟩][i]!):=by
   unfold madeCells;rw[rV,rQ];rw[if_pos hlt];have:(j*4+i) % 4=i:=ae
   simp[this]
  refine⟨_,hcell,?_⟩;rcases i with _|_|_|_|i
  ·cases hi;exact⟨rfl,by decide⟩
  ·cases hi;exact rfl
  ·cases hi;exact rfl
  ·cases hi;exact⟨rfl,by decide⟩
  ·omega
 ·intro j r i zs j' r' i' zs' hr hi hz;exfalso;rw[qT] at hr;obtain⟨x,hx,rfl⟩:=qL.1 hr;obtain rfl:x=kdZ:=by
   exact dh
  have him:i<4:=(qE.1 hi).1;rcases i with _|_|_|_|i
  ·cases hi
  ·cases hi
  ·cases hi
  ·cases hi
  ·omega

theorem ln (a:Option Addr) (len cap:Nat) (xs:List Kd) (w:World) (hr:ay w a len cap 4 (xs.map kdF)) (hl:len<=1048576):
  Calls Tryz.prog 26 #[.slice a len cap] w fun e w'=>e=.returned (.slice (some ⟨w.heap.size,0,none⟩) len len)/\aw w' (some ⟨w.heap.size,0,none⟩) len len 4 116 (xs.map kdF) (fun k=>w.heap.size<=k)/\Below w.heap.size w w':=by
 obtain⟨HR,hvl⟩:=de;skip;clear hr;obtain⟨i0,hi,hz0,hz1,hz2⟩:=info_parts jE;go_enter Tryz.func26,Tryz.ntmps26;go_wp2_with (at_make;refine wpList_make_full _ rfl _ _ 32 rfl w.heap.size 116 i0 (.agg #[.string ⟨#[]⟩,.bool false,.bool false,.string ⟨#[]⟩]) 4 Tryz.underlying32 hi hz0 hz1 _ _ _ _ len rfl rfl ae ae eL dC (qF _) ?_);intro w1 hown hgrow;obtain⟨hnx1,HB⟩:=g_;have hc1:w1.heap[w.heap.size]?=some (.cells (madeCells #[.string ⟨#[]⟩,.bool false,.bool false,.string ⟨#[]⟩] (len*4)) 116 (0,0)):=by
  obtain⟨h1,h2⟩:=hown;rcases h2 with ⟨h3,_⟩|⟨g',cap',cur,hv,hB,hh,_,_,hsz,htk⟩
  ·cases h3
  ·simp only[rO,ri,Addr.mk.injEq] at hv;obtain⟨⟨rfl,_,_⟩,_,rfl⟩:=hv;rw[qM (by simp[hsz])] at htk;have:cur=madeCells #[.string ⟨#[]⟩,.bool false,.bool false,.string ⟨#[]⟩] (len*4):=by apply Array.ext';simpa using htk
   rw[this] at hh;simpa using hh
 have HP:Hid (aw w1 (some ⟨w.heap.size,0,none⟩) len len 4 116 ((xs.take 0++(qQ len kdZ).drop 0).map kdF) (fun k=>w.heap.size<=k)):=by
  have:=pJ hc1 hl (fun k=>w.heap.size<=k) (qF _);simpa[Hid] using this
 have hZl:xs.length=(qQ len kdZ).length:=by simpa using hvl
 clear hown hgrow hi hz0 hz1 hz2 hnx1 hc1;go_wp2;go_loopw [4] (fun i wr=> ∃k:Nat,k<=len/\i=.int .i64 k/\Hid (aw wr (some ⟨w.heap.size,0,none⟩) len len 4 116 ((xs.take k++(qQ len kdZ).drop k).map kdF) (fun k=>w.heap.size<=k))/\Hid (Below w.heap.size w wr)) (fun i _=>len - (intOf i).toNat);case atStart=>exact⟨0,by omega,rfl,HP,HB⟩
 case round=>
  obtain⟨k,hk,rfl,HP,HB⟩:=hrel;by_cases hlt:k<len
  ·obtain⟨b,o,v,rfl,hb,hv,hat⟩:=dj (HR.below HB.out) hlt;obtain⟨z0,z3,c0,c1,c2,c3⟩:=bg hat;have HV:=aa hv;have Hz0:=aa z0;have Hz3:=aa z3;clear hat hv z0 z3;have hzk:((xs.take k++(qQ len kdZ).drop k).map kdF)[k]?=some (kdF kdZ):=by
    exact eU
   obtain⟨g,hg,hs⟩:=HP.st (ax.refl _ _) hzk;cases hg;have HS:=aa hs;clear hs hzk HP;go_wp2_with fail;refine (gy v.n v.x v.y v.z _).mono ?_;rintro e w2 ⟨rfl,hb2⟩;have HB2:=upB HB hb2;have h1:StJ w.heap.size 4 116 (fun k=>w.heap.size<=k) (fun k=>wr.heap.size<=k) wr w2 ((xs.take k++(qQ len kdZ).drop k).map kdF) k [.s kdZ.n,.b kdZ.x,.b kdZ.y,.s kdZ.z]:=HS.fresh hb2;obtain⟨q0,e0⟩:=h1.cell (i:=0) rfl;have f0:=h1.bF (k*4);obtain⟨q1,e1⟩:=h1.cell (i:=1) rfl;have f1:=h1.bF (k*4+1);obtain⟨q2,e2⟩:=h1.cell (i:=2) rfl;have f2:=h1.bF (k*4+2);obtain⟨q3,e3⟩:=h1.cell (i:=3) rfl;have f3:=h1.bF (k*4+3);rw[rG] at e0;have HZ:=aa (((((h1).bR (i:=0) rfl v.n Hz0.out).ey (i:=1) rfl v.x).ey (i:=2) rfl v.y).bR (i:=3) rfl v.z Hz3.out);clear h1 hb2 c0 c1 c2 c3 hb;go_wp2_with fail;refine⟨⟨k+1,by omega,by go_num,?_,af (qF _) (af (qF _) (af (qF _) (af (qF _) (HB2.out))))⟩,by simp[intOf];omega⟩;obtain⟨⟨cur,H,h2,-⟩,-,-⟩:=HZ.out;have h3:(((xs.take k++(qQ len kdZ).drop k).map kdF).set k (kdF v))=(xs.take (k+1)++(qQ len kdZ).drop (k+1)).map kdF:=by
    rw[<-List.map_set,bj hZl HV.out]
   have h4:bW _ w.heap.size 4 116 (((xs.take k++(qQ len kdZ).drop k).map kdF).set k (kdF v)) (fun k=>w.heap.size<=k) cur H:=h2;exact ik
  ·exact iv

theorem jB:(Tryz.prog.info? 118).map (fun i=>(i.zero,i.size,i.bytes))=some (some (.agg #[.string ⟨#[]⟩,.int .i64 0,.string ⟨#[]⟩,.string ⟨#[]⟩,.bool false,.string ⟨#[]⟩,.bool false,.slice none 0 0]),8,112):=by kernel_rfl
def vdZ:Vd:=⟨⟨#[]⟩,0,⟨#[]⟩,⟨#[]⟩,false,⟨#[]⟩,false,[]⟩

theorem pG {w:World} {g len:Nat} (h:w.heap[g]?=some (.cells (madeCells #[.string ⟨#[]⟩,.int .i64 0,.string ⟨#[]⟩,.string ⟨#[]⟩,.bool false,.string ⟨#[]⟩,.bool false,.slice none 0 0] (len*8)) 118 (0,0))) (hl:len<=1048576) (S:Nat->Prop) (hS:S g):
  aw w (some ⟨g,0,none⟩) len len 8 118 ((qQ len vdZ).map vdF) S:=by
 refine⟨by simp,qF _,by omega,.inr ⟨g,_,fun _ _=>0,rfl,h,hS,?_,?_,?_⟩⟩
 ·exact ij
 ·intro j r hr i f hi;rw[qT] at hr;obtain⟨x,hx,rfl⟩:=qL.1 hr;have hj:j<len:=by have:=(qE.1 hx).1;simpa using this
  obtain rfl:x=vdZ:=by
   exact dh
  have him:i<8:=(qE.1 hi).1;have hlt:j*8+i<len*8:=ae
  have hcell:(madeCells #[.string ⟨#[]⟩,.int .i64 0,.string ⟨#[]⟩,.string ⟨#[]⟩,.bool false,.string ⟨#[]⟩,.bool false,.slice none 0 0] (len*8))[j*8+i]?=some (#[.string ⟨#[]⟩,.int .i64 0,.string ⟨#[]⟩,.string ⟨#[]⟩,.bool false,.string ⟨#[]⟩,.bool false,.slice none 0 0][i]!):=by
   unfold madeCells;rw[rV,rQ];rw[if_pos hlt];have:(j*8+i) % 8=i:=ae
   simp[this]
  refine⟨_,hcell,?_⟩;rcases i with _|_|_|_|_|_|_|_|i
  ·cases hi;exact⟨rfl,by decide⟩
  ·cases hi;exact rfl
  ·cases hi;exact⟨rfl,by decide⟩
  ·cases hi;exact⟨rfl,by decide⟩
  ·cases hi;exact rfl
  ·cases hi;exact⟨rfl,by decide⟩
  ·cases hi;exact rfl
  ·cases hi;exact⟨none,0,0,rfl,rfl,qF _,by decide,fun j x hx=>by simp[vdZ] at hx,.inl rfl⟩
  ·omega
 ·intro j r i zs j' r' i' zs' hr hi hz;exfalso;rw[qT] at hr;obtain⟨x,hx,rfl⟩:=qL.1 hr;obtain rfl:x=vdZ:=by
   exact dh
  have him:i<8:=(qE.1 hi).1;rcases i with _|_|_|_|_|_|_|_|i
  ·cases hi
  ·cases hi
  ·cases hi
  ·cases hi
  ·cases hi
  ·cases hi
  ·cases hi
  ·cases hi;exact hz rfl
  ·omega

theorem lh (a:Option Addr) (len cap:Nat) (xs:List Vd) (w:World) (hr:ay w a len cap 8 (xs.map vdF)) (hl:len<=1048576) (hf:∀(j:Nat) x,xs[j]?=some x->x.zs.length<=1048576):
  Calls Tryz.prog 27 #[.slice a len cap] w fun e w'=>e=.returned (.slice (some ⟨w.heap.size,0,none⟩) len len)/\aw w' (some ⟨w.heap.size,0,none⟩) len len 8 118 (xs.map vdF) (fun k=>w.heap.size<=k)/\Below w.heap.size w w':=by
 obtain⟨HR,hvl⟩:=de;have HF:=aa hf;clear hr hf;obtain⟨i0,hi,hz0,hz1,hz2⟩:=info_parts jB;go_enter Tryz.func27,Tryz.ntmps27;go_wp2_with (at_make;refine wpList_make_full _ rfl _ _ 33 rfl w.heap.size 118 i0 (.agg #[.string ⟨#[]⟩,.int .i64 0,.string ⟨#[]⟩,.string ⟨#[]⟩,.bool false,.string ⟨#[]⟩,.bool false,.slice none 0 0]) 8 Tryz.underlying33 hi hz0 hz1 _ _ _ _ len rfl rfl ae ae eL dC (qF _) ?_);intro w1 hown hgrow;obtain⟨hnx1,HB⟩:=g_;have hc1:w1.heap[w.heap.size]?=some (.cells (madeCells #[.string ⟨#[]⟩,.int .i64 0,.string ⟨#[]⟩,.string ⟨#[]⟩,.bool false,.string ⟨#[]⟩,.bool false,.slice none 0 0] (len*8)) 118 (0,0)):=by
  obtain⟨h1,h2⟩:=hown;rcases h2 with ⟨h3,_⟩|⟨g',cap',cur,hv,hB,hh,_,_,hsz,htk⟩
  ·cases h3
  ·simp only[rO,ri,Addr.mk.injEq] at hv;obtain⟨⟨rfl,_,_⟩,_,rfl⟩:=hv;rw[qM (by simp[hsz])] at htk;have:cur=madeCells #[.string ⟨#[]⟩,.int .i64 0,.string ⟨#[]⟩,.string ⟨#[]⟩,.bool false,.string ⟨#[]⟩,.bool false,.slice none 0 0] (len*8):=by apply Array.ext';simpa using htk
   rw[this] at hh;simpa using hh
 have HP:Hid (aw w1 (some ⟨w.heap.size,0,none⟩) len len 8 118 ((xs.take 0++(qQ len vdZ).drop 0).map vdF) (fun k=>w.heap.size<=k)):=by
  have:=pG hc1 hl (fun k=>w.heap.size<=k) (qF _);simpa[Hid] using this
 have hZl:xs.length=(qQ len vdZ).length:=by simpa using hvl
 clear hown hgrow hi hz0 hz1 hz2 hnx1 hc1;go_wp2;go_loopw [4] (fun i wr=> ∃k:Nat,k<=len/\i=.int .i64 k/\Hid (aw wr (some ⟨w.heap.size,0,none⟩) len len 8 118 ((xs.take k++(qQ len vdZ).drop k).map vdF) (fun k=>w.heap.size<=k))/\Hid (Below w.heap.size w wr)) (fun i _=>len - (intOf i).toNat);case atStart=>exact⟨0,by omega,rfl,HP,HB⟩
 case round=>
  obtain⟨k,hk,rfl,HP,HB⟩:=hrel;by_cases hlt:k<len
  ·obtain⟨b,o,v,rfl,hb,hv,hat⟩:=bf (HR.below HB.out) hlt;obtain⟨va,vl,vc,hvr,z0,z2,z3,z5,c0,c1,c2,c3,c4,c5,c6,c7⟩:=aA hat;have HV:=aa hv;have Hz0:=aa z0;have Hz2:=aa z2;have Hz3:=aa z3;have Hz5:=aa z5;obtain⟨HT,hvl2,hvz,HVZ⟩:=lG;clear hvr hvz;clear hat hv z0 z2 z3 z5;have hzk:((xs.take k++(qQ len vdZ).drop k).map vdF)[k]?=some (vdF vdZ):=by
    exact eU
   obtain⟨g,hg,hs⟩:=HP.st (ax.refl _ _) hzk;cases hg;have HS:=aa hs;clear hs hzk HP;go_wp2_with fail;refine (fI v.n v.c v.z v.k v.x v.m v.y va vl vc v.zs _ HT.out hvl2).mono ?_;rintro e w2 ⟨rfl,hG,hb2⟩;have HB2:=upB HB hb2;have h1:StJ w.heap.size 8 118 (fun k=>w.heap.size<=k) (fun k=>wr.heap.size<=k) wr w2 ((xs.take k++(qQ len vdZ).drop k).map vdF) k [.s vdZ.n,.i vdZ.c,.s vdZ.z,.s vdZ.k,.b vdZ.x,.s vdZ.m,.b vdZ.y,.l vdZ.zs]:=HS.fresh hb2;have hL:iL w2 (wr.heap.size+1+1+1) (fun k=>w.heap.size<=k) w.heap.size v.zs (.slice (some ⟨wr.heap.size+1+1+1,0,none⟩) vl vl):=by
    exact jc
   have HL:=aa hL;clear hG hL;obtain⟨q0,e0⟩:=h1.cell (i:=0) rfl;have f0:=h1.bF (k*8);obtain⟨q1,e1⟩:=h1.cell (i:=1) rfl;have f1:=h1.bF (k*8+1);obtain⟨q2,e2⟩:=h1.cell (i:=2) rfl;have f2:=h1.bF (k*8+2);obtain⟨q3,e3⟩:=h1.cell (i:=3) rfl;have f3:=h1.bF (k*8+3);obtain⟨q4,e4⟩:=h1.cell (i:=4) rfl;have f4:=h1.bF (k*8+4);obtain⟨q5,e5⟩:=h1.cell (i:=5) rfl;have f5:=h1.bF (k*8+5);obtain⟨q6,e6⟩:=h1.cell (i:=6) rfl;have f6:=h1.bF (k*8+6);obtain⟨q7,e7⟩:=h1.cell (i:=7) rfl;have f7:=h1.bF (k*8+7);rw[rG] at e0;have HZ:=aa (((((((((h1).bR (i:=0) rfl v.n Hz0.out).ew (i:=1) rfl v.c).bR (i:=2) rfl v.z Hz2.out).bR (i:=3) rfl v.k Hz3.out).ey (i:=4) rfl v.x).bR (i:=5) rfl v.m Hz5.out).ey (i:=6) rfl v.y).po (i:=7) rfl v.zs (fun _=>by show wr.heap.size<=_;omega) (Fv.Own.aQ (u:=.l v.zs) (Fv.Own.aQ (u:=.l v.zs) (Fv.Own.aQ (u:=.l v.zs) (Fv.Own.aQ (u:=.l v.zs) (Fv.Own.aQ (u:=.l v.zs) (Fv.Own.aQ (u:=.l v.zs) (Fv.Own.aQ (u:=.l v.zs) (HL.out)))))))));clear h1 hb2 c0 c1 c2 c3 c4 c5 c6 c7 hb;go_wp2_with fail;refine⟨⟨k+1,by omega,by go_num,?_,af (qF _) (af (qF _) (af (qF _) (af (qF _) (af (qF _) (af (qF _) (af (qF _) (af (qF _) (HB2.out))))))))⟩,by simp[intOf];omega⟩;obtain⟨⟨cur,H,h2,-⟩,-,-⟩:=HZ.out;have h3:(((xs.take k++(qQ len vdZ).drop k).map vdF).set k (vdF v))=(xs.take (k+1)++(qQ len vdZ).drop (k+1)).map vdF:=by
    rw[<-List.map_set,bj hZl HV.out]
   have h4:bW _ w.heap.size 8 118 (((xs.take k++(qQ len vdZ).drop k).map vdF).set k (vdF v)) (fun k=>w.heap.size<=k) cur H:=h2;exact ik
  ·exact iv

theorem jA:(Tryz.prog.info? 120).map (fun i=>(i.zero,i.size,i.bytes))=some (some (.agg #[.string ⟨#[]⟩,.int .i64 0,.string ⟨#[]⟩,.bool false,.string ⟨#[]⟩]),5,64):=by kernel_rfl
def xdZ:Xd:=⟨⟨#[]⟩,0,⟨#[]⟩,false,⟨#[]⟩⟩

theorem pF {w:World} {g len:Nat} (h:w.heap[g]?=some (.cells (madeCells #[.string ⟨#[]⟩,.int .i64 0,.string ⟨#[]⟩,.bool false,.string ⟨#[]⟩] (len*5)) 120 (0,0))) (hl:len<=1048576) (S:Nat->Prop) (hS:S g):
  aw w (some ⟨g,0,none⟩) len len 5 120 ((qQ len xdZ).map xdF) S:=by
 refine⟨by simp,qF _,by omega,.inr ⟨g,_,fun _ _=>0,rfl,h,hS,?_,?_,?_⟩⟩
 ·exact ij
 ·intro j r hr i f hi;rw[qT] at hr;obtain⟨x,hx,rfl⟩:=qL.1 hr;have hj:j<len:=by have:=(qE.1 hx).1;simpa using this
  obtain rfl:x=xdZ:=by
   exact dh
  have him:i<5:=(qE.1 hi).1;have hlt:j*5+i<len*5:=ae
  have hcell:(madeCells #[.string ⟨#[]⟩,.int .i64 0,.string ⟨#[]⟩,.bool false,.string ⟨#[]⟩] (len*5))[j*5+i]?=some (#[.string ⟨#[]⟩,.int .i64 0,.string ⟨#[]⟩,.bool false,.string ⟨#[]⟩][i]!):=by
   unfold madeCells;rw[rV,rQ];rw[if_pos hlt];have:(j*5+i) % 5=i:=ae
   simp[this]
  refine⟨_,hcell,?_⟩;rcases i with _|_|_|_|_|i
  ·cases hi;exact⟨rfl,by decide⟩
  ·cases hi;exact rfl
  ·cases hi;exact⟨rfl,by decide⟩
  ·cases hi;exact rfl
  ·cases hi;exact⟨rfl,by decide⟩
  ·omega
 ·intro j r i zs j' r' i' zs' hr hi hz;exfalso;rw[qT] at hr;obtain⟨x,hx,rfl⟩:=qL.1 hr;obtain rfl:x=xdZ:=by
   exact dh
  have him:i<5:=(qE.1 hi).1;rcases i with _|_|_|_|_|i
  ·cases hi
  ·cases hi
  ·cases hi
  ·cases hi
  ·cases hi
  ·omega

theorem lg (a:Option Addr) (len cap:Nat) (xs:List Xd) (w:World) (hr:ay w a len cap 5 (xs.map xdF)) (hl:len<=1048576):
  Calls Tryz.prog 28 #[.slice a len cap] w fun e w'=>e=.returned (.slice (some ⟨w.heap.size,0,none⟩) len len)/\aw w' (some ⟨w.heap.size,0,none⟩) len len 5 120 (xs.map xdF) (fun k=>w.heap.size<=k)/\Below w.heap.size w w':=by
 obtain⟨HR,hvl⟩:=de;skip;clear hr;obtain⟨i0,hi,hz0,hz1,hz2⟩:=info_parts jA;go_enter Tryz.func28,Tryz.ntmps28;go_wp2_with (at_make;refine wpList_make_full _ rfl _ _ 34 rfl w.heap.size 120 i0 (.agg #[.string ⟨#[]⟩,.int .i64 0,.string ⟨#[]⟩,.bool false,.string ⟨#[]⟩]) 5 Tryz.underlying34 hi hz0 hz1 _ _ _ _ len rfl rfl ae ae eL dC (qF _) ?_);intro w1 hown hgrow;obtain⟨hnx1,HB⟩:=g_;have hc1:w1.heap[w.heap.size]?=some (.cells (madeCells #[.string ⟨#[]⟩,.int .i64 0,.string ⟨#[]⟩,.bool false,.string ⟨#[]⟩] (len*5)) 120 (0,0)):=by
  obtain⟨h1,h2⟩:=hown;rcases h2 with ⟨h3,_⟩|⟨g',cap',cur,hv,hB,hh,_,_,hsz,htk⟩
  ·cases h3
  ·simp only[rO,ri,Addr.mk.injEq] at hv;obtain⟨⟨rfl,_,_⟩,_,rfl⟩:=hv;rw[qM (by simp[hsz])] at htk;have:cur=madeCells #[.string ⟨#[]⟩,.int .i64 0,.string ⟨#[]⟩,.bool false,.string ⟨#[]⟩] (len*5):=by apply Array.ext';simpa using htk
   rw[this] at hh;simpa using hh
 have HP:Hid (aw w1 (some ⟨w.heap.size,0,none⟩) len len 5 120 ((xs.take 0++(qQ len xdZ).drop 0).map xdF) (fun k=>w.heap.size<=k)):=by
  have:=pF hc1 hl (fun k=>w.heap.size<=k) (qF _);simpa[Hid] using this
 have hZl:xs.length=(qQ len xdZ).length:=by simpa using hvl
 clear hown hgrow hi hz0 hz1 hz2 hnx1 hc1;go_wp2;go_loopw [4] (fun i wr=> ∃k:Nat,k<=len/\i=.int .i64 k/\Hid (aw wr (some ⟨w.heap.size,0,none⟩) len len 5 120 ((xs.take k++(qQ len xdZ).drop k).map xdF) (fun k=>w.heap.size<=k))/\Hid (Below w.heap.size w wr)) (fun i _=>len - (intOf i).toNat);case atStart=>exact⟨0,by omega,rfl,HP,HB⟩
 case round=>
  obtain⟨k,hk,rfl,HP,HB⟩:=hrel;by_cases hlt:k<len
  ·obtain⟨b,o,v,rfl,hb,hv,hat⟩:=ch (HR.below HB.out) hlt;obtain⟨z0,z2,z4,c0,c1,c2,c3,c4⟩:=aS hat;have HV:=aa hv;have Hz0:=aa z0;have Hz2:=aa z2;have Hz4:=aa z4;clear hat hv z0 z2 z4;have hzk:((xs.take k++(qQ len xdZ).drop k).map xdF)[k]?=some (xdF xdZ):=by
    exact eU
   obtain⟨g,hg,hs⟩:=HP.st (ax.refl _ _) hzk;cases hg;have HS:=aa hs;clear hs hzk HP;go_wp2_with fail;refine (gz v.n v.z v.k v.x v.v _).mono ?_;rintro e w2 ⟨rfl,hb2⟩;have HB2:=upB HB hb2;have h1:StJ w.heap.size 5 120 (fun k=>w.heap.size<=k) (fun k=>wr.heap.size<=k) wr w2 ((xs.take k++(qQ len xdZ).drop k).map xdF) k [.s xdZ.n,.i xdZ.z,.s xdZ.k,.b xdZ.x,.s xdZ.v]:=HS.fresh hb2;obtain⟨q0,e0⟩:=h1.cell (i:=0) rfl;have f0:=h1.bF (k*5);obtain⟨q1,e1⟩:=h1.cell (i:=1) rfl;have f1:=h1.bF (k*5+1);obtain⟨q2,e2⟩:=h1.cell (i:=2) rfl;have f2:=h1.bF (k*5+2);obtain⟨q3,e3⟩:=h1.cell (i:=3) rfl;have f3:=h1.bF (k*5+3);obtain⟨q4,e4⟩:=h1.cell (i:=4) rfl;have f4:=h1.bF (k*5+4);rw[rG] at e0;have HZ:=aa ((((((h1).bR (i:=0) rfl v.n Hz0.out).ew (i:=1) rfl v.z).bR (i:=2) rfl v.k Hz2.out).ey (i:=3) rfl v.x).bR (i:=4) rfl v.v Hz4.out);clear h1 hb2 c0 c1 c2 c3 c4 hb;go_wp2_with fail;refine⟨⟨k+1,by omega,by go_num,?_,af (qF _) (af (qF _) (af (qF _) (af (qF _) (af (qF _) (HB2.out)))))⟩,by simp[intOf];omega⟩;obtain⟨⟨cur,H,h2,-⟩,-,-⟩:=HZ.out;have h3:(((xs.take k++(qQ len xdZ).drop k).map xdF).set k (xdF v))=(xs.take (k+1)++(qQ len xdZ).drop (k+1)).map xdF:=by
    rw[<-List.map_set,bj hZl HV.out]
   have h4:bW _ w.heap.size 5 120 (((xs.take k++(qQ len xdZ).drop k).map xdF).set k (xdF v)) (fun k=>w.heap.size<=k) cur H:=h2;exact ik
  ·exact iv

theorem jC:(Tryz.prog.info? 65).map (fun i=>(i.zero,i.size,i.bytes))=some (some (.agg #[.string ⟨#[]⟩,.int .i64 0,.string ⟨#[]⟩,.slice none 0 0,.string ⟨#[]⟩,.int .i64 0]),6,88):=by kernel_rfl
def pdZ:Pd:=⟨⟨#[]⟩,0,⟨#[]⟩,[],⟨#[]⟩,0⟩

theorem pH {w:World} {g len:Nat} (h:w.heap[g]?=some (.cells (madeCells #[.string ⟨#[]⟩,.int .i64 0,.string ⟨#[]⟩,.slice none 0 0,.string ⟨#[]⟩,.int .i64 0] (len*6)) 65 (0,0))) (hl:len<=1048576) (S:Nat->Prop) (hS:S g):
  aw w (some ⟨g,0,none⟩) len len 6 65 ((qQ len pdZ).map pdF) S:=by
 refine⟨by simp,qF _,by omega,.inr ⟨g,_,fun _ _=>0,rfl,h,hS,?_,?_,?_⟩⟩
 ·exact ij
 ·intro j r hr i f hi;rw[qT] at hr;obtain⟨x,hx,rfl⟩:=qL.1 hr;have hj:j<len:=by have:=(qE.1 hx).1;simpa using this
  obtain rfl:x=pdZ:=by
   exact dh
  have him:i<6:=(qE.1 hi).1;have hlt:j*6+i<len*6:=ae
  have hcell:(madeCells #[.string ⟨#[]⟩,.int .i64 0,.string ⟨#[]⟩,.slice none 0 0,.string ⟨#[]⟩,.int .i64 0] (len*6))[j*6+i]?=some (#[.string ⟨#[]⟩,.int .i64 0,.string ⟨#[]⟩,.slice none 0 0,.string ⟨#[]⟩,.int .i64 0][i]!):=by
   unfold madeCells;rw[rV,rQ];rw[if_pos hlt];have:(j*6+i) % 6=i:=ae
   simp[this]
  refine⟨_,hcell,?_⟩;rcases i with _|_|_|_|_|_|i
  ·cases hi;exact⟨rfl,by decide⟩
  ·cases hi;exact rfl
  ·cases hi;exact⟨rfl,by decide⟩
  ·cases hi;exact⟨none,0,0,rfl,rfl,qF _,by decide,fun j x hx=>by simp[pdZ] at hx,.inl rfl⟩
  ·cases hi;exact⟨rfl,by decide⟩
  ·cases hi;exact rfl
  ·omega
 ·intro j r i zs j' r' i' zs' hr hi hz;exfalso;rw[qT] at hr;obtain⟨x,hx,rfl⟩:=qL.1 hr;obtain rfl:x=pdZ:=by
   exact dh
  have him:i<6:=(qE.1 hi).1;rcases i with _|_|_|_|_|_|i
  ·cases hi
  ·cases hi
  ·cases hi
  ·cases hi;exact hz rfl
  ·cases hi
  ·cases hi
  ·omega

theorem lj (a:Option Addr) (len cap:Nat) (xs:List Pd) (w:World) (hr:ay w a len cap 6 (xs.map pdF)) (hl:len<=1048576) (hf:∀(j:Nat) x,xs[j]?=some x->x.zs.length<=1048576):
  Calls Tryz.prog 29 #[.slice a len cap] w fun e w'=>e=.returned (.slice (some ⟨w.heap.size,0,none⟩) len len)/\aw w' (some ⟨w.heap.size,0,none⟩) len len 6 65 (xs.map pdF) (fun k=>w.heap.size<=k)/\Below w.heap.size w w':=by
 obtain⟨HR,hvl⟩:=de;have HF:=aa hf;clear hr hf;obtain⟨i0,hi,hz0,hz1,hz2⟩:=info_parts jC;go_enter Tryz.func29,Tryz.ntmps29;go_wp2_with (at_make;refine wpList_make_full _ rfl _ _ 35 rfl w.heap.size 65 i0 (.agg #[.string ⟨#[]⟩,.int .i64 0,.string ⟨#[]⟩,.slice none 0 0,.string ⟨#[]⟩,.int .i64 0]) 6 Tryz.underlying35 hi hz0 hz1 _ _ _ _ len rfl rfl ae ae eL dC (qF _) ?_);intro w1 hown hgrow;obtain⟨hnx1,HB⟩:=g_;have hc1:w1.heap[w.heap.size]?=some (.cells (madeCells #[.string ⟨#[]⟩,.int .i64 0,.string ⟨#[]⟩,.slice none 0 0,.string ⟨#[]⟩,.int .i64 0] (len*6)) 65 (0,0)):=by
  obtain⟨h1,h2⟩:=hown;rcases h2 with ⟨h3,_⟩|⟨g',cap',cur,hv,hB,hh,_,_,hsz,htk⟩
  ·cases h3
  ·simp only[rO,ri,Addr.mk.injEq] at hv;obtain⟨⟨rfl,_,_⟩,_,rfl⟩:=hv;rw[qM (by simp[hsz])] at htk;have:cur=madeCells #[.string ⟨#[]⟩,.int .i64 0,.string ⟨#[]⟩,.slice none 0 0,.string ⟨#[]⟩,.int .i64 0] (len*6):=by apply Array.ext';simpa using htk
   rw[this] at hh;simpa using hh
 have HP:Hid (aw w1 (some ⟨w.heap.size,0,none⟩) len len 6 65 ((xs.take 0++(qQ len pdZ).drop 0).map pdF) (fun k=>w.heap.size<=k)):=by
  have:=pH hc1 hl (fun k=>w.heap.size<=k) (qF _);simpa[Hid] using this
 have hZl:xs.length=(qQ len pdZ).length:=by simpa using hvl
 clear hown hgrow hi hz0 hz1 hz2 hnx1 hc1;go_wp2;go_loopw [4] (fun i wr=> ∃k:Nat,k<=len/\i=.int .i64 k/\Hid (aw wr (some ⟨w.heap.size,0,none⟩) len len 6 65 ((xs.take k++(qQ len pdZ).drop k).map pdF) (fun k=>w.heap.size<=k))/\Hid (Below w.heap.size w wr)) (fun i _=>len - (intOf i).toNat);case atStart=>exact⟨0,by omega,rfl,HP,HB⟩
 case round=>
  obtain⟨k,hk,rfl,HP,HB⟩:=hrel;by_cases hlt:k<len
  ·obtain⟨b,o,v,rfl,hb,hv,hat⟩:=bI (HR.below HB.out) hlt;obtain⟨va,vl,vc,hvr,z0,z2,z4,c0,c1,c2,c3,c4,c5⟩:=aM hat;have HV:=aa hv;have Hz0:=aa z0;have Hz2:=aa z2;have Hz4:=aa z4;obtain⟨HT,hvl2,hvz,HVZ⟩:=lG;clear hvr hvz;clear hat hv z0 z2 z4;have hzk:((xs.take k++(qQ len pdZ).drop k).map pdF)[k]?=some (pdF pdZ):=by
    exact eU
   obtain⟨g,hg,hs⟩:=HP.st (ax.refl _ _) hzk;cases hg;have HS:=aa hs;clear hs hzk HP;go_wp2_with fail;refine (kJ v.n v.c v.z va vl vc v.zs v.d v.p _ HT.out hvl2).mono ?_;rintro e w2 ⟨rfl,hG,hb2⟩;have HB2:=upB HB hb2;have h1:StJ w.heap.size 6 65 (fun k=>w.heap.size<=k) (fun k=>wr.heap.size<=k) wr w2 ((xs.take k++(qQ len pdZ).drop k).map pdF) k [.s pdZ.n,.i pdZ.c,.s pdZ.z,.l pdZ.zs,.s pdZ.d,.i pdZ.p]:=HS.fresh hb2;have hL:iL w2 (wr.heap.size+1+1+1) (fun k=>w.heap.size<=k) w.heap.size v.zs (.slice (some ⟨wr.heap.size+1+1+1,0,none⟩) vl vl):=by
    exact jc
   have HL:=aa hL;clear hG hL;obtain⟨q0,e0⟩:=h1.cell (i:=0) rfl;have f0:=h1.bF (k*6);obtain⟨q1,e1⟩:=h1.cell (i:=1) rfl;have f1:=h1.bF (k*6+1);obtain⟨q2,e2⟩:=h1.cell (i:=2) rfl;have f2:=h1.bF (k*6+2);obtain⟨q3,e3⟩:=h1.cell (i:=3) rfl;have f3:=h1.bF (k*6+3);obtain⟨q4,e4⟩:=h1.cell (i:=4) rfl;have f4:=h1.bF (k*6+4);obtain⟨q5,e5⟩:=h1.cell (i:=5) rfl;have f5:=h1.bF (k*6+5);rw[rG] at e0;have HZ:=aa (((((((h1).bR (i:=0) rfl v.n Hz0.out).ew (i:=1) rfl v.c).bR (i:=2) rfl v.z Hz2.out).po (i:=3) rfl v.zs (fun _=>by show wr.heap.size<=_;omega) (Fv.Own.aQ (u:=.l v.zs) (Fv.Own.aQ (u:=.l v.zs) (Fv.Own.aQ (u:=.l v.zs) (HL.out))))).bR (i:=4) rfl v.d Hz4.out).ew (i:=5) rfl v.p);clear h1 hb2 c0 c1 c2 c3 c4 c5 hb;go_wp2_with fail;refine⟨⟨k+1,by omega,by go_num,?_,af (qF _) (af (qF _) (af (qF _) (af (qF _) (af (qF _) (af (qF _) (HB2.out))))))⟩,by simp[intOf];omega⟩;obtain⟨⟨cur,H,h2,-⟩,-,-⟩:=HZ.out;have h3:(((xs.take k++(qQ len pdZ).drop k).map pdF).set k (pdF v))=(xs.take (k+1)++(qQ len pdZ).drop (k+1)).map pdF:=by
    rw[<-List.map_set,bj hZl HV.out]
   have h4:bW _ w.heap.size 6 65 (((xs.take k++(qQ len pdZ).drop k).map pdF).set k (pdF v)) (fun k=>w.heap.size<=k) cur H:=h2;exact ik
  ·exact iv

structure eu (c:Cl):Prop where
 l1:c.ns.length<=1048576
 f1:∀(j:Nat) x,c.ns[j]?=some x->x.zs.length<=1048576
 l2:c.ks.length<=1048576
 l3:c.vs.length<=1048576
 f3:∀(j:Nat) x,c.vs[j]?=some x->x.zs.length<=1048576
 l4:c.xs.length<=1048576
 l5:c.ps.length<=1048576
 f5:∀(j:Nat) x,c.ps[j]?=some x->x.zs.length<=1048576

theorem fk (d:Ad) (c:Cl) (w:World) (hr:aK w d c.raw):
  Calls Tryz.prog 5 #[.agg #[.slice d.a1 d.l1 d.c1,.slice d.a2 d.l2 d.c2,.slice d.a3 d.l3 d.c3,.slice d.a4 d.l4 d.c4,.slice d.a5 d.l5 d.c5,.int .i64 c.now],.int .i64 1048576] w (SzB 1048576 (eu c) w):=by
 obtain⟨HR,HB⟩:=eM;clear hr;go_enter Tryz.func5,Tryz.ntmps5;go_wp2_with fail;refine (lu d.a1 d.l1 d.c1 c.ns 1048576 _ (HR.n.below (HB.trans ((ai _ _).mono HB.size))) ae ae).mono ?_;rintro e w1 ⟨r1,rfl,hi,hb⟩;obtain⟨HA0,hbx⟩:=aJ hb;have Bk:=aa HA0;replace HB:=upB HB hbx;clear hb hbx HA0;rcases hi with rfl|⟨hr10,hr11,hz1⟩
 ·exact ic
 have HZ1:=aa hz1;clear hz1;obtain⟨k0,k1,k2,k3,k4,k5⟩:=cs6 Bk;go_wp2_with fail;refine (lv d.a2 d.l2 d.c2 c.ks r1 _ (HR.k.below HB.out) ae ae).mono ?_;rintro e w2 ⟨r2,rfl,hi,hb⟩;clear k0 k1 k2 k3 k4 k5;replace Bk:=upK Bk hb;replace HB:=upB HB hb;clear hb;rcases hi with rfl|⟨hr20,hr21,hz2⟩
 ·exact ic
 have HZ2:=aa hz2;clear hz2;obtain⟨k0,k1,k2,k3,k4,k5⟩:=cs6 Bk;go_wp2_with fail;refine (lq d.a3 d.l3 d.c3 c.vs r2 _ (HR.v.below HB.out) ae ae).mono ?_;rintro e w3 ⟨r3,rfl,hi,hb⟩;clear k0 k1 k2 k3 k4 k5;replace Bk:=upK Bk hb;replace HB:=upB HB hb;clear hb;rcases hi with rfl|⟨hr30,hr31,hz3⟩
 ·exact ic
 have HZ3:=aa hz3;clear hz3;obtain⟨k0,k1,k2,k3,k4,k5⟩:=cs6 Bk;go_wp2_with fail;refine (lp d.a4 d.l4 d.c4 c.xs r3 _ (HR.x.below HB.out) ae ae).mono ?_;rintro e w4 ⟨r4,rfl,hi,hb⟩;clear k0 k1 k2 k3 k4 k5;replace Bk:=upK Bk hb;replace HB:=upB HB hb;clear hb;rcases hi with rfl|⟨hr40,hr41,hz4⟩
 ·exact ic
 have HZ4:=aa hz4;clear hz4;obtain⟨k0,k1,k2,k3,k4,k5⟩:=cs6 Bk;go_wp2_with fail;refine (lr d.a5 d.l5 d.c5 c.ps r4 _ (HR.p.below HB.out) ae ae).mono ?_;rintro e w5 ⟨r5,rfl,hi,hb⟩;clear k0 k1 k2 k3 k4 k5;replace Bk:=upK Bk hb;replace HB:=upB HB hb;clear hb;rcases hi with rfl|⟨hr50,hr51,hz5⟩
 ·exact ic
 have HZ5:=aa hz5;clear hz5;go_wp2;go_ret;refine⟨r5,rfl,.inr ⟨by omega,by omega,?_⟩,HB.out⟩;have e1:c.ns.length=d.l1:=by simpa using (show (c.ns.map ndF).length=d.l1 from HR.n.1)
 have e2:c.ks.length=d.l2:=by simpa using (show (c.ks.map kdF).length=d.l2 from HR.k.1)
 have e3:c.vs.length=d.l3:=by simpa using (show (c.vs.map vdF).length=d.l3 from HR.v.1)
 have e4:c.xs.length=d.l4:=by simpa using (show (c.xs.map xdF).length=d.l4 from HR.x.1)
 have e5:c.ps.length=d.l5:=by simpa using (show (c.ps.map pdF).length=d.l5 from HR.p.1)
 exact⟨by rw[e1];exact HZ1.1,HZ1.2,by rw[e2];exact HZ2.out,by rw[e3];exact HZ3.1,HZ3.2,by rw[e4];exact HZ4.out,by rw[e5];exact HZ5.1,HZ5.2⟩

theorem bO (d:Ad) (c:Cl) (w:World) (hr:aK w d c.raw) (hf:eu c):
  Calls Tryz.prog 7 #[.agg #[.slice d.a1 d.l1 d.c1,.slice d.a2 d.l2 d.c2,.slice d.a3 d.l3 d.c3,.slice d.a4 d.l4 d.c4,.slice d.a5 d.l5 d.c5,.int .i64 c.now]] w fun e w'=> ∃d':Ad,e=.returned (.agg #[.slice d'.a1 d'.l1 d'.c1,.slice d'.a2 d'.l2 d'.c2,.slice d'.a3 d'.l3 d'.c3,.slice d'.a4 d'.l4 d'.c4,.slice d'.a5 d'.l5 d'.c5,.int .i64 c.now])/\br w' d' c.raw (fun k=>w.heap.size<=k)/\Below w.heap.size w w':=by
 have HR:=aa hr;have HF:=aa hf;have e1:c.ns.length=d.l1:=by simpa using (show (c.ns.map ndF).length=d.l1 from hr.n.1)
 have hL1:d.l1<=1048576:=by rw[<-e1];exact hf.l1
 have e2:c.ks.length=d.l2:=by simpa using (show (c.ks.map kdF).length=d.l2 from hr.k.1)
 have hL2:d.l2<=1048576:=by rw[<-e2];exact hf.l2
 have e3:c.vs.length=d.l3:=by simpa using (show (c.vs.map vdF).length=d.l3 from hr.v.1)
 have hL3:d.l3<=1048576:=by rw[<-e3];exact hf.l3
 have e4:c.xs.length=d.l4:=by simpa using (show (c.xs.map xdF).length=d.l4 from hr.x.1)
 have hL4:d.l4<=1048576:=by rw[<-e4];exact hf.l4
 have e5:c.ps.length=d.l5:=by simpa using (show (c.ps.map pdF).length=d.l5 from hr.p.1)
 have hL5:d.l5<=1048576:=by rw[<-e5];exact hf.l5
 clear hr hf e1 e2 e3 e4 e5;obtain⟨X0,hX0⟩:∃X,X=((w.alloc (.cells (clv d c.now) 28)).alloc (.cells (clo6 none 0 0 none 0 0 none 0 0 none 0 0 none 0 0 0) 37)).alloc (.cells (clo6 none 0 0 none 0 0 none 0 0 none 0 0 none 0 0 0) 37):=⟨_,rfl⟩;have B0:Hid (Below w.heap.size w X0):=by rw[hX0];exact bu _ _ _ _
 have bx0:Hid (X0.heap[w.heap.size]?=some (.cells (clv d c.now) 28 (0,0))):=by rw[hX0];exact eG _ _ _ _
 have br0:Hid (X0.heap[w.heap.size+1]?=some (.cells (clo6 none 0 0 none 0 0 none 0 0 none 0 0 none 0 0 0) 37 (0,0))):=by rw[hX0];exact da _ _ _ _
 have bl0:Hid (X0.heap[w.heap.size+1+1]?=some (.cells (clo6 none 0 0 none 0 0 none 0 0 none 0 0 none 0 0 0) 37 (0,0))):=by rw[hX0];exact c_ _ _ _ _
 have hs0:=ab bl0.out;go_enter Tryz.func7,Tryz.ntmps7;go_wp2_with fail;rw[<-hX0];clear hX0;refine (lk d.a1 d.l1 d.c1 c.ns _ (HR.n.below B0.out) hL1 HF.f1).mono ?_;rintro e w1 ⟨rfl,ho,hb⟩;have hsz1:=hb.size;have gx:=(hb.block _ (ab bx0.out)).trans bx0.out;have gr:=(hb.block _ (ab br0.out)).trans br0.out;have gl:=(hb.block _ (ab bl0.out)).trans bl0.out;have gB:=B0.trans (hb.mono B0.size);have P1:=aa ho;clear ho hb bx0 br0 bl0 B0;have pl:=ck0 gl;have fl:=au gl 0;have px:=ck1 gx;obtain⟨X1,hX1⟩:∃X,X=w1.setCell ⟨w.heap.size+1+1,0,none⟩ (.slice (some ⟨X0.heap.size,0,none⟩) d.l1 d.l1):=⟨_,rfl⟩;have hxa1:X1.heap.size<=w1.heap.size:=by rw[hX1];simp[re]
 have hxb1:w1.heap.size<=X1.heap.size:=by rw[hX1];simp[re]
 have bx1:Hid (X1.heap[w.heap.size]?=some (.cells (clv d c.now) 28 (0,0))):=by rw[hX1];exact az ae gx
 have br1:Hid (X1.heap[w.heap.size+1]?=some (.cells (clo6 none 0 0 none 0 0 none 0 0 none 0 0 none 0 0 0) 37 (0,0))):=by rw[hX1];exact az ae gr
 have bl1:Hid (X1.heap[w.heap.size+1+1]?=some (.cells (clo6 (some ⟨X0.heap.size,0,none⟩) d.l1 d.l1 none 0 0 none 0 0 none 0 0 none 0 0 0) 37 (0,0))):=by rw[hX1];have:=aC (i:=0) gl (.slice (some ⟨X0.heap.size,0,none⟩) d.l1 d.l1);simpa[Hid] using this
 have B1:Hid (Below w.heap.size w X1):=by rw[hX1];exact af ae gB
 have O1:=aa (P1.aG (w':=X1) (fun k hk s=>by rw[hX1];exact qH _ _ _ _ (show k≠w.heap.size+1+1 by have h9:X0.heap.size<=k:=s;omega)) (fun k hk s=>(⟨s,hk⟩:X0.heap.size<=k/\k<w1.heap.size)));clear gx gr gl gB P1;go_wp2_with fail;rw[<-hX1];clear hX1;clear pl fl px;refine (ln d.a2 d.l2 d.c2 c.ks _ (HR.k.below B1.out) hL2).mono ?_;rintro e w2 ⟨rfl,ho,hb⟩;have hsz2:=hb.size;have gx:=(hb.block _ (ab bx1.out)).trans bx1.out;have gr:=(hb.block _ (ab br1.out)).trans br1.out;have gl:=(hb.block _ (ab bl1.out)).trans bl1.out;have gB:=B1.trans (hb.mono B1.size);have P2:=aa ho;have Q1:=aa (O1.below hb);clear ho hb bx1 br1 bl1 B1 O1;have pl:=ck1 gl;have fl:=au gl 1;have px:=ck2 gx;obtain⟨X2,hX2⟩:∃X,X=w2.setCell ⟨w.heap.size+1+1,1,none⟩ (.slice (some ⟨X1.heap.size,0,none⟩) d.l2 d.l2):=⟨_,rfl⟩;have hxa2:X2.heap.size<=w2.heap.size:=by rw[hX2];simp[re]
 have hxb2:w2.heap.size<=X2.heap.size:=by rw[hX2];simp[re]
 have bx2:Hid (X2.heap[w.heap.size]?=some (.cells (clv d c.now) 28 (0,0))):=by rw[hX2];exact az ae gx
 have br2:Hid (X2.heap[w.heap.size+1]?=some (.cells (clo6 none 0 0 none 0 0 none 0 0 none 0 0 none 0 0 0) 37 (0,0))):=by rw[hX2];exact az ae gr
 have bl2:Hid (X2.heap[w.heap.size+1+1]?=some (.cells (clo6 (some ⟨X0.heap.size,0,none⟩) d.l1 d.l1 (some ⟨X1.heap.size,0,none⟩) d.l2 d.l2 none 0 0 none 0 0 none 0 0 0) 37 (0,0))):=by rw[hX2];have:=aC (i:=1) gl (.slice (some ⟨X1.heap.size,0,none⟩) d.l2 d.l2);simpa[Hid] using this
 have B2:Hid (Below w.heap.size w X2):=by rw[hX2];exact af ae gB
 have O1:=aa (Q1.aG (w':=X2) (fun k hk s=>by rw[hX2];exact qH _ _ _ _ (show k≠w.heap.size+1+1 by have h9:X0.heap.size<=k:=s.1;omega)) (fun k hk s=>s));have O2:=aa (P2.aG (w':=X2) (fun k hk s=>by rw[hX2];exact qH _ _ _ _ (show k≠w.heap.size+1+1 by have h9:X1.heap.size<=k:=s;omega)) (fun k hk s=>(⟨s,hk⟩:X1.heap.size<=k/\k<w2.heap.size)));clear gx gr gl gB P2 Q1;go_wp2_with fail;rw[<-hX2];clear hX2;clear pl fl px;refine (lh d.a3 d.l3 d.c3 c.vs _ (HR.v.below B2.out) hL3 HF.f3).mono ?_;rintro e w3 ⟨rfl,ho,hb⟩;have hsz3:=hb.size;have gx:=(hb.block _ (ab bx2.out)).trans bx2.out;have gr:=(hb.block _ (ab br2.out)).trans br2.out;have gl:=(hb.block _ (ab bl2.out)).trans bl2.out;have gB:=B2.trans (hb.mono B2.size);have P3:=aa ho;have Q1:=aa (O1.below hb);have Q2:=aa (O2.below hb);clear ho hb bx2 br2 bl2 B2 O1 O2;have pl:=ck2 gl;have fl:=au gl 2;have px:=ck3 gx;obtain⟨X3,hX3⟩:∃X,X=w3.setCell ⟨w.heap.size+1+1,2,none⟩ (.slice (some ⟨X2.heap.size,0,none⟩) d.l3 d.l3):=⟨_,rfl⟩;have hxa3:X3.heap.size<=w3.heap.size:=by rw[hX3];simp[re]
 have hxb3:w3.heap.size<=X3.heap.size:=by rw[hX3];simp[re]
 have bx3:Hid (X3.heap[w.heap.size]?=some (.cells (clv d c.now) 28 (0,0))):=by rw[hX3];exact az ae gx
 have br3:Hid (X3.heap[w.heap.size+1]?=some (.cells (clo6 none 0 0 none 0 0 none 0 0 none 0 0 none 0 0 0) 37 (0,0))):=by rw[hX3];exact az ae gr
 have bl3:Hid (X3.heap[w.heap.size+1+1]?=some (.cells (clo6 (some ⟨X0.heap.size,0,none⟩) d.l1 d.l1 (some ⟨X1.heap.size,0,none⟩) d.l2 d.l2 (some ⟨X2.heap.size,0,none⟩) d.l3 d.l3 none 0 0 none 0 0 0) 37 (0,0))):=by rw[hX3];have:=aC (i:=2) gl (.slice (some ⟨X2.heap.size,0,none⟩) d.l3 d.l3);simpa[Hid] using this
 have B3:Hid (Below w.heap.size w X3):=by rw[hX3];exact af ae gB
 have O1:=aa (Q1.aG (w':=X3) (fun k hk s=>by rw[hX3];exact qH _ _ _ _ (show k≠w.heap.size+1+1 by have h9:X0.heap.size<=k:=s.1;omega)) (fun k hk s=>s));have O2:=aa (Q2.aG (w':=X3) (fun k hk s=>by rw[hX3];exact qH _ _ _ _ (show k≠w.heap.size+1+1 by have h9:X1.heap.size<=k:=s.1;omega)) (fun k hk s=>s));have O3:=aa (P3.aG (w':=X3) (fun k hk s=>by rw[hX3];exact qH _ _ _ _ (show k≠w.heap.size+1+1 by have h9:X2.heap.size<=k:=s;omega)) (fun k hk s=>(⟨s,hk⟩:X2.heap.size<=k/\k<w3.heap.size)));clear gx gr gl gB P3 Q1 Q2;go_wp2_with fail;rw[<-hX3];clear hX3;clear pl fl px;refine (lg d.a4 d.l4 d.c4 c.xs _ (HR.x.below B3.out) hL4).mono ?_;rintro e w4 ⟨rfl,ho,hb⟩;have hsz4:=hb.size;have gx:=(hb.block _ (ab bx3.out)).trans bx3.out;have gr:=(hb.block _ (ab br3.out)).trans br3.out;have gl:=(hb.block _ (ab bl3.out)).trans bl3.out;have gB:=B3.trans (hb.mono B3.size);have P4:=aa ho;have Q1:=aa (O1.below hb);have Q2:=aa (O2.below hb);have Q3:=aa (O3.below hb);clear ho hb bx3 br3 bl3 B3 O1 O2 O3;have pl:=ck3 gl;have fl:=au gl 3;have px:=ck4 gx;obtain⟨X4,hX4⟩:∃X,X=w4.setCell ⟨w.heap.size+1+1,3,none⟩ (.slice (some ⟨X3.heap.size,0,none⟩) d.l4 d.l4):=⟨_,rfl⟩;have hxa4:X4.heap.size<=w4.heap.size:=by rw[hX4];simp[re]
 have hxb4:w4.heap.size<=X4.heap.size:=by rw[hX4];simp[re]
 have bx4:Hid (X4.heap[w.heap.size]?=some (.cells (clv d c.now) 28 (0,0))):=by rw[hX4];exact az ae gx
 have br4:Hid (X4.heap[w.heap.size+1]?=some (.cells (clo6 none 0 0 none 0 0 none 0 0 none 0 0 none 0 0 0) 37 (0,0))):=by rw[hX4];exact az ae gr
 have bl4:Hid (X4.heap[w.heap.size+1+1]?=some (.cells (clo6 (some ⟨X0.heap.size,0,none⟩) d.l1 d.l1 (some ⟨X1.heap.size,0,none⟩) d.l2 d.l2 (some ⟨X2.heap.size,0,none⟩) d.l3 d.l3 (some ⟨X3.heap.size,0,none⟩) d.l4 d.l4 none 0 0 0) 37 (0,0))):=by rw[hX4];have:=aC (i:=3) gl (.slice (some ⟨X3.heap.size,0,none⟩) d.l4 d.l4);simpa[Hid] using this
 have B4:Hid (Below w.heap.size w X4):=by rw[hX4];exact af ae gB
 have O1:=aa (Q1.aG (w':=X4) (fun k hk s=>by rw[hX4];exact qH _ _ _ _ (show k≠w.heap.size+1+1 by have h9:X0.heap.size<=k:=s.1;omega)) (fun k hk s=>s));have O2:=aa (Q2.aG (w':=X4) (fun k hk s=>by rw[hX4];exact qH _ _ _ _ (show k≠w.heap.size+1+1 by have h9:X1.heap.size<=k:=s.1;omega)) (fun k hk s=>s));have O3:=aa (Q3.aG (w':=X4) (fun k hk s=>by rw[hX4];exact qH _ _ _ _ (show k≠w.heap.size+1+1 by have h9:X2.heap.size<=k:=s.1;omega)) (fun k hk s=>s));have O4:=aa (P4.aG (w':=X4) (fun k hk s=>by rw[hX4];exact qH _ _ _ _ (show k≠w.heap.size+1+1 by have h9:X3.heap.size<=k:=s;omega)) (fun k hk s=>(⟨s,hk⟩:X3.heap.size<=k/\k<w4.heap.size)));clear gx gr gl gB P4 Q1 Q2 Q3;go_wp2_with fail;rw[<-hX4];clear hX4;clear pl fl px;refine (lj d.a5 d.l5 d.c5 c.ps _ (HR.p.below B4.out) hL5 HF.f5).mono ?_;rintro e w5 ⟨rfl,ho,hb⟩;have gx:=(hb.block _ (ab bx4.out)).trans bx4.out;have gr:=(hb.block _ (ab br4.out)).trans br4.out;have gl:=(hb.block _ (ab bl4.out)).trans bl4.out;have gB:=B4.trans (hb.mono B4.size);have P5:=aa ho;have Q1:=aa (O1.below hb);have Q2:=aa (O2.below hb);have Q3:=aa (O3.below hb);have Q4:=aa (O4.below hb);clear ho hb bx4 br4 bl4 B4 O1 O2 O3 O4;have l4:=ck4 gl;have l5:=ck5 gl;have l0:=ck0 gl;have l1:=ck1 gl;have l2:=ck2 gl;have l3:=ck3 gl;have r0:=ck0 gr;have fr0:=au gr 0;have r1:=ck1 gr;have fr1:=au gr 1;have r2:=ck2 gr;have fr2:=au gr 2;have r3:=ck3 gr;have fr3:=au gr 3;have fl4:=au gl 4;have r4:=ck4 gr;have fr4:=au gr 4;have fl5:=au gl 5;have r5:=ck5 gr;have fr5:=au gr 5;have px:=ck5 gx;have GB:=aa gB;clear gx gr gl gB;go_wp2;refine bodyPost_ret (v:=.agg #[.slice (some ⟨X0.heap.size,0,none⟩) d.l1 d.l1,.slice (some ⟨X1.heap.size,0,none⟩) d.l2 d.l2,.slice (some ⟨X2.heap.size,0,none⟩) d.l3 d.l3,.slice (some ⟨X3.heap.size,0,none⟩) d.l4 d.l4,.slice (some ⟨X4.heap.size,0,none⟩) d.l5 d.l5,.int .i64 c.now]) (by simp[results,Tryz.results7,go_sem, *]) rfl ⟨⟨some ⟨X0.heap.size,0,none⟩,d.l1,d.l1,some ⟨X1.heap.size,0,none⟩,d.l2,d.l2,some ⟨X2.heap.size,0,none⟩,d.l3,d.l3,some ⟨X3.heap.size,0,none⟩,d.l4,d.l4,some ⟨X4.heap.size,0,none⟩,d.l5,d.l5⟩,rfl,?_,sb1 (sb1 (sb1 (sb1 (sb1 (sb1 (sb2 (sb2 (GB.out))))))))⟩;have same:∀k,w.heap.size+1+1<k->((((((((w5.setCell ⟨w.heap.size+1+1,4,none⟩ (.slice (some ⟨X4.heap.size,0,none⟩) d.l5 d.l5)).setCell ⟨w.heap.size+1+1,5,none⟩ (.int .i64 c.now)).setCell ⟨w.heap.size+1,0,none⟩ (.slice (some ⟨X0.heap.size,0,none⟩) d.l1 d.l1)).setCell ⟨w.heap.size+1,1,none⟩ (.slice (some ⟨X1.heap.size,0,none⟩) d.l2 d.l2)).setCell ⟨w.heap.size+1,2,none⟩ (.slice (some ⟨X2.heap.size,0,none⟩) d.l3 d.l3)).setCell ⟨w.heap.size+1,3,none⟩ (.slice (some ⟨X3.heap.size,0,none⟩) d.l4 d.l4)).setCell ⟨w.heap.size+1,4,none⟩ (.slice (some ⟨X4.heap.size,0,none⟩) d.l5 d.l5)).setCell ⟨w.heap.size+1,5,none⟩ (.int .i64 c.now)).heap[k]?=w5.heap[k]?:=fun k hk=>by
  rw[qH _ _ _ _ (show k≠w.heap.size+1 by omega),qH _ _ _ _ (show k≠w.heap.size+1 by omega),qH _ _ _ _ (show k≠w.heap.size+1 by omega),qH _ _ _ _ (show k≠w.heap.size+1 by omega),qH _ _ _ _ (show k≠w.heap.size+1 by omega),qH _ _ _ _ (show k≠w.heap.size+1 by omega),qH _ _ _ _ (show k≠w.heap.size+1+1 by omega),qH _ _ _ _ (show k≠w.heap.size+1+1 by omega)]
 refine⟨fun k=>if k<w1.heap.size then 1 else if k<w2.heap.size then 2 else if k<w3.heap.size then 3 else if k<w4.heap.size then 4 else 5,?_,?_,?_,?_,?_⟩
 ·refine Q1.aG (fun k hk s=>same k (by have h9:X0.heap.size<=k:=s.1;omega)) (fun k hk s=>⟨?_,?_⟩)
  ·have h9:=s.1;show w.heap.size<=k;omega
  ·have h9:=s.1;have h8:=s.2;show (if k<w1.heap.size then 1 else if k<w2.heap.size then 2 else if k<w3.heap.size then 3 else if k<w4.heap.size then 4 else 5)=1;rw[if_pos h8]
 ·refine Q2.aG (fun k hk s=>same k (by have h9:X1.heap.size<=k:=s.1;omega)) (fun k hk s=>⟨?_,?_⟩)
  ·have h9:=s.1;show w.heap.size<=k;omega
  ·have h9:=s.1;have h8:=s.2;show (if k<w1.heap.size then 1 else if k<w2.heap.size then 2 else if k<w3.heap.size then 3 else if k<w4.heap.size then 4 else 5)=2;rw[if_neg ae];rw[if_pos h8]
 ·refine Q3.aG (fun k hk s=>same k (by have h9:X2.heap.size<=k:=s.1;omega)) (fun k hk s=>⟨?_,?_⟩)
  ·have h9:=s.1;show w.heap.size<=k;omega
  ·have h9:=s.1;have h8:=s.2;show (if k<w1.heap.size then 1 else if k<w2.heap.size then 2 else if k<w3.heap.size then 3 else if k<w4.heap.size then 4 else 5)=3;rw[if_neg ae];rw[if_neg ae];rw[if_pos h8]
 ·refine Q4.aG (fun k hk s=>same k (by have h9:X3.heap.size<=k:=s.1;omega)) (fun k hk s=>⟨?_,?_⟩)
  ·have h9:=s.1;show w.heap.size<=k;omega
  ·have h9:=s.1;have h8:=s.2;show (if k<w1.heap.size then 1 else if k<w2.heap.size then 2 else if k<w3.heap.size then 3 else if k<w4.heap.size then 4 else 5)=4;rw[if_neg ae];rw[if_neg ae];rw[if_neg ae];rw[if_pos h8]
 ·refine P5.aG (fun k hk s=>same k (by have h9:X4.heap.size<=k:=s;omega)) (fun k hk s=>⟨?_,?_⟩)
  ·have h9:=s;show w.heap.size<=k;omega
  ·have h9:=s;show (if k<w1.heap.size then 1 else if k<w2.heap.size then 2 else if k<w3.heap.size then 3 else if k<w4.heap.size then 4 else 5)=5;rw[if_neg ae];rw[if_neg ae];rw[if_neg ae];rw[if_neg ae];skip

def LFr (w:World) (h:Nat) (S:Nat->Prop) (zs:List ByteArray) (v:Value):Prop:=
 ∃a len cap,v=.slice a len cap/\zs.length=len/\len<=cap/\cap<=9223372036854775807/\(∀(j:Nat) x,zs[j]?=some x->x.size<=9223372036854775807)/\
  (zs=[]\/(a=some ⟨h,0,none⟩/\S h/\∃cu,w.heap[h]?=some (.cells cu 9 (0,0))/\∀(j:Nat) x,zs[j]?=some x->cu[j]?=some (.string x)))
theorem LFr.aG {w w':World} {h:Nat} {S S':Nat->Prop} {zs:List ByteArray} {v:Value} (k:LFr w h S zs v) (hk:∀cu,S h->w.heap[h]?=some (.cells cu 9 (0,0))->w'.heap[h]?=w.heap[h]?) (hs:h<w.heap.size->S h->S' h):LFr w' h S' zs v:=by
 obtain⟨a',l',c',h1,h2,h3,h4,h5,h6⟩:=k;refine⟨a',l',c',h1,h2,h3,h4,h5,h6.imp id ?_⟩;rintro⟨q1,q2,cu,q4,q5⟩;exact⟨q1,hs (ab q4) q2,cu,(hk cu q2 q4).trans q4,q5⟩
def Fv.Fr (w:World) (h:Nat) (S:Nat->Prop):Fv->Value->Prop
 | .s t,v=>v=.string t/\t.size<=9223372036854775807
 | .i n,v=>v=.int .i64 n
 | .b x,v=>v=.bool x
 | .l zs,v=>LFr w h S zs v
theorem Fv.Fr.aG {w w':World} {h:Nat} {S S':Nat->Prop} {f:Fv} {v:Value} (k:f.Fr w h S v) (hk:∀cu,S h->w.heap[h]?=some (.cells cu 9 (0,0))->w'.heap[h]?=w.heap[h]?) (hs:h<w.heap.size->S h->S' h):f.Fr w' h S' v:=by
 cases f with
 | l zs=>exact LFr.aG k hk hs
 | _=>exact k
theorem Fv.Fr.own {w:World} {h g:Nat} {S:Nat->Prop} {f:Fv} {v:Value} {cur:Array Value} {T:TypeId} (k:f.Fr w h S v) (hg:w.heap[g]?=some (.cells cur T (0,0))) (hT:¬T=9):f.Own w h S g v:=by
 cases f with
 | l zs=>
  obtain⟨a',l',c',h1,h2,h3,h4,h5,h6⟩:=k;refine⟨a',l',c',h1,h2,h3,h4,h5,h6.imp id ?_⟩;rintro⟨q1,q2,cu,q4,q5⟩;refine⟨q1,q2,?_,cu,q4,q5⟩;rintro rfl;rw[hg] at q4
  cases q4
  exact hT rfl
 | _=>exact k
theorem Fv.Fr.one {w:World} {h:Nat} {S:Nat->Prop} {f:Fv} {v:Value} (k:f.Fr w h S v):v.oneCell'=true:=by
 cases f with
 | l zs=>obtain⟨a',l',c',rfl,_⟩:=k;rfl
 | s t=>obtain⟨rfl,_⟩:=k;rfl
 | i n=>cases (show v=.int .i64 n from k);rfl
 | b x=>cases (show v=.bool x from k);rfl

structure aO (w:World) (S:Nat->Prop) (m:Nat) (rs:List (List Fv)) (vss:List (List Value)) (H:Nat->Nat->Nat):Prop where
 len:vss.length=rs.length
 all:∀(j:Nat) vs,vss[j]?=some vs->vs.length=m
 rl:∀(j:Nat) r,rs[j]?=some r->r.length=m
 cell:∀(j:Nat) r vs,rs[j]?=some r->vss[j]?=some vs->∀(i:Nat) f,r[i]?=some f->∃v,vs[i]?=some v/\f.Fr w (H j i) S v
 inj:∀(j:Nat) r (i:Nat) zs (j':Nat) r' (i':Nat) zs',rs[j]?=some r->r[i]?=some (.l zs)->zs≠[]->rs[j']?=some r'->r'[i']?=some (.l zs')->zs'≠[]->H j i=H j' i'->j=j'/\i=i'

section
variable {w w':World} {S S':Nat->Prop} {m:Nat} {rs:List (List Fv)} {vss:List (List Value)} {H:Nat->Nat->Nat}
theorem aO.nil (w:World) (S:Nat->Prop) (m:Nat) (H:Nat->Nat->Nat):aO w S m [] [] H:=⟨rfl,fun j vs h=>by simp at h,fun j r h=>by simp at h,fun j r vs h=>by simp at h,fun j r i zs j' r' i' zs' h=>by simp at h⟩
theorem aO.aG (h:aO w S m rs vss H) (hk:∀k cu,S k->w.heap[k]?=some (.cells cu 9 (0,0))->w'.heap[k]?=w.heap[k]?) (hs:∀k,k<w.heap.size->S k->S' k):aO w' S' m rs vss H:=
 ⟨h.len,h.all,h.rl,fun j r vs h1 h2 i f h3=>by
  obtain⟨v,h4,h5⟩:=h.cell j r vs h1 h2 i f h3;exact⟨v,h4,h5.aG (hk _) (hs _)⟩,h.inj⟩
theorem aO.below (h:aO w S m rs vss H) (hb:Below w.heap.size w w'):aO w' S m rs vss H:=h.aG (fun k _ _ q=>hb.block k (ab q)) (fun _ _ s=>s)
theorem aO.grown (h:aO w S m rs vss H) {base n:Nat} {T:TypeId} {v:Value} {xs:List Value} (ho:w.ownsRow base T m v n xs) (hT:¬T=9) (hg:w.grownBy w' v.ownBlock):aO w' S m rs vss H:=by
 refine h.aG (fun k cu _ q=>hg.block k (ab q) (fun e=>?_)) (fun _ _ s=>s);rcases ho.2 with ⟨rfl,_⟩|⟨g,cap,cur,rfl,_,hgg,_⟩
 ·cases e
 ·cases e;simp only[] at q;rw[hgg] at q;cases q;exact hT rfl
theorem aO.lt (h:aO w S m rs vss H) {j:Nat} {r:List Fv} {i:Nat} {zs:List ByteArray} (h1:rs[j]?=some r) (h2:r[i]?=some (.l zs)) (h3:zs≠[]):H j i<w.heap.size:=by
 have hj:j<vss.length:=by rw[h.len];exact (qE.1 h1).1
 obtain⟨v,_,a,len,cap,_,_,_,_,_,h9⟩:=h.cell j r _ h1 (qJ hj) i _ h2;rcases h9 with h9|⟨_,_,cu,q4,_⟩
 ·exact absurd h9 h3
 ·exact ab q4
theorem aO.push (h:aO w S m rs vss H) {r:List Fv} {vs:List Value} {hh:Nat->Nat} (hr:r.length=m) (hvs:vs.length=m) (hc:∀(i:Nat) f,r[i]?=some f->∃v,vs[i]?=some v/\f.Fr w (hh i) S v)
  (hn:∀(i:Nat) zs,r[i]?=some (.l zs)->zs≠[]->∀(j:Nat) r' (i':Nat) zs',rs[j]?=some r'->r'[i']?=some (.l zs')->zs'≠[]->¬H j i'=hh i)
  (h1:∀(i i':Nat) zs zs',r[i]?=some (.l zs)->zs≠[]->r[i']?=some (.l zs')->zs'≠[]->i=i'):
  aO w S m (rs++[r]) (vss++[vs]) (fun j=>if j=rs.length then hh else H j):=by
 have at1:∀{α:Type} {l:List α} {x y:α} {j:Nat},(l++[x])[j]?=some y->(j=l.length/\y=x)\/(j<l.length/\l[j]?=some y):=by
  intro α l x y j hj;by_cases e:j<l.length
  ·rw[rD e] at hj;exact .inr ⟨e,hj⟩
  ·rw[rK ae] at hj;rcases Nat.eq_zero_or_pos (j - l.length) with e0|e0
   ·rw[e0] at hj;exact .inl ⟨by omega,by simpa using hj.symm⟩
   ·exact l8
 refine⟨by simp[h.len],fun j v hv=>?_,fun j r' hj=>?_,fun j r' v hj hv i f hf=>?_,fun j r1 i zs j' r2 i' zs' a1 a2 a3 b1 b2 b3 e=>?_⟩
 ·rcases at1 hv with ⟨_,rfl⟩|⟨_,hv⟩
  ·exact hvs
  ·exact h.all j v hv
 ·rcases at1 hj with ⟨_,rfl⟩|⟨_,hj⟩
  ·exact hr
  ·exact h.rl j r' hj
 ·rcases at1 hj with ⟨e1,rfl⟩|⟨e1,hj⟩
  ·rcases at1 hv with ⟨_,rfl⟩|⟨e2,hv⟩
   ·simp only[e1,if_true];exact hc i f hf
   ·have:=h.len;omega
  ·rcases at1 hv with ⟨e2,rfl⟩|⟨e2,hv⟩
   ·have:=h.len;omega
   ·simp only[if_neg (show¬j=rs.length by omega)];exact h.cell j r' v hj hv i f hf
 ·rcases at1 a1 with ⟨e1,rfl⟩|⟨e1,a4⟩ <;> rcases at1 b1 with ⟨e2,rfl⟩|⟨e2,b4⟩
  ·exact⟨by omega,h1 _ _ _ _ a2 a3 b2 b3⟩
  ·simp only[e1,if_true,if_neg (show¬j'=rs.length by omega)] at e;exact absurd e.symm (hn i zs a2 a3 j' r2 i' zs' b4 b2 b3)
  ·simp only[e2,if_true,if_neg (show¬j=rs.length by omega)] at e;exact absurd e (hn i' zs' b2 b3 j r1 i zs a4 a2 a3)
  ·simp only[if_neg (show¬j=rs.length by omega),if_neg (show¬j'=rs.length by omega)] at e;exact h.inj j r1 i zs j' r2 i' zs' a4 a2 a3 b4 b2 b3 e
end

theorem ky {α:Type} {m:Nat} :∀{vss:List (List α)},(∀(j:Nat) vs,vss[j]?=some vs->vs.length=m)->∀{j:Nat} {vs:List α} {i:Nat} {u:α},vss[j]?=some vs->vs[i]?=some u->vss.flatten[j*m+i]?=some u
 | [],_,j,vs,i,u,h,_=>by simp at h
 | x ::vss,hl,0,vs,i,u,h,hu=>by
  obtain rfl:x=vs:=by simpa using h
  have hx:=hl 0 x rfl;have hi:=(qE.1 hu).1;rw[List.flatten_cons,rD ae,Nat.zero_mul,rA];exact hu
 | x ::vss,hl,j+1,vs,i,u,h,hu=>by
  have hx:=hl 0 x rfl;rw[List.flatten_cons,rK (by rw[hx,Nat.succ_mul];omega),hx,show (j+1)*m+i - m=j*m+i by rw[Nat.succ_mul];omega];exact ky (fun j' vs' h'=>hl (j'+1) vs' (by simpa using h')) (by simpa using h) hu
theorem fg {α:Type} {m:Nat} :∀{vss:List (List α)},(∀(j:Nat) vs,vss[j]?=some vs->vs.length=m)->∀{k:Nat} {u:α},vss.flatten[k]?=some u->∃(j i:Nat) (vs:List α),vss[j]?=some vs/\vs[i]?=some u/\k=j*m+i
 | [],_,k,u,h=>by simp at h
 | x ::vss,hl,k,u,h=>by
  have hx:=hl 0 x rfl;rw[List.flatten_cons] at h;by_cases e:k<m
  ·rw[rD ae] at h;exact⟨0,k,x,rfl,h,by omega⟩
  ·rw[rK ae,hx] at h;obtain⟨j,i,vs,h1,h2,h3⟩:=fg (fun j' vs' h'=>hl (j'+1) vs' (by simpa using h')) h;exact⟨j+1,i,vs,by simpa using h1,h2,by rw[Nat.succ_mul];omega⟩
theorem ff {α:Type} {m:Nat} :∀{vss:List (List α)},(∀(j:Nat) vs,vss[j]?=some vs->vs.length=m)->vss.flatten.length=vss.length*m
 | [],_=>by simp
 | x ::vss,hl=>by
  have hx:=hl 0 x rfl;rw[List.flatten_cons,List.length_append,ff (fun j' vs' h'=>hl (j'+1) vs' (by simpa using h')),hx,List.length_cons,Nat.succ_mul];omega
theorem aO.one {w:World} {S:Nat->Prop} {m:Nat} {rs:List (List Fv)} {vss:List (List Value)} {H:Nat->Nat->Nat} (h:aO w S m rs vss H):∀u∈vss.flatten,u.oneCell'=true:=by
 intro u hu;obtain⟨k,hk,rfl⟩:=List.mem_iff_getElem.1 hu;obtain⟨j,i,vs,h1,h2,_⟩:=fg h.all (qJ hk);have hj:j<rs.length:=by rw[<-h.len];exact (qE.1 h1).1
 have hr:=qJ hj;have hi:i<(rs[j]).length:=by rw[h.rl j _ hr,<-h.all j vs h1];exact (qE.1 h2).1
 obtain⟨v,h3,h4⟩:=h.cell j _ vs hr h1 i _ (qJ hi);rw[h2] at h3;cases h3;exact h4.one

theorem aO.own {w:World} {S:Nat->Prop} {m:Nat} {T:TypeId} {rs:List (List Fv)} {vss:List (List Value)} {H:Nat->Nat->Nat} (h:aO w S m rs vss H) {base n:Nat} {v:Value} (ho:w.ownsRow base T m v n vss.flatten) (hn:n=rs.length) (hT:¬T=9) (hS:∀g,v.ownBlock=some g->S g):
  ∃a cap,v=.slice a rs.length cap/\aw w a rs.length cap m T rs S:=by
 subst hn;rcases ho.2 with ⟨rfl,h0⟩|⟨g,cap,cur,rfl,_,hgg,h1,h2,h3,h4⟩
 ·obtain rfl:rs=[]:=rn h0;exact⟨none,0,rfl,aw.nil _ _ _ _ _ ae⟩
 ·refine⟨_,cap,rfl,rfl,h1,by unfold maxLen at h2;omega,.inr ⟨g,cur,H,rfl,hgg,hS g rfl,h.rl,fun j r hj i f hi=>?_,h.inj⟩⟩;have hjl:j<vss.length:=by rw[h.len];exact (qE.1 hj).1
  have hv:=qJ hjl;obtain⟨u,h5,h6⟩:=h.cell j r _ hj hv i f hi;have h7:=ky h.all hv h5;rw[<-h4,rh] at h7;split at h7
  ·exact⟨u,by simpa using h7,h6.own hgg hT⟩
  ·cases h7

def Bw (y W:World):Prop:=Below y.heap.size y W
theorem Bw.refl (y:World):Bw y y:=qI _ _
theorem Bw.below {y W W':World} (h:Bw y W) (hb:Below W.heap.size W W'):Bw y W':=Below.trans h (hb.mono (rR h))
theorem Bw.kept {y W W':World} {S:Nat->Prop} (h:Bw y W) (hk:ax S W W') (hs:∀k,S k->y.heap.size<=k):Bw y W':=Below.trans h (hk.low (rR h) hs)
theorem Bw.out {y W:World} (h:Bw y W):Below y.heap.size y W:=h
theorem Bw.le {y W:World} (h:Bw y W):y.heap.size<=W.heap.size:=rR h

def bN (w:World) (a:Option Addr) (l c:Nat) (zs:List ByteArray) (S:Nat->Prop):Prop:=
 an w a l c zs/\(zs=[]\/∃g cur,a=some ⟨g,0,none⟩/\S g/\w.heap[g]?=some (.cells cur 9 (0,0)))
theorem bN.aG {w w':World} {a:Option Addr} {l c:Nat} {zs:List ByteArray} {S S':Nat->Prop} (h:bN w a l c zs S) (hk:∀k,k<w.heap.size->S k->w'.heap[k]?=w.heap[k]?) (hs:∀k,k<w.heap.size->S k->S' k):bN w' a l c zs S':=by
 obtain⟨⟨h1,h2,h3,h4,h5⟩,h6⟩:=h;rcases h6 with rfl|⟨g,cur,rfl,hS,hg⟩
 ·exact⟨⟨h1,h2,h3,h4,.inl rfl⟩,.inl rfl⟩
 ·have hg':=(hk g (ab hg) hS).trans hg;refine⟨⟨h1,h2,h3,h4,h5.imp id ?_⟩,.inr ⟨g,cur,rfl,hs g (ab hg) hS,hg'⟩⟩;rintro⟨b,o,e,hlt,hc⟩;cases e;exact⟨g,0,rfl,ab hg',fun j x hx=>by have:=hc j x hx;rw[aE hg] at this;rw[aE hg'];exact this⟩
theorem bN.below {w w':World} {a:Option Addr} {l c:Nat} {zs:List ByteArray} {S:Nat->Prop} (h:bN w a l c zs S) (hb:Below w.heap.size w w'):bN w' a l c zs S:=h.aG (fun k hk _=>hb.block k hk) (fun _ _ s=>s)
theorem bN.eA {w:World} {a:Option Addr} {l c:Nat} {zs:List ByteArray} {S S':Nat->Prop} (h:bN w a l c zs S) (hs:∀k,k<w.heap.size->S k->S' k):bN w a l c zs S':=h.aG (fun _ _ _=>rfl) hs
theorem bN.pD {w:World} {base n:Nat} {v:Value} {zs:List ByteArray} (h:w.ownsRow base 9 1 v n (zs.map qV)) (hs:∀(j:Nat) x,zs[j]?=some x->x.size<=9223372036854775807):∃a c,v=.slice a n c/\bN w a n c zs (fun k=>base<=k):=by
 obtain⟨hl,h⟩:=h;have hl':zs.length=n:=by simpa using hl
 rcases h with ⟨rfl,rfl⟩|⟨g,cap,cur,rfl,hbg,hg,hnc,hcm,hsz,htk⟩
 ·obtain rfl:zs=[]:=rn hl';exact⟨none,0,rfl,⟨rfl,qF _,by omega,fun j x hx=>by simp at hx,.inl rfl⟩,.inl rfl⟩
 ·refine⟨some ⟨g,0,none⟩,cap,rfl,⟨hl',hnc,by unfold maxLen at hcm;omega,hs,.inr ⟨g,0,rfl,ab hg,fun j x hx=>?_⟩⟩,.inr ⟨g,cur,rfl,hbg,hg⟩⟩;exact oO
theorem bK {w w':World} {base n m:Nat} {T:TypeId} {v:Value} {xs:List Value} (h:w.ownsRow base T m v n xs) (hb:Below w.heap.size w w'):w'.ownsRow base T m v n xs:=by
 refine⟨h.1,h.2.imp id ?_⟩;rintro⟨g,cap,cur,h1,h2,h3,h4⟩;exact⟨g,cap,cur,h1,h2,(hb.block _ (ab h3)).trans h3,h4⟩

theorem mL:∀(r:List Fv) (k:Int),(∀(i:Nat) zs,r[i]?=some (.l zs)->zs.length<=1048576)->mkN k r<=k+r.length*1048577
 | [],k,_=>by simp[mkN]
 | f ::r,k,h=>by
  have h1:=mL r (mkN1 k f) (fun i zs hi=>h (i+1) zs (by simpa using hi));have h2:mkN1 k f<=k+1048577:=by
   cases f with
   | l zs=>have:=h 0 zs rfl;simp only[mkN1];omega
   | _=>simp only[mkN1];omega
  simp only[mkN,List.length_cons];omega
theorem kr {m:Nat} :∀(rs:List (List Fv)) (k:Int),(∀(j:Nat) r,rs[j]?=some r->r.length<=m/\∀(i:Nat) zs,r[i]?=some (.l zs)->zs.length<=1048576)->ar k rs<=k+rs.length*(m*1048577)
 | [],k,_=>by simp[ar]
 | r ::rs,k,h=>by
  have h1:=kr rs (mkN k r) (fun j r' hj=>h (j+1) r' (by simpa using hj));obtain⟨h2,h3⟩:=h 0 r rfl;have h4:=mL r k h3;have h5:r.length*1048577<=m*1048577:=Nat.mul_le_mul_right _ h2;have h6:((rs.length+1:Nat):Int)*(m*1048577)=rs.length*(m*1048577)+m*1048577:=by
   rw[Int.natCast_add];simp[Int.add_mul]
  simp only[ar,List.length_cons];rw[h6];omega
theorem cU {α:Type} {F:α->List Fv} {xs:List α} {m:Nat} (hm:∀x,(F x).length<=m) (hl:∀(j:Nat) x,xs[j]?=some x->∀(i:Nat) zs,(F x)[i]?=some (.l zs)->zs.length<=1048576) (hx:xs.length<=1048576) (hm8:m<=8) (k:Int):ar k (xs.map F)<=k+8796101410816:=by
 have h:=kr (m:=m) (xs.map F) k (fun j r hj=>by
  rw[qT] at hj;obtain⟨x,h1,rfl⟩:=qL.1 hj
  exact⟨hm x,hl j x h1⟩)
 rw[List.length_map] at h;have h2:xs.length*(m*1048577)<=1048576*(8*1048577):=Nat.mul_le_mul hx (Nat.mul_le_mul_right _ hm8);have h3:((xs.length*(m*1048577):Nat):Int)=(xs.length:Int)*((m:Int)*1048577):=by rw[Int.natCast_mul,Int.natCast_mul];rfl
 rw[<-h3] at h;omega
theorem eu.pE {c:Cl} (h:eu c):bZ 1 c.raw<=1000000000000000:=by
 have one:∀{zs zs':List ByteArray},zs.length<=1048576->some (Fv.l zs)=some (.l zs')->zs'.length<=1048576:=fun h e=>by cases e;exact h
 have a1:=fun k=>cU (F:=ndF) (m:=7) (xs:=c.ns) (fun _=>qF _) (fun j x hx i zs hi=>by
  rcases i with _|_|_|_|_|_|_|i <;> first|(simp[ndF] at hi;done)|exact one (h.f1 j x hx) hi) h.l1 aj k
 have a2:=fun k=>cU (F:=kdF) (m:=4) (xs:=c.ks) (fun _=>qF _) (fun j x hx i zs hi=>by
  rcases i with _|_|_|_|i <;> (simp[kdF] at hi)) h.l2 aj k
 have a3:=fun k=>cU (F:=vdF) (m:=8) (xs:=c.vs) (fun _=>qF _) (fun j x hx i zs hi=>by
  rcases i with _|_|_|_|_|_|_|_|i <;> first|(simp[vdF] at hi;done)|exact one (h.f3 j x hx) hi) h.l3 aj k
 have a4:=fun k=>cU (F:=xdF) (m:=5) (xs:=c.xs) (fun _=>qF _) (fun j x hx i zs hi=>by
  rcases i with _|_|_|_|_|i <;> (simp[xdF] at hi)) h.l4 aj k
 have a5:=fun k=>cU (F:=pdF) (m:=6) (xs:=c.ps) (fun _=>qF _) (fun j x hx i zs hi=>by
  rcases i with _|_|_|_|_|_|i <;> first|(simp[pdF] at hi;done)|exact one (h.f5 j x hx) hi) h.l5 aj k
 unfold bZ Cl.raw;have b1:=a1 1;have b2:=a2 (ar 1 (c.ns.map ndF));have b3:=a3 (ar (ar 1 (c.ns.map ndF)) (c.ks.map kdF));have b4:=a4 (ar (ar (ar 1 (c.ns.map ndF)) (c.ks.map kdF)) (c.vs.map vdF));have b5:=a5 (ar (ar (ar (ar 1 (c.ns.map ndF)) (c.ks.map kdF)) (c.vs.map vdF)) (c.xs.map xdF));simp only[];omega
theorem eu.marks {c:Cl} (h:eu c):bZ 1 c.raw<=1152921504606846976:=qZ h.pE (by decide)

end Rc
end Go.Proofs.YtdoldaceehdifaaGreatDoor

namespace Go.Proofs.YtdoldaceehdifaaGreatDoor
open Go.RowKit
namespace Ap

def aZ (zs:List ByteArray) (w:World) (a:Option Addr) (len cap:Nat) (w':World):Prop:=
 an w' a len cap zs/\(zs=[]\/∃g cur,a=some ⟨g,0,none⟩/\w.heap.size<=g/\w'.heap[g]?=some (.cells cur 9 (0,0)))/\Below w.heap.size w w'
theorem pA {w w0:World} {base n:Nat} {v:Value} {zs:List ByteArray} (h:w.ownsRow base 9 1 v n (zs.map qV)) (hb:Below base w0 w) (hB:base=w0.heap.size) (hs:∀(j:Nat) x,zs[j]?=some x->x.size<=9223372036854775807):
  ∃a l c,v=.slice a l c/\aZ zs w0 a l c w:=by
 subst hB;obtain⟨hl,h⟩:=h;have hl':zs.length=n:=by simpa using hl
 rcases h with ⟨rfl,rfl⟩|⟨g,cap,cur,rfl,hbg,hg,hnc,hcm,hsz,htk⟩
 ·obtain rfl:zs=[]:=rn hl';exact⟨none,0,0,rfl,⟨rfl,qF _,by omega,fun j x hx=>by simp at hx,.inl rfl⟩,.inl rfl,hb⟩
 ·refine⟨some ⟨g,0,none⟩,n,cap,rfl,⟨hl',hnc,by unfold maxLen at hcm;omega,hs,.inr ⟨g,0,rfl,ab hg,fun j x hx=>?_⟩⟩,.inr ⟨g,cur,rfl,hbg,hg⟩,hb⟩;exact oO
theorem kp {w:World} {ad:Addr} {len cap:Nat} {zs:List ByteArray} (h:an w (some ad) len cap zs):∀j u,(zs.map qV)[j]?=some u->w.cell? (ad.add j)=some u:=by
 intro j u hu;rw[qT] at hu;obtain⟨x,hx,rfl⟩:=qL.1 hu;rcases h.2.2.2.2 with h|⟨b,o,e,_,hc⟩
 ·subst h;simp at hx
 ·cases e;rw[Addr.add_lit];exact hc j x hx

theorem fS (a:Option Addr) (len cap:Nat) (zs:List ByteArray) (w:World) (hr:an w a len cap zs) (hl:len<=8001):
  Calls Tryz.prog 147 #[.slice a len cap] w fun e w'=> ∃a' l c,e=.returned (.slice a' l c)/\aZ zs w a' l c w':=by
 cases a with
 | none=>
  obtain rfl:zs=[]:=by
   rcases hr.2.2.2.2 with h|⟨b,o,e,_⟩
   ·exact h
   ·cases e
  obtain rfl:len=0:=by have:=hr.1;simpa using this.symm
  clear hr
  go_enter Tryz.func147,Tryz.ntmps147
  go_wp2
  go_ret;exact⟨_,_,_,rfl,⟨rfl,qF _,by omega,fun j x hx=>by simp at hx,.inl rfl⟩,.inl rfl,qI _ _⟩
 | some ad=>
  have HN:=aa (kp hr);have HZ:=aa hr.2.2.2.1;have hzl:=hr.1;clear hr;obtain⟨i0,hi,hz0,hz1,hz2⟩:=info_parts eF
  go_enter Tryz.func147,Tryz.ntmps147
  go_wp2_with (first|(at_builtin;refine wpList_append_own _ rfl _ _ 63 rfl w.heap.size 9 i0 (.string ⟨#[]⟩) 1 16 Tryz.underlying63 hi hz0 hz1 hz2 rfl aj _ 0 _ rfl (World.ownsRow_nil w w.heap.size 9 1) ad len cap (zs.map qV) rfl ?c1 HN.out ?c3 ?c4 ?c5 (qF _) ?_))
  case c1=>simpa using hzl
  case c3=>intro u hu;obtain⟨x,_,rfl⟩:=List.mem_map.1 hu;rfl
  case c4=>unfold maxLen;omega
  case c5=>omega
  intro v' w3 hown3 hgrow hv;have HB3:=aa ((qI w.heap.size w).grown hgrow (qF _) (fun k hk=>by cases hk));have HO:=aa hown3;clear hown3 hgrow hv
  go_wp2
  go_ret;obtain⟨a',l,c,rfl,h2⟩:=pA HO.out HB3.out rfl HZ.out;exact⟨a',l,c,rfl,h2⟩

theorem aZ.set {zs:List ByteArray} {w w':World} {a:Option Addr} {l p b i X:Nat} {v:Value} (h:an w' a l p zs/\(zs=[]\/∃g cur,a=some ⟨g,0,none⟩/\X<=g/\w'.heap[g]?=some (.cells cur 9 (0,0)))/\Below w.heap.size w w') (hb:w.heap.size<=b) (hX:b<X):
  an (w'.setCell ⟨b,i,none⟩ v) a l p zs/\(zs=[]\/∃g cur,a=some ⟨g,0,none⟩/\X<=g/\(w'.setCell ⟨b,i,none⟩ v).heap[g]?=some (.cells cur 9 (0,0)))/\Below w.heap.size w (w'.setCell ⟨b,i,none⟩ v):=by
 obtain⟨⟨h1,h2,h3,h4,h5⟩,h6,h7⟩:=h;refine⟨⟨h1,h2,h3,h4,?_⟩,?_,h7.setCell hb v⟩
 ·rcases h6 with h6|⟨g,cur,rfl,hg,hh⟩
  ·exact .inl h6
  ·rcases h5 with h5|⟨g',o,e,hl,hc⟩
   ·exact .inl h5
   ·cases e;have hs:(w'.setCell ⟨b,i,none⟩ v).heap[g]?=w'.heap[g]?:=qH _ _ _ _ (show g≠b by omega);exact .inr ⟨g,0,rfl,by simpa[re] using hl,fun j x hx=>by have:=hc j x hx;simp only[rN,hs] at this ⊢;exact this⟩
 ·rcases h6 with h6|⟨g,cur,rfl,hg,hh⟩
  ·exact .inl h6
  ·exact .inr ⟨g,cur,rfl,hg,(qH _ _ _ _ (show g≠b by omega)).trans hh⟩

theorem pN (n:ByteArray) (c:Int) (z:ByteArray) (k:ByteArray) (x:Bool) (m:ByteArray) (y:Bool) (a:Option Addr) (len cap:Nat) (zs:List ByteArray) (w:World) (hr:an w a len cap zs) (hl:len<=8001):
  Calls Tryz.prog 85 #[.agg #[.string n,.int .i64 c,.string z,.string k,.bool x,.string m,.bool y,.slice a len cap]] w fun e w'=> ∃a' l p,e=.returned (.agg #[.string n,.int .i64 c,.string z,.string k,.bool x,.string m,.bool y,.slice a' l p])/\aZ zs w a' l p w':=by
 have hown:(((w.alloc (.cells #[.string n,.int .i64 c,.string z,.string k,.bool x,.string m,.bool y,.slice a len cap] 118)).alloc (.cells #[.string ⟨#[]⟩,.int .i64 0,.string ⟨#[]⟩,.string ⟨#[]⟩,.bool false,.string ⟨#[]⟩,.bool false,.slice none 0 0] 118)).alloc (.cells #[] 9)).ownsRow (w.heap.size+1+1) 9 1 (.slice (some ⟨w.heap.size+1+1,0,none⟩) 0 0) 0 []:=⟨rfl,.inr ⟨w.heap.size+1+1,0,#[],rfl,qF _,c_ _ _ _ _,qF _,by unfold maxLen;omega,rfl,rfl⟩⟩;have HOW:=aa hown;have hr3:=hr.below (bu w (.cells #[.string n,.int .i64 c,.string z,.string k,.bool x,.string m,.bool y,.slice a len cap] 118) (.cells #[.string ⟨#[]⟩,.int .i64 0,.string ⟨#[]⟩,.string ⟨#[]⟩,.bool false,.string ⟨#[]⟩,.bool false,.slice none 0 0] 118) (.cells #[] 9));have HZ:=aa hr.2.2.2.1;have hzl:=hr.1;have HR3:=aa hr3;clear hown hr3;obtain⟨i0,hi,hz0,hz1,hz2⟩:=info_parts eF;cases a with
 | none=>
  obtain rfl:zs=[]:=by
   rcases hr.2.2.2.2 with h|⟨b,o,e,_⟩
   ·exact h
   ·cases e
  obtain rfl:len=0:=by simpa using hzl.symm
  clear hr HOW HR3 hi hz0 hz1 hz2
  go_enter Tryz.func85,Tryz.ntmps85
  go_wp2
  exact bodyPost_ret (v:=.agg #[.string n,.int .i64 c,.string z,.string k,.bool x,.string m,.bool y,.slice (some ⟨w.heap.size+1+1,0,none⟩) 0 0]) (by simp[results,Tryz.results85,go_sem]) rfl ⟨_,_,_,rfl,⟨rfl,qF _,by omega,fun j x hx=>by simp at hx,.inl rfl⟩,.inl rfl,bu _ _ _ _⟩
 | some ad=>
  have HN:=aa (kp HR3.out);clear hr
  go_enter Tryz.func85,Tryz.ntmps85
  go_wp2_with (first|(at_builtin;refine wpList_append_own _ rfl _ _ 63 rfl (w.heap.size+1+1) 9 i0 (.string ⟨#[]⟩) 1 16 Tryz.underlying63 hi hz0 hz1 hz2 rfl aj _ 0 _ rfl HOW.out ad len cap (zs.map qV) rfl ?c1 HN.out ?c3 ?c4 ?c5 a8 ?_))
  case c1=>simpa using hzl
  case c3=>intro u hu;obtain⟨x,_,rfl⟩:=List.mem_map.1 hu;rfl
  case c4=>unfold maxLen;omega
  case c5=>omega
  intro v' w3 hown3 hgrow hv;have hb3:=(qI (w.heap.size+1+1) _).grown hgrow a8 (fun k hk=>by simp[Value.ownBlock] at hk;omega);have g0:=(hb3.block w.heap.size ae).trans (eG _ _ _ _);have g1:=(hb3.block (w.heap.size+1) ae).trans (da _ _ _ _)
  obtain⟨a',l,p,rfl,hq⟩:∃a' l p,v'=.slice a' l p/\(an w3 a' l p zs/\(zs=[]\/∃g cur,a'=some ⟨g,0,none⟩/\w.heap.size+1+1<=g/\w3.heap[g]?=some (.cells cur 9 (0,0)))/\Below w.heap.size w w3):=by
   have hbw:=(bu w _ _ _).trans (hb3.mono ae);have ho:=hown3;obtain⟨hl1,h⟩:=ho;have hl':=hzl
   rcases h with ⟨rfl,h0⟩|⟨g,cp,cur,rfl,hbg,hg,hnc,hcm,hsz,htk⟩
   ·obtain rfl:zs=[]:=rn ae;exact⟨none,0,0,rfl,⟨rfl,qF _,by omega,fun j x hx=>by simp at hx,.inl rfl⟩,.inl rfl,hbw⟩
   ·refine⟨some ⟨g,0,none⟩,len,cp,rfl,⟨hl',hnc,by unfold maxLen at hcm;omega,HZ.out,.inr ⟨g,0,rfl,ab hg,fun j x hx=>?_⟩⟩,.inr ⟨g,cur,rfl,hbg,hg⟩,hbw⟩;rw[rA,aE hg]
    have hj:j<len:=by have:=(qE.1 hx).1;omega
    have e1:(cur.toList.take (len*1))[j]?=some (.string x):=by rw[htk];simp[hx]
    rw[rh,if_pos ae] at e1
    simpa using e1
  have HQ:=aa hq;have d0:=ck0 g0;have d1:=ck1 g0;have d2:=ck2 g0;have d3:=ck3 g0;have d4:=ck4 g0;have d5:=ck5 g0;have d6:=ck6 g0;have d7:=ck7 g0;have df7:=au g0 7;have e0:=ck0 g1;have ef0:=au g1 0;have e1:=ck1 g1;have ef1:=au g1 1;have e2:=ck2 g1;have ef2:=au g1 2;have e3:=ck3 g1;have ef3:=au g1 3;have e4:=ck4 g1;have ef4:=au g1 4;have e5:=ck5 g1;have ef5:=au g1 5;have e6:=ck6 g1;have ef6:=au g1 6;have e7:=ck7 g1;have ef7:=au g1 7;have HQ2:=aa (aZ.set (aZ.set (aZ.set (aZ.set (aZ.set (aZ.set (aZ.set (aZ.set (aZ.set HQ.out (b:=w.heap.size) (i:=7) ae ae (v:=.slice a' l p)) (b:=w.heap.size+1) (i:=0) ae ae (v:=(.string n))) (b:=w.heap.size+1) (i:=1) ae ae (v:=(.int .i64 c))) (b:=w.heap.size+1) (i:=2) ae ae (v:=(.string z))) (b:=w.heap.size+1) (i:=3) ae ae (v:=(.string k))) (b:=w.heap.size+1) (i:=4) ae ae (v:=(.bool x))) (b:=w.heap.size+1) (i:=5) ae ae (v:=(.string m))) (b:=w.heap.size+1) (i:=6) ae ae (v:=(.bool y))) (b:=w.heap.size+1) (i:=7) ae ae (v:=(.slice a' l p)));clear hown3 hgrow hv hb3 g0 g1 hq;go_wp2_with fail;refine bodyPost_ret (v:=.agg #[.string n,.int .i64 c,.string z,.string k,.bool x,.string m,.bool y,.slice a' l p]) (by simp[results,Tryz.results85,go_sem, *]) rfl ⟨a',l,p,rfl,HQ2.1,?_,HQ2.2.2⟩
  rcases HQ2.2.1 with h|⟨g,cur,h1,h2,h3⟩
  ·exact .inl h
  ·exact .inr ⟨g,cur,h1,by omega,h3⟩

theorem pT (n:ByteArray) (c:Int) (z:ByteArray) (k:ByteArray) (x:Bool) (m:ByteArray) (y:Bool) (a:Option Addr) (len cap:Nat) (zs:List ByteArray) (w:World) (hr:an w a len cap zs) (hl:len<=8001):
  Calls Tryz.prog 94 #[.agg #[.string n,.int .i64 c,.string z,.string k,.bool x,.string m,.bool y,.slice a len cap]] w fun e w'=> ∃a' l p,e=.returned (.agg #[.string n,.int .i64 c,.string z,.string k,.bool x,.string m,.bool y,.slice a' l p])/\aZ zs w a' l p w':=by
 have HR:=aa (hr.below (aF w (.cells #[.string n,.int .i64 c,.string z,.string k,.bool x,.string m,.bool y,.slice a len cap] 118) (.cells #[.string ⟨#[]⟩,.int .i64 0,.string ⟨#[]⟩,.string ⟨#[]⟩,.bool false,.string ⟨#[]⟩,.bool false,.slice none 0 0] 118)));clear hr;go_enter Tryz.func94,Tryz.ntmps94;go_wp2_with fail;refine (fS a len cap zs _ HR.out hl).mono ?_;rintro e w3 ⟨a',l,p,rfl,h1,h2,hb⟩;have g0:=(hb.block w.heap.size cC).trans (cH _ _ _);have g1:=(hb.block (w.heap.size+1) a8).trans (bs _ _ _);have HQ:Hid (an w3 a' l p zs/\(zs=[]\/∃g cur,a'=some ⟨g,0,none⟩/\w.heap.size+1+1<=g/\w3.heap[g]?=some (.cells cur 9 (0,0)))/\Below w.heap.size w w3):=⟨h1,by simpa using h2,(aF w _ _).trans (hb.mono cC)⟩;have d0:=ck0 g0;have d1:=ck1 g0;have d2:=ck2 g0;have d3:=ck3 g0;have d4:=ck4 g0;have d5:=ck5 g0;have d6:=ck6 g0;have d7:=ck7 g0;have df7:=au g0 7;have e0:=ck0 g1;have ef0:=au g1 0;have e1:=ck1 g1;have ef1:=au g1 1;have e2:=ck2 g1;have ef2:=au g1 2;have e3:=ck3 g1;have ef3:=au g1 3;have e4:=ck4 g1;have ef4:=au g1 4;have e5:=ck5 g1;have ef5:=au g1 5;have e6:=ck6 g1;have ef6:=au g1 6;have e7:=ck7 g1;have ef7:=au g1 7;have HQ2:=aa (aZ.set (aZ.set (aZ.set (aZ.set (aZ.set (aZ.set (aZ.set (aZ.set (aZ.set HQ.out (b:=w.heap.size) (i:=7) ae ae (v:=.slice a' l p)) (b:=w.heap.size+1) (i:=0) ae ae (v:=.string n)) (b:=w.heap.size+1) (i:=1) ae ae (v:=.int .i64 c)) (b:=w.heap.size+1) (i:=2) ae ae (v:=.string z)) (b:=w.heap.size+1) (i:=3) ae ae (v:=.string k)) (b:=w.heap.size+1) (i:=4) ae ae (v:=.bool x)) (b:=w.heap.size+1) (i:=5) ae ae (v:=.string m)) (b:=w.heap.size+1) (i:=6) ae ae (v:=.bool y)) (b:=w.heap.size+1) (i:=7) ae ae (v:=.slice a' l p));clear h1 h2 hb g0 g1;go_wp2_with fail;refine bodyPost_ret (v:=.agg #[.string n,.int .i64 c,.string z,.string k,.bool x,.string m,.bool y,.slice a' l p]) (by simp[results,Tryz.results94,go_sem, *]) rfl ⟨a',l,p,rfl,HQ2.1,?_,HQ2.2.2⟩;rcases HQ2.2.1 with h|⟨g,cur,h1,h2,h3⟩
 ·exact .inl h
 ·exact .inr ⟨g,cur,h1,by omega,h3⟩

end Ap
end Go.Proofs.YtdoldaceehdifaaGreatDoor
