import Derived.Test.YtiplhgedmjoliaaGreatDoorU10
import Derived.Deep.Cut
import Derived.Deep.CutRange
import Derived.Stop.LaidErr
import Derived.ChangeVars
/-
 The law FnEvict, walked: it returns true at whatever slice of bytes.
-/
set_option maxRecDepth 100000
set_option maxHeartbeats 12800000
open Bool renaming false→G_,true→Hb
open Go.Ending renaming returned→Ha
open Go.IntKind renaming i64→G6
open Go.Obj renaming cells→G7
open Go.Value renaming string→I,slice→J,int→GZ,bool→G8,agg→Hc,pointer→Hf,tuple→Hg
open Option renaming none→U,some→F_
open Or renaming inr→Hd,inl→He
open And renaming intro→Fk
open Array renaming getElem?_push_size→Fs, getD_eq_getD_getElem?→FD, getElem?_eq_some_iff→FJ
open Bool renaming and_eq_true→FU
open Go.Addr renaming add_lit→FC
open Go.Calls renaming quiet_of_same→FP
open Go.RowKit.Below renaming heap_setCell→Fl, refl→Ft, heap_alloc→Fy
open Go.Value renaming string→Fz, ownBlock→FX
open Go.World renaming setCell→Gb, cell?→Gc
open List renaming getElem?_eq_some_iff→Fm, lookup→Fo, getElem?_eq_getElem→Fu, length_map→FB, setIfInBounds_toArray→FF, getElem?_map→FG, forall_mem_cons→FH, mem_of_getElem?→FK, set_cons_zero→FL, set_cons_succ→FM, drop_eq_nil_of_le→FN, getElem?_take→FQ, take_of_length_le→FT, getElem?_of_mem→FV, length_take→FW, take_add_one→FZ, foldr→F7
open Nat renaming le_refl→Fq, lt_of_lt_of_le→Fw, le_trans→FA, zero_add→FE, le_succ→FO, zero_le→FY
open Option renaming map_eq_some_iff→FR
open Option.some renaming inj→Fp
namespace Go.Proofs.YtiplhgedmjoliaaGreatDoor
variable {p:Prop}
namespace Mk
end Mk
namespace Dk
end Dk
namespace Rc
end Rc
open Go.RowKit Mk Dk Rc
variable {P:Program}
theorem fm(h:p:=by intro a w e;simpa[ai,Fo] using e):p:=h
theorem db(h:p:=by simpa[ai,Fo] using e):p:=h
theorem dw(h:p:=by
 go_simp;refine hK _ _ (Ft _ _) ?_;first|with_reducible rfl|(simp;done)|(refine congrArg Value.bool ?_;first|exact H0.out|exact H1.out)|rfl):p:=h
theorem ve(h:p:=by
 refine Obl.plain rfl ?_;intro ac wg K hsz hW hf hK;clear hsz;have e54:=hf 54 ah;simp[ai,Fo] at e54;have e55:=hf 55 ah;simp[ai,Fo] at e55;clear hf;go_simp;refine (fO ⟨(F_ ⟨b,on,U⟩),l1,y1,a2,l2,y2,a3,l3,y3,a4,l4,y4,a5,l5,y5⟩ c t _ (HC3.below hW)).mono ?_;rintro e w3 ⟨x',a,l,cp,rfl,hf,-,hb3⟩;obtain rfl:=hf.is HRI.out HX0.out HXN.out;exact hK _ _ hb3 ⟨a,l,cp,rfl⟩):p:=h
theorem uZ(h:p:=by
 refine Obl.plain rfl ?_;intro ac wg K hsz hW hf hK;clear hsz;have e53:=hf 53 ah;simp[ai,Fo] at e53;have e57:=hf 57 ah;simp[ai,Fo] at e57;clear hf;have he:=HEQ.out;go_simp;refine hK _ _ (Ft _ _) ?_;first|with_reducible rfl|exact congrArg Value.bool HEQ.out|(simp;done)|rfl):p:=h
theorem B9(h:p:=by
 refine Obl.guarded rfl rfl fm ?_;intro ac wg K hsz hW hf hK;clear hsz;have e62:=hf 62 ah;simp[ai,Fo] at e62;have e72:=hf 72 ah;simp[ai,Fo] at e72;clear hf;go_simp;refine hK _ _ (Ft _ _) ?_;(refine congrArg Value.bool ?_;rw[HGE.out]);try simp):p:=h
theorem B3(h:p:=by
 refine Obl.guarded rfl rfl fm ?_;intro ac wg K hsz hW hf hK;clear hsz;have e64:=hf 64 ah;simp[ai,Fo] at e64;clear hf;go_simp;refine hK _ _ (Ft _ _) ?_;first|with_reducible rfl|exact congrArg Value.bool HD.out|(simp;done)|rfl):p:=h
theorem p8(h:p:=by
 exact Obl.cj rfl rfl (by intro a w e h;have e9:a.tmps.getD 29 undef=G8 G_:=db;rw[e9] at h;cases h)):p:=h
theorem yy(h:p:=by
 clear hf;go_simp;refine (oM ⟨a1,l1,y1,a2,l2,y2,a3,l3,y3,a4,l4,y4,a5,l5,y5⟩ c t _ (HC.below hW)).mono ?_;rintro e w3 ⟨g2,o2,rfl,hI2,ho2,hb3⟩;obtain rfl:=HI.same hI2;exact hK _ _ hb3 ⟨g2,rfl,ho2⟩):p:=h
theorem xY(h:p:=by
 go_simp;refine (td g g2 o _ (HX.below hW) hrow (λh=>HI.right h)).mono ?_;rintro e w3 ⟨rfl,hb3⟩;exact hK _ _ hb3 rfl):p:=h
theorem pM(h:p:=by
 refine Grow.stepC (G8 G_) rfl ?_ ?_
 ·refine Obl.plain rfl ?_;intro ac wg K hsz hW hf hK;clear hsz;have e59:=hf 59 ah;simp[ai,Fo] at e59;have e73:=hf 73 ah;simp[ai,Fo] at e73;clear hf;exact dw
 refine Grow.done ?_;intro q wy hW hf;simp only[FH] at hf;obtain⟨h74,-⟩:=hf;refine hK0 _ _ ?_;simp only[aN,F7,Act.put,FF,FL,FM,h74];clear hK0;have HBY:=upB HW hW;clear hW h74;go_wp2_with fail;exact⟨⟨k+1,by omega,by go_num,HBY.out⟩,by simp[intOf];omega⟩):p:=h
theorem wZ(h:p:=by
 exact pz):p:=h
theorem wY(h:p:=by
 exact lR):p:=h
theorem wQ(h:p:=by
 refine Obl.guarded rfl rfl fm ?_;intro ac wg K hsz hW hf hK;clear hsz;have e29:=hf 29 ah;simp[ai,Fo] at e29;have e32:=hf 32 ah;simp[ai,Fo] at e32;clear hf;exact dw):p:=h
theorem wP(h:p:=by
 refine Obl.plain rfl ?_;intro ac wg K hsz hW hf hK;clear hsz;have e5:=hf 5 ah;simp[ai,Fo] at e5;clear hf;have gd:=(hW.block _ (aa Bx.out)).trans Bx.out;obtain⟨d0,d1,d2,d3,d4,d5,d6,d7⟩:=cs8 gd;clear gd;exact dw):p:=h
theorem wO(h:p:=by
 have d7:wg.cell? ⟨bx,7,U⟩=F_ (GZ G6 o.p):=ar gd 7;clear gd;exact dw):p:=h
theorem wN(h:p:=by
 refine Obl.plain rfl ?_;intro ac wg K hsz hW hf hK;clear hsz;have e3:=hf 3 ah;simp[ai,Fo] at e3;clear hf;have gd:=(hW.block _ (aa Bc.out)).trans Bc.out;obtain⟨d0,d1,d2,d3,d4,d5⟩:=cs6 gd;clear gd;exact dw):p:=h
theorem lS(h:p:=by
 intro ac wg K hsz hW hf hK;clear hsz;have e7:=hf 7 ah;simp[ai,Fo] at e7;clear hf;exact dw):p:=h
theorem pB(h:p:=by
 refine Obl.plain rfl ?_;intro ac wg K hsz hW hf hK;clear hsz;have e52:=hf 52 ah;simp[ai,Fo] at e52;clear hf;have gd:=(hW.block _ (aa Bn.out)).trans Bn.out;obtain⟨d0,d1,d2,d3,d4,d5,d6⟩:=cs7 gd;clear gd;exact dw):p:=h
theorem pA(h:p:=by
 refine Obl.plain rfl ?_;intro ac wg K hsz hW hf hK;clear hsz;have e3:=hf 3 ah;simp[ai,Fo] at e3;clear hf;have gd:=(hW.block _ (aa Bc3.out)).trans Bc3.out;obtain⟨d0,d1,d2,d3,d4,d5⟩:=cs6 gd;clear gd;exact dw):p:=h
theorem lR(h:p:=by
 refine Obl.plain rfl ?_;intro ac wg K hsz hW hf hK;clear hsz;have e4:=hf 4 ah;simp[ai,Fo] at e4;clear hf;exact dw):p:=h
theorem pz(h:p:=by
 refine Obl.guarded rfl rfl fm ?_;intro ac wg K hsz hW hf hK;clear hsz;have e5:=hf 5 ah;simp[ai,Fo] at e5;clear hf;exact dw):p:=h
theorem vJ(h:p:=by
 refine Obl.guarded rfl rfl fm ?_;intro ac wg K hsz hW hf hK;clear hsz;have e60:=hf 60 ah;simp[ai,Fo] at e60;clear hf;have gd:=(hW.block _ (aa Bx3.out)).trans Bx3.out;have d7:wg.cell? ⟨bx,7,U⟩=F_ (GZ G6 o.p):=ar gd 7;clear gd;exact dw):p:=h
theorem py(h:p:=by
 refine Obl.plain rfl ?_;intro ac wg K hsz hW hf hK;clear hsz;have e56:=hf 56 ah;simp[ai,Fo] at e56;clear hf;obtain⟨a,l,cp,e56⟩:=e56;exact dw):p:=h
theorem vI(h:p:=by
 refine Obl.guarded rfl rfl fm ?_;intro ac wg K hsz hW hf hK;clear hsz;have e63:=hf 63 ah;simp[ai,Fo] at e63;clear hf;have gd:=(hW.block _ (aa Bn.out)).trans Bn.out;have d5:wg.cell? ⟨bn,5,U⟩=F_ (G8 n.d):=ar gd 5;clear gd;exact dw):p:=h
theorem px(h:p:=by
 refine Obl.plain rfl ?_;intro ac wg K hsz hW hf hK;clear hsz;have e58:=hf 58 ah;simp[ai,Fo] at e58;clear hf;exact dw):p:=h
theorem vF(h:p:=by
 refine Obl.guarded rfl rfl fm ?_;intro ac wg K hsz hW hf hK;clear hsz;have e65:=hf 65 ah;simp[ai,Fo] at e65;have e71:=hf 71 ah;simp[ai,Fo] at e71;clear hf;exact dw):p:=h
theorem vz(h:p:=by
 refine Obl.guarded rfl rfl fm ?_;intro ac wg K hsz hW hf hK;clear hsz;have e61:=hf 61 ah;simp[ai,Fo] at e61;clear hf;exact dw):p:=h
theorem o_(h:p:=by
 refine Obl.guarded rfl rfl fm ?_;exact lS):p:=h
namespace Rc
def PoF(x:Pd):Fact:=λv _=> ∃(a:Option Addr) (l cp:Nat),v=Hc #[I x.n,GZ G6 x.c,I x.z,J a l cp,I x.d,GZ G6 x.p]
theorem PoF.mono(x:Pd):Fact.ck (PoF x):=λ_ _ _ h _=>h
def CoF(o:Co):Fact:=λv w=> ∃g:Ad,v=Hc #[J g.a1 g.l1 g.c1,J g.a2 g.l2 g.c2,J g.a3 g.l3 g.c3,J g.a4 g.l4 g.c4,J g.a5 g.l5 g.c5,GZ G6 o.c.now,I o.n,GZ G6 o.p]/\aE w g o.c.raw
theorem CoF.mono(o:Co):Fact.ck (CoF o):=λ_ _ _ ⟨g,h,h1⟩ hb=>⟨g,h,h1.below hb⟩
theorem bC.law {c:Cl} {t:ByteArray} {o:Co} (h:bC c t o) (hp:((o.p !=0) && (o.p !=11))=G_):
  ∃(x:Pd) (j:Nat),c.ps[j]?=F_ x/\x.n=t/\aJ Pd.n c.ps/\(∀(k:Nat) n,c.ns[k]?=F_ n->(0<=n.u/\n.u<=1000000)/\(n.n=x.d->(o.p==0)=(n.d && decide (n.u+5<c.now))))/\(o.p=0->aJ Pd.n o.c.ps/\∃(i:Nat) (y:Pd),o.c.ps[i]?=F_ y/\y.n=t/\y.d=⟨#[]⟩/\y.p=0):=by
 have key:ay c->∀(x:Pd) (k:Nat) (n:Nd),c.ns[k]?=F_ n->n.n=x.d->(AO c x↔(n.d && decide (n.u+5<c.now))=Hb):=λhr x k n hk hn=>by
  have hh:=bl hr.2.1.1.2.2 hk hn;constructor
  ·rintro⟨m,h1,h2,h3,h4⟩;obtain⟨_,rfl⟩:=hr.2.1.1.2.2.inj hk h1 (hn.trans h2.symm);simp[h3,h4]
  ·intro h3;simp only[FU,decide_eq_true_eq] at h3;exact⟨n,by rw[hh.1];exact hk,hn,h3.1,h3.2⟩
 rcases h with ⟨i,a,rfl⟩|⟨_,hr,x,hx,hn,h0,hg,rfl⟩
 ·rcases a.cases with ⟨rfl,_⟩|⟨rfl,_⟩|⟨rfl,_⟩|⟨rfl,_⟩|⟨rfl,_,hr,x,hx,hn,h0,hg⟩;all_goals first
   | (exfalso;revert hp;decide)
   | skip
  refine⟨x,_,hx,hn,hr.2.1.2.2.2.2.2.2,λk n hk=>⟨(hr.2.1.1.2.1 k n hk).2.2.2.2.1,λhe=>?_⟩,λh=>absurd h ah⟩;have:=(key hr x k n hk he);cases hq:(n.d && decide (n.u+5<c.now))
  ·rfl
  ·exact absurd (this.2 hq) hg
 ·refine⟨x,_,hx,hn,hr.2.1.2.2.2.2.2.2,λk n hk=>⟨(hr.2.1.1.2.1 k n hk).2.2.2.2.1,λhe=>?_⟩,λ_=>?_⟩
  ·rw[(key hr x k n hk he).1 hg];rfl
  ·have hr2:=lI hr hx;exact⟨hr2.2.1.2.2.2.2.2.2,_,idle x,List.getElem?_set_self (Fm.1 hx).1,hn,rfl,rfl⟩
set_option linter.unusedVariables false in
theorem qI(v:Value) (len:Nat) (E:Nat->Addr) (w:World) (hv:∃a cap,v=J a len cap) (hR:fE w.heap.size w v len) (hl:len<=1048576) (hG:Ers w E):
  Calls Tryz.prog 3 #[v] w λe w'=>e=Ha (G8 Hb)/\Below w.heap.size w w':=by
 obtain⟨ac,cc,rfl⟩:=hv;have HR:=ae hR;have HE:=ae hG;clear hR hG;go_enter Tryz.func3,Tryz.ntmps3;go_wp2_with fail;refine (kO _ len _ HR.out).mono ?_;rintro e w1 ⟨⟨a1,l1,y1,a2,l2,y2,a3,l3,y3,a4,l4,y4,a5,l5,y5⟩,c,t,rfl,hr,ht,hb⟩;have HC:=ae hr;have HB:=ae hb;clear hr hb HR;go_wp2_with fail;refine (qD ⟨a1,l1,y1,a2,l2,y2,a3,l3,y3,a4,l4,y4,a5,l5,y5⟩ c t E _ (HC.below (aq _ _)) ((HE.below HB.out).below (aq _ _))).mono ?_;rintro e w2 ⟨g,o,rfl,hI,ho,hb⟩;go_wp2_with fail;obtain⟨HA0,hbx⟩:=aT hb;have hbX:=aq w2 (G7 #[J g.a1 g.l1 g.c1,J g.a2 g.l2 g.c2,J g.a3 g.l3 g.c3,J g.a4 g.l4 g.c4,J g.a5 g.l5 g.c5,GZ G6 o.c.now,I o.n,GZ G6 o.p] 33);have HI:=ae hI;have Bc:=ae ((hbX.block _ (aa HA0)).trans HA0);have Bx:Hid ((w2.alloc (G7 #[J g.a1 g.l1 g.c1,J g.a2 g.l2 g.c2,J g.a3 g.l3 g.c3,J g.a4 g.l4 g.c4,J g.a5 g.l5 g.c5,GZ G6 o.c.now,I o.n,GZ G6 o.p] 33)).heap[w2.heap.size]?=F_ (G7 #[J g.a1 g.l1 g.c1,J g.a2 g.l2 g.c2,J g.a3 g.l3 g.c3,J g.a4 g.l4 g.c4,J g.a5 g.l5 g.c5,GZ G6 o.c.now,I o.n,GZ G6 o.p] 33 (0,0))):=Fs;have HX:=ae (ho.row.below hbX);replace HC:=ae ((HC.below hbx).below hbX);replace HB:=ae ((HB.trans (hbx.mono HB.size)).trans (hbX.mono (HB.trans (hbx.mono HB.size)).size));clear hI ho hb hbx hbX HA0;generalize hX:w2.heap.size=bx at*;generalize (w2.alloc (G7 #[J g.a1 g.l1 g.c1,J g.a2 g.l2 g.c2,J g.a3 g.l3 g.c3,J g.a4 g.l4 g.c4,J g.a5 g.l5 g.c5,GZ G6 o.c.now,I o.n,GZ G6 o.p] 33))=W at*;generalize hC:w1.heap.size=bc at*;clear hX hC;obtain⟨q0,h0⟩:∃q,(o.p !=0)=q:=⟨_,rfl⟩;obtain⟨q1,h1⟩:∃q,(o.p !=11)=q:=⟨_,rfl⟩;have H0:=ae h0;have H1:=ae h1;clear h0 h1;rename_i K0 hK0;refine ba (back:=U) au (List.append_nil _).symm au ?_;refine Grow.stepC (Hc #[J g.a1 g.l1 g.c1,J g.a2 g.l2 g.c2,J g.a3 g.l3 g.c3,J g.a4 g.l4 g.c4,J g.a5 g.l5 g.c5,GZ G6 o.c.now,I o.n,GZ G6 o.p]) rfl ?_ ?_
 ·exact wP
 refine Grow.stepC (Hc #[J a1 l1 y1,J a2 l2 y2,J a3 l3 y3,J a4 l4 y4,J a5 l5 y5,GZ G6 c.now]) rfl ?_ ?_
 ·exact wN
 refine Grow.stepC (I t) rfl ?_ ?_
 ·exact wY
 refine Grow.step (CoF o) rfl (CoF.mono o) ?_ ?_
 ·refine Obl.plain rfl ?_;intro ac wg K hsz hW hf hK;clear hsz;have e20:=hf 20 ah;simp[ai,Fo] at e20;have e21:=hf 21 ah;simp[ai,Fo] at e21;exact yy
 refine Grow.stepC (G8 Hb) rfl ?_ ?_
 ·refine Obl.plain rfl ?_;intro ac wg K hsz hW hf hK;clear hsz;have e19:=hf 19 ah;simp[ai,Fo] at e19;have e22:=hf 22 ah;simp[ai,Fo] at e22;clear hf;obtain⟨g2,e22,hrow⟩:=e22;exact xY
 refine Grow.stepC (G8 G_) rfl ?_ ?_
 ·refine Obl.plain rfl ?_;intro ac wg K hsz hW hf hK;clear hsz;have e23:=hf 23 ah;simp[ai,Fo] at e23;clear hf;exact dw
 refine Grow.stepC (G8 G_) rfl ?_ ?_
 ·refine Obl.plain rfl ?_;intro ac wg K hsz hW hf hK;clear hsz;have e24:=hf 24 ah;simp[ai,Fo] at e24;clear hf;exact dw
 refine Grow.stepC (Hf (F_ ⟨bx,7,U⟩)) rfl ?_ ?_
 ·exact wZ
 refine Grow.stepC (GZ G6 o.p) rfl ?_ ?_
 ·refine Obl.guarded rfl rfl fm ?_;intro ac wg K hsz hW hf hK;clear hsz;have e26:=hf 26 ah;simp[ai,Fo] at e26;clear hf;have gd:=(hW.block _ (aa Bx.out)).trans Bx.out;exact wO
 refine Grow.stepC (G8 q0) rfl ?_ ?_
 ·refine Obl.guarded rfl rfl fm ?_;intro ac wg K hsz hW hf hK;clear hsz;have e27:=hf 27 ah;simp[ai,Fo] at e27;clear hf;exact dw
 refine Grow.stepC (G8 q0) rfl ?_ ?_
 ·refine Obl.guarded rfl rfl fm ?_;intro ac wg K hsz hW hf hK;clear hsz;have e28:=hf 28 ah;simp[ai,Fo] at e28;clear hf;exact dw
 refine Grow.stepC (cond q0 (Hf (F_ ⟨bx,7,U⟩)) undef) rfl ?_ ?_
 ·cases q0
  ·exact p8
  ·exact wZ
 refine Grow.stepC (cond q0 (GZ G6 o.p) undef) rfl ?_ ?_
 ·cases q0
  ·exact p8
  ·refine Obl.guarded rfl rfl fm ?_;intro ac wg K hsz hW hf hK;clear hsz;have e30:=hf 30 ah;simp[ai,Fo] at e30;clear hf;have gd:=(hW.block _ (aa Bx.out)).trans Bx.out;exact wO
 refine Grow.stepC (cond q0 (G8 q1) undef) rfl ?_ ?_
 ·cases q0
  ·exact p8
  ·refine Obl.guarded rfl rfl fm ?_;intro ac wg K hsz hW hf hK;clear hsz;have e31:=hf 31 ah;simp[ai,Fo] at e31;clear hf;exact dw
 refine Grow.stepC (G8 (q0 && q1)) rfl ?_ ?_
 ·cases q0
  ·exact wQ
  ·exact wQ
 refine Grow.stepC (G8 (q0 && q1)) rfl ?_ ?_
 ·refine Obl.plain rfl ?_;intro ac wg K hsz hW hf hK;clear hsz;have e25:=hf 25 ah;simp[ai,Fo] at e25;have e33:=hf 33 ah;simp[ai,Fo] at e33;clear hf;exact dw
 refine Grow.done ?_;intro q wz hW hf;simp only[FH] at hf;obtain⟨h34,-⟩:=hf;refine hK0 _ _ ?_;simp only[aN,F7,Act.put,FF,FL,FM,h34];clear hK0;replace HC:=ae (HC.below hW);replace HX:=ae (HX.below hW);replace Bc:=upK Bc hW;replace Bx:=upK Bx hW;replace HB:=upB HB hW;clear hW;obtain⟨r,hr⟩:∃r,(q0 && q1)=r:=⟨_,rfl⟩;rw[hr];cases r;rotate_left
 ·clear hr;go_wp2_with fail;rename_i K0 hK0;refine ba (back:=U) au (List.append_nil _).symm au ?_;refine Grow.stepC (Hc #[J g.a1 g.l1 g.c1,J g.a2 g.l2 g.c2,J g.a3 g.l3 g.c3,J g.a4 g.l4 g.c4,J g.a5 g.l5 g.c5,GZ G6 o.c.now,I o.n,GZ G6 o.p]) rfl ?_ ?_
  ·exact wP
  refine Grow.stepC (Hc #[J a1 l1 y1,J a2 l2 y2,J a3 l3 y3,J a4 l4 y4,J a5 l5 y5,GZ G6 c.now]) rfl ?_ ?_
  ·exact wN
  refine Grow.stepC (I t) rfl ?_ ?_
  ·exact wY
  refine Grow.step (CoF o) rfl (CoF.mono o) ?_ ?_
  ·refine Obl.plain rfl ?_;intro ac wg K hsz hW hf hK;clear hsz;have e36:=hf 36 ah;simp[ai,Fo] at e36;have e37:=hf 37 ah;simp[ai,Fo] at e37;exact yy
  refine Grow.stepC (G8 Hb) rfl ?_ ?_
  ·refine Obl.plain rfl ?_;intro ac wg K hsz hW hf hK;clear hsz;have e35:=hf 35 ah;simp[ai,Fo] at e35;have e38:=hf 38 ah;simp[ai,Fo] at e38;clear hf;obtain⟨g2,e38,hrow⟩:=e38;exact xY
  refine Grow.stepC (G8 Hb) rfl ?_ ?_
  ·refine Obl.plain rfl ?_;intro ac wg K hsz hW hf hK;clear hsz;have e39:=hf 39 ah;simp[ai,Fo] at e39;clear hf;exact dw
  refine Grow.done ?_;intro q wz hW hf;simp only[FH] at hf;obtain⟨h2,-⟩:=hf;refine hK0 _ _ ?_;simp only[aN,F7,Act.put,FF,FL,FM,h2];clear hK0;go_wp2_with fail;go_ret;exact⟨rfl,HB.trans (hW.mono HB.size)⟩
 ·rw[<-H0.out,<-H1.out] at hr;obtain⟨x,j,hx,hxn,hris,hns,hend⟩:=HI.law hr;have HX0:=ae hx;have HXN:=ae hxn;have HRI:=ae hris;have HNS:=ae hns;have HEN:=ae hend;clear hx hxn hris hns hend hr;have hl1:c.ns.length=l1:=by simpa using (show (c.ns.map ndF).length=l1 from HC.n.1)
  have hm1:l1<=9223372036854775807:=FA HC.n.2.1 HC.n.2.2.1;go_wp2_with fail;go_loopw [6] (λi wr=> ∃k:Nat,k<=l1/\i=GZ G6 k/\Hid (Below wz.heap.size wz wr)) (λi _=>l1 - (intOf i).toNat);case atStart=>exact⟨0,by omega,rfl,Ft _ _⟩
  case round=>
   obtain⟨k,hk,rfl,HBW⟩:=hrel;have Rk:=upK Bc HBW.out;have pk0:=ck0 Rk;by_cases hlt:k<l1
   ·obtain⟨b,on,n,rfl,hb,hxk,hat⟩:=bO (HC.n.below HBW.out) hlt;obtain⟨va,vl,vc,hvr,z0,z1,c0,c1,c2,c3,c4,c5,c6⟩:=aU hat;obtain⟨hu,hg⟩:=HNS.out k n hxk;have HU:Hid (IntKind.i64.wrap (n.u+5)=n.u+5):=by show _=_;rw[IntKind.wrap_i64];omega
    have HGN:=ae hg;clear hat hvr z0 z1 hu hg hxk;go_wp2_with fail;have hbX:=aq wr (G7 (nov n va vl vc) 38);have Bn:Hid ((wr.alloc (G7 (nov n va vl vc) 38)).heap[wr.heap.size]?=F_ (G7 (nov n va vl vc) 38 (0,0))):=Fs;have HW:=upB HBW hbX;clear hbX Rk HBW c0 c1 c2 c3 c4 c5 c6 hb pk0;generalize hX:wr.heap.size=bn at*;generalize (wr.alloc (G7 (nov n va vl vc) 38))=W3 at*;clear hX;have HC3:=ae (HC.below HW.out);have Bx3:=upK Bx HW.out;have Bc3:=upK Bc HW.out;by_cases hn:n.n=x.d;rotate_left
    ·have HEQ:=ae (bH hn);clear hn;rename_i K0 hK0;refine ba (back:=U) au (List.append_nil _).symm au ?_;refine Grow.stepC (Hf (F_ ⟨bn,0,U⟩)) rfl ?_ ?_
     ·refine Obl.plain rfl ?_;exact lS
     refine Grow.stepC (I n.n) rfl ?_ ?_
     ·exact pB
     refine Grow.stepC (Hc #[J (F_ ⟨b,on,U⟩) l1 y1,J a2 l2 y2,J a3 l3 y3,J a4 l4 y4,J a5 l5 y5,GZ G6 c.now]) rfl ?_ ?_
     ·exact pA
     refine Grow.stepC (I t) rfl ?_ ?_
     ·exact lR
     refine Grow.step (PoF x) rfl (PoF.mono x) ?_ ?_
     ·exact ve
     refine Grow.stepC (I x.d) rfl ?_ ?_
     ·exact py
     refine Grow.stepC (G8 G_) rfl ?_ ?_
     ·exact uZ
     refine Grow.stepC (G8 G_) rfl ?_ ?_
     ·exact px
     refine Grow.stepC undef rfl (Obl.cj rfl rfl (by intro a w e h;have e9:a.tmps.getD 59 undef=G8 G_:=db;rw[e9] at h;cases h)) ?_;refine Grow.stepC undef rfl (Obl.cj rfl rfl (by intro a w e h;have e9:a.tmps.getD 59 undef=G8 G_:=db;rw[e9] at h;cases h)) ?_;refine Grow.stepC undef rfl (Obl.cj rfl rfl (by intro a w e h;have e9:a.tmps.getD 59 undef=G8 G_:=db;rw[e9] at h;cases h)) ?_;refine Grow.stepC undef rfl (Obl.cj rfl rfl (by intro a w e h;have e9:a.tmps.getD 59 undef=G8 G_:=db;rw[e9] at h;cases h)) ?_;refine Grow.stepC undef rfl (Obl.cj rfl rfl (by intro a w e h;have e9:a.tmps.getD 59 undef=G8 G_:=db;rw[e9] at h;cases h)) ?_;refine Grow.stepC undef rfl (Obl.cj rfl rfl (by intro a w e h;have e9:a.tmps.getD 59 undef=G8 G_:=db;rw[e9] at h;cases h)) ?_;refine Grow.stepC undef rfl (Obl.cj rfl rfl (by intro a w e h;have e9:a.tmps.getD 65 undef=undef:=db;rw[e9] at h;simp[undef] at h)) ?_;refine Grow.stepC undef rfl (Obl.cj rfl rfl (by intro a w e h;have e9:a.tmps.getD 65 undef=undef:=db;rw[e9] at h;simp[undef] at h)) ?_;refine Grow.stepC undef rfl (Obl.cj rfl rfl (by intro a w e h;have e9:a.tmps.getD 65 undef=undef:=db;rw[e9] at h;simp[undef] at h)) ?_;refine Grow.stepC undef rfl (Obl.cj rfl rfl (by intro a w e h;have e9:a.tmps.getD 65 undef=undef:=db;rw[e9] at h;simp[undef] at h)) ?_;refine Grow.stepC undef rfl (Obl.cj rfl rfl (by intro a w e h;have e9:a.tmps.getD 65 undef=undef:=db;rw[e9] at h;simp[undef] at h)) ?_;refine Grow.stepC undef rfl (Obl.cj rfl rfl (by intro a w e h;have e9:a.tmps.getD 65 undef=undef:=db;rw[e9] at h;simp[undef] at h)) ?_;refine Grow.stepC undef rfl (Obl.cj rfl rfl (by intro a w e h;have e9:a.tmps.getD 59 undef=G8 G_:=db;rw[e9] at h;cases h)) ?_;refine Grow.stepC undef rfl (Obl.cj rfl rfl (by intro a w e h;have e9:a.tmps.getD 59 undef=G8 G_:=db;rw[e9] at h;cases h)) ?_;exact pM
    have HEQ:=ae (aW hn);have hge:=HGN.out hn;clear hn;by_cases hd:n.d=Hb
    ·have HD:=ae hd;have HGE:=ae (hge.trans (by rw[hd,Bool.true_and]));clear hd hge;rename_i K0 hK0;refine ba (back:=U) au (List.append_nil _).symm au ?_;refine Grow.stepC (Hf (F_ ⟨bn,0,U⟩)) rfl ?_ ?_
     ·refine Obl.plain rfl ?_;exact lS
     refine Grow.stepC (I n.n) rfl ?_ ?_
     ·exact pB
     refine Grow.stepC (Hc #[J (F_ ⟨b,on,U⟩) l1 y1,J a2 l2 y2,J a3 l3 y3,J a4 l4 y4,J a5 l5 y5,GZ G6 c.now]) rfl ?_ ?_
     ·exact pA
     refine Grow.stepC (I t) rfl ?_ ?_
     ·exact lR
     refine Grow.step (PoF x) rfl (PoF.mono x) ?_ ?_
     ·exact ve
     refine Grow.stepC (I x.d) rfl ?_ ?_
     ·exact py
     refine Grow.stepC (G8 Hb) rfl ?_ ?_
     ·exact uZ
     refine Grow.stepC (G8 Hb) rfl ?_ ?_
     ·exact px
     refine Grow.stepC (Hf (F_ ⟨bx,7,U⟩)) rfl ?_ ?_
     ·exact pz
     refine Grow.stepC (GZ G6 o.p) rfl ?_ ?_
     ·exact vJ
     refine Grow.stepC (G8 (o.p==0)) rfl ?_ ?_
     ·exact vz
     refine Grow.stepC (Hf (F_ ⟨bn,5,U⟩)) rfl ?_ ?_
     ·exact o_
     refine Grow.stepC (G8 n.d) rfl ?_ ?_
     ·exact vI
     refine Grow.stepC (G8 Hb) rfl ?_ ?_
     ·exact B3
     refine Grow.stepC (Hf (F_ ⟨bn,4,U⟩)) rfl ?_ ?_
     ·exact o_
     refine Grow.stepC (GZ G6 n.u) rfl ?_ ?_
     ·refine Obl.guarded rfl rfl fm ?_;intro ac wg K hsz hW hf hK;clear hsz;have e66:=hf 66 ah;simp[ai,Fo] at e66;clear hf;have gd:=(hW.block _ (aa Bn.out)).trans Bn.out;have d4:wg.cell? ⟨bn,4,U⟩=F_ (GZ G6 n.u):=ar gd 4;clear gd;exact dw
     refine Grow.stepC (GZ G6 (n.u+5)) rfl ?_ ?_
     ·refine Obl.guarded rfl rfl fm ?_;intro ac wg K hsz hW hf hK;clear hsz;have e67:=hf 67 ah;simp[ai,Fo] at e67;clear hf;have hu:=HU.out;exact dw
     refine Grow.stepC (Hf (F_ ⟨bc,5,U⟩)) rfl ?_ ?_
     ·refine Obl.guarded rfl rfl fm ?_;intro ac wg K hsz hW hf hK;clear hsz;have e3:=hf 3 ah;simp[ai,Fo] at e3;clear hf;exact dw
     refine Grow.stepC (GZ G6 c.now) rfl ?_ ?_
     ·refine Obl.guarded rfl rfl fm ?_;intro ac wg K hsz hW hf hK;clear hsz;have e69:=hf 69 ah;simp[ai,Fo] at e69;clear hf;have gd:=(hW.block _ (aa Bc3.out)).trans Bc3.out;have d5:wg.cell? ⟨bc,5,U⟩=F_ (GZ G6 c.now):=ar gd 5;clear gd;exact dw
     refine Grow.stepC (G8 (decide (n.u+5<c.now))) rfl ?_ ?_
     ·refine Obl.guarded rfl rfl fm ?_;intro ac wg K hsz hW hf hK;clear hsz;have e68:=hf 68 ah;simp[ai,Fo] at e68;have e70:=hf 70 ah;simp[ai,Fo] at e70;clear hf;exact dw
     refine Grow.stepC (G8 (decide (n.u+5<c.now))) rfl ?_ ?_
     ·exact vF
     refine Grow.stepC (G8 G_) rfl ?_ ?_
     ·exact B9
     exact pM
    ·have HD:Hid (n.d=G_):=by show _=_;simpa using hd
     have HGE:=ae (hge.trans (by rw[HD.out,Bool.false_and]));clear hd hge;rename_i K0 hK0;refine ba (back:=U) au (List.append_nil _).symm au ?_;refine Grow.stepC (Hf (F_ ⟨bn,0,U⟩)) rfl ?_ ?_
     ·refine Obl.plain rfl ?_;exact lS
     refine Grow.stepC (I n.n) rfl ?_ ?_
     ·exact pB
     refine Grow.stepC (Hc #[J (F_ ⟨b,on,U⟩) l1 y1,J a2 l2 y2,J a3 l3 y3,J a4 l4 y4,J a5 l5 y5,GZ G6 c.now]) rfl ?_ ?_
     ·exact pA
     refine Grow.stepC (I t) rfl ?_ ?_
     ·exact lR
     refine Grow.step (PoF x) rfl (PoF.mono x) ?_ ?_
     ·exact ve
     refine Grow.stepC (I x.d) rfl ?_ ?_
     ·exact py
     refine Grow.stepC (G8 Hb) rfl ?_ ?_
     ·exact uZ
     refine Grow.stepC (G8 Hb) rfl ?_ ?_
     ·exact px
     refine Grow.stepC (Hf (F_ ⟨bx,7,U⟩)) rfl ?_ ?_
     ·exact pz
     refine Grow.stepC (GZ G6 o.p) rfl ?_ ?_
     ·exact vJ
     refine Grow.stepC (G8 (o.p==0)) rfl ?_ ?_
     ·exact vz
     refine Grow.stepC (Hf (F_ ⟨bn,5,U⟩)) rfl ?_ ?_
     ·exact o_
     refine Grow.stepC (G8 n.d) rfl ?_ ?_
     ·exact vI
     refine Grow.stepC (G8 G_) rfl ?_ ?_
     ·exact B3
     refine Grow.stepC undef rfl (Obl.cj rfl rfl (by intro a w e h;have e9:a.tmps.getD 65 undef=G8 G_:=db;rw[e9] at h;cases h)) ?_;refine Grow.stepC undef rfl (Obl.cj rfl rfl (by intro a w e h;have e9:a.tmps.getD 65 undef=G8 G_:=db;rw[e9] at h;cases h)) ?_;refine Grow.stepC undef rfl (Obl.cj rfl rfl (by intro a w e h;have e9:a.tmps.getD 65 undef=G8 G_:=db;rw[e9] at h;cases h)) ?_;refine Grow.stepC undef rfl (Obl.cj rfl rfl (by intro a w e h;have e9:a.tmps.getD 65 undef=G8 G_:=db;rw[e9] at h;cases h)) ?_;refine Grow.stepC undef rfl (Obl.cj rfl rfl (by intro a w e h;have e9:a.tmps.getD 65 undef=G8 G_:=db;rw[e9] at h;cases h)) ?_;refine Grow.stepC undef rfl (Obl.cj rfl rfl (by intro a w e h;have e9:a.tmps.getD 65 undef=G8 G_:=db;rw[e9] at h;cases h)) ?_;refine Grow.stepC (G8 G_) rfl ?_ ?_
     ·exact vF
     refine Grow.stepC (G8 G_) rfl ?_ ?_
     ·exact B9
     exact pM
   ·obtain rfl:l1=k:=af
    have Bx3:=upK Bx HBW.out;have HX3:=ae (HX.below HBW.out);have HBY:=ae (HB.trans (HBW.mono HB.size));obtain⟨x0,x1,x2,x3,x4,x5,x6,x7⟩:=cs8 Bx3;cases q0;rotate_left
    ·have hp:=H0.out;go_wp2;go_ret;exact⟨rfl,HBY.out⟩
    have hp:=H0.out;have hp0:o.p=0:=et
    obtain⟨hri,i,y,hy,hyn,hyd,hyp⟩:=HEN.out hp0;have HY:=ae (Fk hri (Fk hy hyn));have HYD:=ae (cC hyd);have HYP:=ae hyp;clear hri hy hyn hyd hyp hp0;go_wp2_with fail;refine (fO g o.c t _ HX3.out).mono ?_;rintro e w3 ⟨y',a,l,cp,rfl,hf,-,hb3⟩;obtain rfl:=hf.is HY.1 HY.2.1 HY.2.2;clear hf;replace HX3:=ae (HX3.below hb3);replace Bx3:=upK Bx3 hb3;replace HBY:=upB HBY hb3;clear hb3 x0 x1 x2 x3 x4 x5 x6 x7;obtain⟨x0,x1,x2,x3,x4,x5,x6,x7⟩:=cs8 Bx3;have hyd:=HYD.out;have hfd:∀w,(Instr.field 40 (Hc #[I y'.n,GZ G6 y'.c,I y'.z,J a l cp,I y'.d,GZ G6 y'.p]) 4).run Tryz.prog w=.ok (I y'.d) w:=λ_=>by kernel_rfl
    go_wp2_with fail;refine (fO g o.c t _ HX3.out).mono ?_;rintro e w4 ⟨y',a,l,cp,rfl,hf,-,hb3⟩;obtain rfl:=hf.is HY.1 HY.2.1 HY.2.2;clear hf;replace HBY:=upB HBY hb3;clear hb3;have hyp:(y'.p==0)=Hb:=by rw[HYP.out];rfl
    have hfp:∀w,(Instr.field 40 (Hc #[I y'.n,GZ G6 y'.c,I y'.z,J a l cp,I y'.d,GZ G6 y'.p]) 5).run Tryz.prog w=.ok (GZ G6 y'.p) w:=λ_=>by kernel_rfl
    go_wp2;go_ret;exact⟨rfl,HBY.out⟩
end Rc
set_option linter.unusedVariables false in
theorem mr(a0:Option Addr) (len0 cap0:Nat) (z0:List Int) (w:World) (w0:sx .u8 w a0 len0 cap0 z0) (hG:∃E,Ers w E):
  Calls Tryz.prog 3 #[J a0 len0 cap0] w λe w'=>e=Ha (G8 Hb)/\Below w.heap.size w w':=by
 obtain⟨E,hG⟩:=hG;by_cases h0:1048576<len0
 ·clear w0 hG;go_enter Tryz.func3,Tryz.ntmps3;go_wp2;go_ret;exact⟨rfl,Ft _ _⟩
 exact qI _ len0 E w ⟨a0,cap0,rfl⟩ (w0.DY af) af hG
namespace Rc
theorem mO: "*" ++ "errors.errorString" = "*errors.errorString":=by decide
theorem EF(u:TypeId) (h:Tryz.prog.typeName? 3 u=F_ "*errors.errorString"):u=193:=
 typeName_ptr_named (nm:= "errors.errorString") (by rw[mO];kernel_rfl) au ah u (by rw[mO];exact h)
theorem qo {W:World} {nm:String} {ti tp te ts:TypeId} {ms:Array (String×TypeId)} {f:Field} (hi:P.underlying ti=F_ (.interface ms)) (hrow:∀u,P.typeName? 3 u=F_ nm->u=tp)
  (hp:P.underlying tp=F_ (.pointer te)) (he:P.underlying te=F_ (.struct #[f])) (hft:f.type=ts) (hfo:f.offset=0) (hs:P.underlying ts=F_ .string) (hc:P.cellsOf te=1) (hcs:P.cellsOf ts=1):
  ∀(l:List (String×List UInt8)) (ps:List MemPlace),(∀x∈l,∃g,P.globalNamed x.1=F_ g/\(P.globals[g]?).map (·.type)=F_ ti)->
   DataW.LaidVars P W (l.map λx=>(x.1,.iface nm (.ptr (.agg [.lit (.string x.2)])))) ps->ps.Nodup->
   (∀b off,MemPlace.cell b off∈ps->(∃c t,W.heap[b]?=F_ (G7 c t (0,0)))/\∀u v,W.cell? ⟨b,off,U⟩=F_ (.iface u v)->Value.okWide P W .any 0 u v)->
   ∃E:Nat->Addr,(∀(i:Nat) x,l[i]?=F_ x->W.var? P x.1=F_ #[.iface tp (Hf (F_ (E i)))]/\MemPlace.cell (E i).block (E i).off∈ps)/\∀i j,i<l.length->j<l.length->E i=E j->i=j
 | [],ps,_,_,_,_=>⟨λ_=>⟨0,0,U⟩,λi x h=>by simp at h,λi j h=>by simp at h⟩
 | x ::l,ps,hT,hv,hnd,hrows=>by
  obtain⟨g,t,cs,fuel,p,q,hg,ht,hvar,hd,hq,rfl⟩:=hv;obtain⟨g',hg',ht'⟩:=hT x aH;obtain rfl:=Fp (hg.symm.trans hg');obtain rfl:=Fp (ht.symm.trans ht');have hsub:∀{y},y∈q->y∈MemPlace.row ⟨g,0,U⟩ cs.size++p++q:=λh=>List.mem_append_right _ h;obtain⟨E,hE1,hE2⟩:=qo hi hrow hp he hft hfo hs hc hcs l q (λy hy=>hT y (by simp[hy])) hq (List.Nodup.sublist (List.sublist_append_right _ _) hnd) (λb off hm=>hrows b off (hsub hm));obtain⟨l0⟩:=cs;have ok0:∀u v,l0=[.iface u v]->Value.okWide P W .any 0 u v:=λu v e=>by
   subst e;exact (hrows g 0 (by simp[MemPlace.row])).2 u v (by simpa using World.var?_cell hg hvar 0)
  obtain⟨a0,s0,rfl,hc0,hs0,hz0,rfl⟩:=errorString_of_trod hi hrow hp he hft hfo hs hc hcs hd ok0;have ha:MemPlace.cell a0.block a0.off∈MemPlace.row a0 1:=by simp[MemPlace.row]
  have hdis:∀i,i<l.length->¬E i=a0:=λi hi' e=>by
   have h1:=(hE1 i _ (Fu hi')).2;rw[e] at h1;have h2:=(List.nodup_append.1 hnd).2.2 _ (List.mem_append_right _ ha) _ h1;exact h2 rfl
  refine⟨λi=>match i with|0=>a0|i+1=>E i,λi y hy=>?_,λi j hi' hj' e=>?_⟩
  ·cases i with
   | zero=>
    obtain rfl:x=y:=by simpa using hy
    exact⟨hvar,List.mem_append_left _ (List.mem_append_right _ ha)⟩
   | succ i=>
    obtain⟨h1,h2⟩:=hE1 i y (by simpa using hy);exact⟨h1,hsub h2⟩
  ·cases i with
   | zero=>cases j with
    | zero=>rfl
    | succ j=>exact absurd e.symm (hdis j (by simpa using hj'))
   | succ i=>cases j with
    | zero=>exact absurd e (hdis i (by simpa using hi'))
    | succ j=>rw[hE2 i j (by simpa using hi') (by simpa using hj') e]
theorem mT {H:Type} {enc:TypeId×Value->H} {w:World} {sp:Nat->Bool} :∀(ns:List String) (gs:List (DataW H)) (ps:List MemPlace),DataW.TrodVars enc P w sp ns gs ps->gs.length=ns.length
 | [],[],_,_=>rfl
 | [],_ ::_,_,h=>h.elim
 | _ ::_,[],_,h=>h.elim
 | _ ::ns,_ ::gs,_,h=>by
  obtain⟨_,_,_,_,_,q,_,_,_,_,h1,_⟩:=h;simp[mT ns gs q h1]
theorem Ff {α:Type} :∀{l:List α},l.length=10->∃a b c d e f g h i j,l=[a,b,c,d,e,f,g,h,i,j]
 | [a,b,c,d,e,f,g,h,i,j],_=>⟨a,b,c,d,e,f,g,h,i,j,rfl⟩
end Rc
end Go.Proofs.YtiplhgedmjoliaaGreatDoor
