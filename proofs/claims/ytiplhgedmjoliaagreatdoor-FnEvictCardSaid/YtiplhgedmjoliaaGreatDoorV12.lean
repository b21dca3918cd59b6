import Derived.Test.YtiplhgedmjoliaaGreatDoorV11
import Derived.Laws.StructEq
import Derived.Deep.Cut
import Derived.Deep.CutRange
import Derived.Stop.LaidErr
import Derived.ChangeVars
set_option maxRecDepth 100000
set_option maxHeartbeats 12800000
open Bool renaming false→Y8,true→Y_
open Go.Ending renaming returned→Y9
open Go.IntKind renaming i64→Y5
open Go.Obj renaming cells→Y6
open Go.Value renaming string→I,slice→J,int→Y4,bool→Y7,agg→Za,pointer→Zd,tuple→Ze
open Option renaming none→U,some→Y3
open Or renaming inr→Zb,inl→Zc
open And renaming intro→Yb
open Array renaming getElem?_push_size→Yg, getD_eq_getD_getElem?→Yp, getElem?_eq_some_iff→Yw
open Bool renaming and_eq_true→YE
open Go.Addr renaming add_lit→Yo
open Go.Calls renaming quiet_of_same→YC
open Go.Op renaming bytesLess→Yk
open Go.Region renaming ready→YR
open Go.RowKit.Below renaming heap_setCell→Ya, refl→Yh, heap_alloc→Ym
open Go.Value renaming string→Yn, ownBlock→YJ
open Go.World renaming setCell→YO
open List renaming getElem?_eq_some_iff→Yc, lookup→Yf, getElem?_eq_getElem→Yi, length_map→Yr, setIfInBounds_toArray→Ys, getElem?_map→Yt, mem_of_getElem?→Yu, getElem?_append_left→Yv, drop_eq_nil_of_le→Yx, set_cons_zero→YA, set_cons_succ→YB, getElem?_take→YD, getElem?_of_mem→YF, length_take→YG, take_of_length_le→YH, length_set→YK, take_add_one→YL, foldr→YQ
open Nat renaming le_refl→Ye, lt_of_lt_of_le→Yj, le_trans→Yl, zero_add→Yq, le_succ→Yy, zero_le→YI
open Option renaming map_eq_some_iff→Yz
open Option.some renaming inj→Yd
namespace Go.Proofs.YtiplhgedmjoliaaGreatDoor
variable {p:Prop}
namespace Mk
end Mk
namespace Dk
end Dk
namespace Rc
end Rc
open Go.RowKit Mk Dk Rc
variable {P:Program} {c:Cl} {t:ByteArray} {w:World}
theorem fj(h:p:=by simpa[aj,Yf] using e):p:=h
theorem dO(h:p:=by
 go_simp;refine hK _ _ (Yh _ _) ?_;first|with_reducible rfl|(simp;done)|(refine congrArg Value.bool ?_;first|exact H0.out|exact H1.out)|rfl):p:=h
theorem alj(h:p:=by
 refine Obl.plain rfl ?_;intro ac wg K hsz hW hf hK;clear hsz;have e54:=hf 54 ag;simp[aj,Yf] at e54;have e55:=hf 55 ag;simp[aj,Yf] at e55;clear hf;go_simp;refine (gQ ⟨(Y3 ⟨b,on,U⟩),l1,y1,a2,l2,y2,a3,l3,y3,a4,l4,y4,a5,l5,y5⟩ c t _ (HC3.below hW)).mono ?_;rintro e w3 ⟨x',a,l,cp,rfl,hf,-,hb3⟩;obtain rfl:=hf.is HRI.out HX0.out HXN.out;exact hK _ _ hb3 ⟨a,l,cp,rfl⟩):p:=h
theorem ag6(h:p:=by
 refine Obl.plain rfl ?_;intro ac wg K hsz hW hf hK;clear hsz;have e53:=hf 53 ag;simp[aj,Yf] at e53;have e57:=hf 57 ag;simp[aj,Yf] at e57;clear hf;have he:=HEQ.out;go_simp;refine hK _ _ (Yh _ _) ?_;first|with_reducible rfl|exact congrArg Value.bool HEQ.out|(simp;done)|rfl):p:=h
theorem zY(h:p:=by
 refine wpQuiet_nil ?_;rintro _ ⟨q,rfl⟩;go_wp2_with fail;exact⟨⟨k+1,by omega,by go_num,HS.below q.b⟩,by simp[intOf];omega⟩):p:=h
theorem agQ(h:p:=by
 have z190z:=@aa _ @adP;exact cg):p:=h
theorem agK(h:p:=by
 have z190z:=@aa _ @adO;exact cg):p:=h
theorem vR(h:p:=by
 exact Obl.cy rfl rfl (by intro a w e h;have e9:a.tmps.getD 29 undef=Y7 Y8:=fj;rw[e9] at h;cases h)):p:=h
theorem Py(h:p:=by
 clear hf;go_simp;refine (uS ⟨a1,l1,y1,a2,l2,y2,a3,l3,y3,a4,l4,y4,a5,l5,y5⟩ c t _ (HC.below hW)).mono ?_;rintro e w3 ⟨g2,o2,rfl,hI2,ho2,hb3⟩;obtain rfl:=HI.same hI2;exact hK _ _ hb3 ⟨g2,rfl,ho2⟩):p:=h
theorem Pa(h:p:=by
 go_simp;refine (A1 g g2 o _ (HX.below hW) hrow (λh=>HI.right h)).mono ?_;rintro e w3 ⟨rfl,hb3⟩;exact hK _ _ hb3 rfl):p:=h
theorem vD(h:p:=by
 refine Grow.stepC (Y7 Y8) rfl ?_ ?_
 ·refine Obl.plain rfl ?_;intro ac wg K hsz hW hf hK;clear hsz;have e59:=hf 59 ag;simp[aj,Yf] at e59;have e73:=hf 73 ag;simp[aj,Yf] at e73;clear hf;exact dO
 refine Grow.done ?_;intro q wy hW hf;simp only[List.forall_mem_cons] at hf;obtain⟨h74,-⟩:=hf;refine hK0 _ _ ?_;simp only[aJ,YQ,Act.put,Ys,YA,YB,h74];clear hK0;have HBY:=upB HW hW;clear hW h74;go_wp2_with fail;exact⟨⟨k+1,by omega,by go_num,HBY.out⟩,by simp[intOf];omega⟩):p:=h
theorem OA(h:p:=by
 exact NW):p:=h
theorem ajD(h:p:=by
 exact NX):p:=h
theorem Ot(h:p:=by
 have z190z:=@aa _ @adN;exact cg):p:=h
theorem ajB(h:p:=by
 refine Obl.plain rfl ?_;intro ac wg K hsz hW hf hK;clear hsz;have e5:=hf 5 ag;simp[aj,Yf] at e5;clear hf;have gd:=(hW.block _ (ae Bx.out)).trans Bx.out;obtain⟨d0,d1,d2,d3,d4,d5,d6,d7⟩:=cs8 gd;clear gd;exact dO):p:=h
theorem Oq(h:p:=by
 have d7:wg.cell? ⟨bx,7,U⟩=Y3 (Y4 Y5 o.p):=an gd 7;clear gd;exact dO):p:=h
theorem ajA(h:p:=by
 have z344z:=@aa _ @abY;exact lr):p:=h
theorem Ob(h:p:=by
 have z53z:=@aa _ @aeL;exact aC):p:=h
theorem NY(h:p:=by
 intro ac wg K hsz hW hf hK;clear hsz;have e7:=hf 7 ag;simp[aj,Yf] at e7;clear hf;exact dO):p:=h
theorem ajm(h:p:=by
 refine Obl.plain rfl ?_;intro ac wg K hsz hW hf hK;clear hsz;have e52:=hf 52 ag;simp[aj,Yf] at e52;clear hf;have gd:=(hW.block _ (ae Bn.out)).trans Bn.out;obtain⟨d0,d1,d2,d3,d4,d5,d6⟩:=cs7 gd;clear gd;exact dO):p:=h
theorem ajl(h:p:=by
 have z344z:=@aa _ @abX;exact lr):p:=h
theorem NX(h:p:=by
 refine Obl.plain rfl ?_;intro ac wg K hsz hW hf hK;clear hsz;have e4:=hf 4 ag;simp[aj,Yf] at e4;clear hf;exact dO):p:=h
theorem NW(h:p:=by
 have z190z:=@aa _ @adM;exact cg):p:=h
theorem ajk(h:p:=by
 have z190z:=@aa _ @adL;exact cg):p:=h
theorem ajj(h:p:=by
 refine Obl.plain rfl ?_;intro ac wg K hsz hW hf hK;clear hsz;have e56:=hf 56 ag;simp[aj,Yf] at e56;clear hf;obtain⟨a,l,cp,e56⟩:=e56;exact dO):p:=h
theorem aji(h:p:=by
 have z190z:=@aa _ @adK;exact cg):p:=h
theorem NT(h:p:=by
 refine Obl.plain rfl ?_;intro ac wg K hsz hW hf hK;clear hsz;have e58:=hf 58 ag;simp[aj,Yf] at e58;clear hf;exact dO):p:=h
theorem NS(h:p:=by
 have z190z:=@aa _ @adJ;exact cg):p:=h
theorem ajf(h:p:=by
 have z190z:=@aa _ @adI;exact cg):p:=h
theorem NA(h:p:=by
 refine Obl.guarded rfl rfl (by intro a w e;simpa[aj,Yf] using e) ?_;exact NY):p:=h
theorem ou(h:p:=by
 have hv0:=ae HS.g0;have hv1:=ae HS.g1;exact Yb hv0 hv1):p:=h
theorem aeO(h:p:=by
 repeat (go_big_quiet_step (first|(go_at_call 46;exact Calls.wide (HE.out _))|fail))
 exact zY):p:=h
theorem aeN(h:p:=by
 repeat (go_big_quiet_step (first|(go_at_call 47;exact Calls.wide (HE.out _))|fail))
 exact zY):p:=h
theorem aeM(h:p:=by
 repeat (go_big_quiet_step (first|(go_at_call 48;exact Calls.wide (HE.out _))|fail))
 exact zY):p:=h
theorem aeL(h:p:=by
 repeat (go_big_quiet_step (first|fail))
 exact zY):p:=h
theorem adZ(h:p:=by
 have e26:=hf 26 ag;simp[aj,Yf] at e26;clear hf;have gd:=(hW.block _ (ae Bx.out)).trans Bx.out;exact Oq):p:=h
theorem adY(h:p:=by
 have e27:=hf 27 ag;simp[aj,Yf] at e27;clear hf;exact dO):p:=h
theorem adX(h:p:=by
 have e28:=hf 28 ag;simp[aj,Yf] at e28;clear hf;exact dO):p:=h
theorem adW(h:p:=by
 have e30:=hf 30 ag;simp[aj,Yf] at e30;clear hf;have gd:=(hW.block _ (ae Bx.out)).trans Bx.out;exact Oq):p:=h
theorem adV(h:p:=by
 have e31:=hf 31 ag;simp[aj,Yf] at e31;clear hf;exact dO):p:=h
theorem adU(h:p:=by
 have e66:=hf 66 ag;simp[aj,Yf] at e66;clear hf;have gd:=(hW.block _ (ae Bn.out)).trans Bn.out;have d4:wg.cell? ⟨bn,4,U⟩=Y3 (Y4 Y5 n.u):=an gd 4;clear gd;exact dO):p:=h
theorem adT(h:p:=by
 have e67:=hf 67 ag;simp[aj,Yf] at e67;clear hf;have hu:=HU.out;exact dO):p:=h
theorem adS(h:p:=by
 have e3:=hf 3 ag;simp[aj,Yf] at e3;clear hf;exact dO):p:=h
theorem adR(h:p:=by
 have e69:=hf 69 ag;simp[aj,Yf] at e69;clear hf;have gd:=(hW.block _ (ae Bc3.out)).trans Bc3.out;have d5:wg.cell? ⟨bc,5,U⟩=Y3 (Y4 Y5 c.now):=an gd 5;clear gd;exact dO):p:=h
theorem adQ(h:p:=by
 have e68:=hf 68 ag;simp[aj,Yf] at e68;have e70:=hf 70 ag;simp[aj,Yf] at e70;clear hf;exact dO):p:=h
theorem adP(h:p:=by
 have e62:=hf 62 ag;simp[aj,Yf] at e62;have e72:=hf 72 ag;simp[aj,Yf] at e72;clear hf;go_simp;refine hK _ _ (Yh _ _) ?_;(refine congrArg Value.bool ?_;rw[HGE.out]);try simp):p:=h
theorem adO(h:p:=by
 have e64:=hf 64 ag;simp[aj,Yf] at e64;clear hf;go_simp;refine hK _ _ (Yh _ _) ?_;first|with_reducible rfl|exact congrArg Value.bool HD.out|(simp;done)|rfl):p:=h
theorem adN(h:p:=by
 have e29:=hf 29 ag;simp[aj,Yf] at e29;have e32:=hf 32 ag;simp[aj,Yf] at e32;clear hf;exact dO):p:=h
theorem adM(h:p:=by
 have e5:=hf 5 ag;simp[aj,Yf] at e5;clear hf;exact dO):p:=h
theorem adL(h:p:=by
 have e60:=hf 60 ag;simp[aj,Yf] at e60;clear hf;have gd:=(hW.block _ (ae Bx3.out)).trans Bx3.out;have d7:wg.cell? ⟨bx,7,U⟩=Y3 (Y4 Y5 o.p):=an gd 7;clear gd;exact dO):p:=h
theorem adK(h:p:=by
 have e63:=hf 63 ag;simp[aj,Yf] at e63;clear hf;have gd:=(hW.block _ (ae Bn.out)).trans Bn.out;have d5:wg.cell? ⟨bn,5,U⟩=Y3 (Y7 n.d):=an gd 5;clear gd;exact dO):p:=h
theorem adJ(h:p:=by
 have e65:=hf 65 ag;simp[aj,Yf] at e65;have e71:=hf 71 ag;simp[aj,Yf] at e71;clear hf;exact dO):p:=h
theorem adI(h:p:=by
 have e61:=hf 61 ag;simp[aj,Yf] at e61;clear hf;exact dO):p:=h
theorem cg(h:p:=by
 refine Obl.guarded rfl rfl (by intro a w e;simpa[aj,Yf] using e) ?_;intro ac wg K hsz hW hf hK;clear hsz;exact z190z):p:=h
theorem adH(h:p:=by
 refine Grow.stepC (Y7 Y8) rfl ?_ ?_
 ·exact ag6
 refine Grow.stepC (Y7 Y8) rfl ?_ ?_
 ·exact NT
 refine Grow.stepC undef rfl (Obl.cy rfl rfl (by intro a w e h;have e9:a.tmps.getD 59 undef=Y7 Y8:=fj;rw[e9] at h;cases h)) ?_;refine Grow.stepC undef rfl (Obl.cy rfl rfl (by intro a w e h;have e9:a.tmps.getD 59 undef=Y7 Y8:=fj;rw[e9] at h;cases h)) ?_;refine Grow.stepC undef rfl (Obl.cy rfl rfl (by intro a w e h;have e9:a.tmps.getD 59 undef=Y7 Y8:=fj;rw[e9] at h;cases h)) ?_;refine Grow.stepC undef rfl (Obl.cy rfl rfl (by intro a w e h;have e9:a.tmps.getD 59 undef=Y7 Y8:=fj;rw[e9] at h;cases h)) ?_;refine Grow.stepC undef rfl (Obl.cy rfl rfl (by intro a w e h;have e9:a.tmps.getD 59 undef=Y7 Y8:=fj;rw[e9] at h;cases h)) ?_;refine Grow.stepC undef rfl (Obl.cy rfl rfl (by intro a w e h;have e9:a.tmps.getD 59 undef=Y7 Y8:=fj;rw[e9] at h;cases h)) ?_;refine Grow.stepC undef rfl (Obl.cy rfl rfl (by intro a w e h;have e9:a.tmps.getD 65 undef=undef:=fj;rw[e9] at h;simp[undef] at h)) ?_;refine Grow.stepC undef rfl (Obl.cy rfl rfl (by intro a w e h;have e9:a.tmps.getD 65 undef=undef:=fj;rw[e9] at h;simp[undef] at h)) ?_;refine Grow.stepC undef rfl (Obl.cy rfl rfl (by intro a w e h;have e9:a.tmps.getD 65 undef=undef:=fj;rw[e9] at h;simp[undef] at h)) ?_;refine Grow.stepC undef rfl (Obl.cy rfl rfl (by intro a w e h;have e9:a.tmps.getD 65 undef=undef:=fj;rw[e9] at h;simp[undef] at h)) ?_;refine Grow.stepC undef rfl (Obl.cy rfl rfl (by intro a w e h;have e9:a.tmps.getD 65 undef=undef:=fj;rw[e9] at h;simp[undef] at h)) ?_;refine Grow.stepC undef rfl (Obl.cy rfl rfl (by intro a w e h;have e9:a.tmps.getD 65 undef=undef:=fj;rw[e9] at h;simp[undef] at h)) ?_;refine Grow.stepC undef rfl (Obl.cy rfl rfl (by intro a w e h;have e9:a.tmps.getD 59 undef=Y7 Y8:=fj;rw[e9] at h;cases h)) ?_;refine Grow.stepC undef rfl (Obl.cy rfl rfl (by intro a w e h;have e9:a.tmps.getD 59 undef=Y7 Y8:=fj;rw[e9] at h;cases h)) ?_;exact vD):p:=h
theorem adG(h:p:=by
 have z920z:=@aa _ @Sc;exact xP):p:=h
theorem zC(h:p:=by
 have z566z:=@aa _ @WX;exact yL):p:=h
theorem abY(h:p:=by
 have gd:=(hW.block _ (ae Bc.out)).trans Bc.out;obtain⟨d0,d1,d2,d3,d4,d5⟩:=cs6 gd;clear gd;exact dO):p:=h
theorem abX(h:p:=by
 have gd:=(hW.block _ (ae Bc3.out)).trans Bc3.out;obtain⟨d0,d1,d2,d3,d4,d5⟩:=cs6 gd;clear gd;exact dO):p:=h
theorem abk(h:p:=by
 refine bodyPost_ret (v:=Za #[I x.n,Y4 Y5 x.c,I x.z,J va vl vc,I x.d,Y4 Y5 x.p]) (by simp[results,Tryz.results8,go_sem, *]) rfl ⟨x,va,vl,vc,rfl,Zc ⟨k,HX.out,rfl⟩,(λh=>⟨HT.below h,h⟩) ?_⟩;exact sb1 (sb1 (sb1 (sb1 (sb1 (sb1 (HS.hb))))))):p:=h
theorem abj(h:p:=by
 refine bodyPost_ret (v:=Za #[I ⟨#[]⟩,Y4 Y5 0,I ⟨#[]⟩,J U 0 0,I ⟨#[]⟩,Y4 Y5 0]) (by simp[results,Tryz.results8,go_sem, *]) rfl ⟨⟨⟨#[]⟩,0,⟨#[]⟩,[],⟨#[]⟩,0⟩,U,0,0,rfl,Zb ⟨λj y hy=>HN.out j y jI hy,rfl⟩,⟨rfl,Ye _,by decide,λj x h=>by simp at h,Zc rfl⟩,?_⟩;exact sb1 (sb1 (sb1 (sb1 (sb1 (sb1 (HS.hb))))))):p:=h
theorem y8(h:p:=by
 obtain⟨r0,r1,r2,r3,r4,r5⟩:=cs6 HS.g1;have f0:=al HS.g1 0;have f1:=al HS.g1 1;have f2:=al HS.g1 2;have f3:=al HS.g1 3;have f4:=al HS.g1 4;have f5:=al HS.g1 5;go_wp2;exact z399z):p:=h
theorem Xz(h:p:=by
 obtain⟨hl5,hm5⟩:=kK;have HS:Hid (PoS w ⟨a1,l1,y1,a2,l2,y2,a3,l3,y3,a4,l4,y4,a5,l5,y5⟩ c _):=⟨aR w (Y6 (clo6 a1 l1 y1 a2 l2 y2 a3 l3 y3 a4 l4 y4 a5 l5 y5 c.now) 29) (Y6 #[I ⟨#[]⟩,Y4 Y5 0,I ⟨#[]⟩,J U 0 0,I ⟨#[]⟩,Y4 Y5 0] 40),d_ _ _ _,dZ _ _ _,hr.below (aR _ _ _)⟩;have HR:=aa hr;clear hr;go_enter Tryz.func8,Tryz.ntmps8;go_wp2;go_loopw [5] (λi wr=> ∃k:Nat,k<=l5/\i=Y4 Y5 k/\Hid (∀(j:Nat) y,j<k->c.ps[j]?=Y3 y->¬y.n=t)/\Hid (PoS w ⟨a1,l1,y1,a2,l2,y2,a3,l3,y3,a4,l4,y4,a5,l5,y5⟩ c wr)) (λi _=>l5 - (intOf i).toNat);case atStart=>exact⟨0,by omega,rfl,λj y h=>by omega,HS.out⟩
 case round=>
  obtain⟨k,hk,rfl,HN,HS⟩:=hrel;have s0:=an HS.g0 4;obtain⟨hv0,hv1⟩:=ou;by_cases hlt:k<l5
  ·obtain⟨b,o,x,rfl,hbw,hx,hat⟩:=cq (HR.p) hlt;obtain⟨va,vl,vc,hvr,-,-,-,w0,w1,w2,w3,w4,w5⟩:=bD hat;have hb:b<wr.heap.size:=Yj hbw HS.hb.size;have c0:=(ai HS.hb hbw).trans w0;have c1:=(ai HS.hb hbw).trans w1;have c2:=(ai HS.hb hbw).trans w2;have c3:=(ai HS.hb hbw).trans w3;have c4:=(ai HS.hb hbw).trans w4;have c5:=(ai HS.hb hbw).trans w5;clear w0 w1 w2 w3 w4 w5;have HX:=aa hx;have HT:=aa hvr;clear hat hvr hx;by_cases hn:x.n=t
   ·subst hn;have he:=aP (rfl:x.n=x.n);have z399z:=@aa _ @abk;exact y8
   ·have he:=bA hn;go_wp2;refine⟨⟨k+1,by omega,by go_num,λj y hj hy=>?_,HS.out⟩,by simp[intOf];omega⟩;by_cases e:j=k
    ·subst e;rw[HX.out] at hy;obtain rfl:=Yd hy;exact hn
    ·exact HN.out j y af hy
  ·obtain rfl:l5=k:=af
   have z399z:=@aa _ @abj;exact y8):p:=h
theorem WY(h:p:=by
 have z920z:=@aa _ @Sb;exact xP):p:=h
theorem WX(h:p:=by
 exact z209z):p:=h
theorem yL(h:p:=by
 have z971z:=@aa _ @Rr;exact o7):p:=h
theorem WI(h:p:=by
 have z940z:=@aa _ @RR;exact xM):p:=h
theorem Sc(h:p:=by
 refine Grow.stepC (Y7 Y8) rfl ?_ ?_
 ·exact agK
 refine Grow.stepC undef rfl (Obl.cy rfl rfl (by intro a w e h;have e9:a.tmps.getD 65 undef=Y7 Y8:=fj;rw[e9] at h;cases h)) ?_;refine Grow.stepC undef rfl (Obl.cy rfl rfl (by intro a w e h;have e9:a.tmps.getD 65 undef=Y7 Y8:=fj;rw[e9] at h;cases h)) ?_;refine Grow.stepC undef rfl (Obl.cy rfl rfl (by intro a w e h;have e9:a.tmps.getD 65 undef=Y7 Y8:=fj;rw[e9] at h;cases h)) ?_;refine Grow.stepC undef rfl (Obl.cy rfl rfl (by intro a w e h;have e9:a.tmps.getD 65 undef=Y7 Y8:=fj;rw[e9] at h;cases h)) ?_;refine Grow.stepC undef rfl (Obl.cy rfl rfl (by intro a w e h;have e9:a.tmps.getD 65 undef=Y7 Y8:=fj;rw[e9] at h;cases h)) ?_;refine Grow.stepC undef rfl (Obl.cy rfl rfl (by intro a w e h;have e9:a.tmps.getD 65 undef=Y7 Y8:=fj;rw[e9] at h;cases h)) ?_;refine Grow.stepC (Y7 Y8) rfl ?_ ?_
 ·exact NS
 refine Grow.stepC (Y7 Y8) rfl ?_ ?_
 ·exact agQ
 exact vD):p:=h
theorem Sb(h:p:=by
 refine Grow.stepC (Y7 Y_) rfl ?_ ?_
 ·exact agK
 refine Grow.stepC (Zd (Y3 ⟨bn,4,U⟩)) rfl ?_ ?_
 ·exact NA
 refine Grow.stepC (Y4 Y5 n.u) rfl ?_ ?_
 ·have z190z:=@aa _ @adU;exact cg
 refine Grow.stepC (Y4 Y5 (n.u+5)) rfl ?_ ?_
 ·have z190z:=@aa _ @adT;exact cg
 refine Grow.stepC (Zd (Y3 ⟨bc,5,U⟩)) rfl ?_ ?_
 ·have z190z:=@aa _ @adS;exact cg
 refine Grow.stepC (Y4 Y5 c.now) rfl ?_ ?_
 ·have z190z:=@aa _ @adR;exact cg
 refine Grow.stepC (Y7 (decide (n.u+5<c.now))) rfl ?_ ?_
 ·have z190z:=@aa _ @adQ;exact cg
 refine Grow.stepC (Y7 (decide (n.u+5<c.now))) rfl ?_ ?_
 ·exact NS
 refine Grow.stepC (Y7 Y8) rfl ?_ ?_
 ·exact agQ
 exact vD):p:=h
theorem xP(h:p:=by
 refine Grow.stepC (Y7 Y_) rfl ?_ ?_
 ·exact ag6
 refine Grow.stepC (Y7 Y_) rfl ?_ ?_
 ·exact NT
 refine Grow.stepC (Zd (Y3 ⟨bx,7,U⟩)) rfl ?_ ?_
 ·exact NW
 refine Grow.stepC (Y4 Y5 o.p) rfl ?_ ?_
 ·exact ajk
 refine Grow.stepC (Y7 (o.p==0)) rfl ?_ ?_
 ·exact ajf
 refine Grow.stepC (Zd (Y3 ⟨bn,5,U⟩)) rfl ?_ ?_
 ·exact NA
 refine Grow.stepC (Y7 n.d) rfl ?_ ?_
 ·exact aji
 exact z920z):p:=h
theorem RS(h:p:=by
 refine Grow.step (CoF o) rfl (CoF.mono o) ?_ ?_
 ·refine Obl.plain rfl ?_;intro ac wg K hsz hW hf hK;clear hsz;have e20:=hf 20 ag;simp[aj,Yf] at e20;have e21:=hf 21 ag;simp[aj,Yf] at e21;exact Py
 refine Grow.stepC (Y7 Y_) rfl ?_ ?_
 ·refine Obl.plain rfl ?_;intro ac wg K hsz hW hf hK;clear hsz;have e19:=hf 19 ag;simp[aj,Yf] at e19;have e22:=hf 22 ag;simp[aj,Yf] at e22;clear hf;obtain⟨g2,e22,hrow⟩:=e22;exact Pa
 refine Grow.stepC (Y7 Y8) rfl ?_ ?_
 ·refine Obl.plain rfl ?_;intro ac wg K hsz hW hf hK;clear hsz;have e23:=hf 23 ag;simp[aj,Yf] at e23;clear hf;exact dO
 refine Grow.stepC (Y7 Y8) rfl ?_ ?_
 ·have z1572z:=@aa _ @Eo;exact l_
 refine Grow.stepC (Zd (Y3 ⟨bx,7,U⟩)) rfl ?_ ?_
 ·exact OA
 refine Grow.stepC (Y4 Y5 o.p) rfl ?_ ?_
 ·have z190z:=@aa _ @adZ;exact cg
 refine Grow.stepC (Y7 q0) rfl ?_ ?_
 ·have z190z:=@aa _ @adY;exact cg
 refine Grow.stepC (Y7 q0) rfl ?_ ?_
 ·have z190z:=@aa _ @adX;exact cg
 refine Grow.stepC (cond q0 (Zd (Y3 ⟨bx,7,U⟩)) undef) rfl ?_ ?_
 ·cases q0
  ·exact vR
  ·exact OA
 refine Grow.stepC (cond q0 (Y4 Y5 o.p) undef) rfl ?_ ?_
 ·cases q0
  ·exact vR
  ·have z190z:=@aa _ @adW;exact cg
 refine Grow.stepC (cond q0 (Y7 q1) undef) rfl ?_ ?_
 ·cases q0
  ·exact vR
  ·have z190z:=@aa _ @adV;exact cg
 refine Grow.stepC (Y7 (q0 && q1)) rfl ?_ ?_
 ·cases q0
  ·exact Ot
  ·exact Ot
 refine Grow.stepC (Y7 (q0 && q1)) rfl ?_ ?_
 ·refine Obl.plain rfl ?_;intro ac wg K hsz hW hf hK;clear hsz;have e25:=hf 25 ag;simp[aj,Yf] at e25;have e33:=hf 33 ag;simp[aj,Yf] at e33;clear hf;exact dO
 have z1656z:=@aa _ @Dj;exact du):p:=h
theorem RR(h:p:=by
 refine Grow.step (CoF o) rfl (CoF.mono o) ?_ ?_
 ·have z1499z:=@aa _ @Fj;exact ju
 refine Grow.stepC (Y7 Y_) rfl ?_ ?_
 ·have z1447z:=@aa _ @FZ;exact gG
 refine Grow.stepC (Y7 Y_) rfl ?_ ?_
 ·have z1529z:=@aa _ @dO;exact mr
 have z1656z:=@aa _ @Di;exact du):p:=h
theorem xM(h:p:=by
 refine Grow.stepC (Za #[J g.a1 g.l1 g.c1,J g.a2 g.l2 g.c2,J g.a3 g.l3 g.c3,J g.a4 g.l4 g.c4,J g.a5 g.l5 g.c5,Y4 Y5 o.c.now,I o.n,Y4 Y5 o.p]) rfl ?_ ?_
 ·exact ajB
 refine Grow.stepC (Za #[J a1 l1 y1,J a2 l2 y2,J a3 l3 y3,J a4 l4 y4,J a5 l5 y5,Y4 Y5 c.now]) rfl ?_ ?_
 ·exact ajA
 refine Grow.stepC (I t) rfl ?_ ?_
 ·exact ajD
 exact z940z):p:=h
theorem Rr(h:p:=by
 refine Grow.stepC (Zd (Y3 ⟨bn,0,U⟩)) rfl ?_ ?_
 ·refine Obl.plain rfl ?_;exact NY
 refine Grow.stepC (I n.n) rfl ?_ ?_
 ·exact ajm
 refine Grow.stepC (Za #[J (Y3 ⟨b,on,U⟩) l1 y1,J a2 l2 y2,J a3 l3 y3,J a4 l4 y4,J a5 l5 y5,Y4 Y5 c.now]) rfl ?_ ?_
 ·exact ajl
 refine Grow.stepC (I t) rfl ?_ ?_
 ·exact NX
 refine Grow.step (PoF x) rfl (PoF.mono x) ?_ ?_
 ·exact alj
 refine Grow.stepC (I x.d) rfl ?_ ?_
 ·exact ajj
 exact z566z):p:=h
theorem L8(h:p:=by
 clear hb hbx HW HA0 HA1;go_wp2_with (first|go_quiet (fail)|fail);first
  | (go_ret;exact⟨rfl,HB.out⟩)
  | (go_ret;exact⟨rfl,HB.trans ((Below.kR (Yh _ _)).mono HB.size)⟩)):p:=h
theorem IA(h:p:=by
 have z940z:=@aa _ @RS;exact xM):p:=h
theorem FZ(h:p:=by
 have e38:=hf 38 ag;simp[aj,Yf] at e38;clear hf;obtain⟨g2,e38,hrow⟩:=e38;exact Pa):p:=h
theorem Fj(h:p:=by
 have e37:=hf 37 ag;simp[aj,Yf] at e37;exact Py):p:=h
theorem Eo(h:p:=by
 clear hf;exact dO):p:=h
theorem Dj(h:p:=by
 obtain⟨h34,-⟩:=hf;refine hK0 _ _ ?_;simp only[aJ,YQ,Act.put,Ys,YA,YB,h34];clear hK0;replace HC:=aa (HC.below hW);replace HX:=aa (HX.below hW);replace Bc:=upK Bc hW;replace Bx:=upK Bx hW;replace HB:=upB HB hW;clear hW;obtain⟨r,hr⟩:∃r,(q0 && q1)=r:=⟨_,rfl⟩;rw[hr];cases r;rotate_left
 ·clear hr;go_wp2_with fail;have z583z:=@aa _ @WI;exact px
 ·rw[<-H0.out,<-H1.out] at hr;obtain⟨x,j,hx,hxn,hris,hns,hend⟩:=HI.law hr;have HX0:=aa hx;have HXN:=aa hxn;have HRI:=aa hris;have HNS:=aa hns;have HEN:=aa hend;clear hx hxn hris hns hend hr;have hl1:c.ns.length=l1:=by simpa using (show (c.ns.map ndF).length=l1 from HC.n.1)
  have hm1:l1<=9223372036854775807:=Yl HC.n.2.1 HC.n.2.2.1;go_wp2_with fail;go_loopw [6] (λi wr=> ∃k:Nat,k<=l1/\i=Y4 Y5 k/\Hid (Below wz.heap.size wz wr)) (λi _=>l1 - (intOf i).toNat);case atStart=>exact⟨0,by omega,rfl,Yh _ _⟩
  case round=>
   obtain⟨k,hk,rfl,HBW⟩:=hrel;have Rk:=upK Bc HBW.out;have pk0:=ck0 Rk;by_cases hlt:k<l1
   ·obtain⟨b,on,n,rfl,hb,hxk,hat⟩:=dn (HC.n.below HBW.out) hlt;obtain⟨va,vl,vc,hvr,z0,z1,c0,c1,c2,c3,c4,c5,c6⟩:=aZ hat;obtain⟨hu,hg⟩:=HNS.out k n hxk;have HU:Hid (IntKind.i64.wrap (n.u+5)=n.u+5):=by show _=_;rw[IntKind.wrap_i64];omega
    have HGN:=aa hg;clear hat hvr z0 z1 hu hg hxk;go_wp2_with fail;have hbX:=ak wr (Y6 (nov n va vl vc) 38);have Bn:Hid ((wr.alloc (Y6 (nov n va vl vc) 38)).heap[wr.heap.size]?=Y3 (Y6 (nov n va vl vc) 38 (0,0))):=Yg;have HW:=upB HBW hbX;clear hbX Rk HBW c0 c1 c2 c3 c4 c5 c6 hb pk0;generalize hX:wr.heap.size=bn at*;generalize (wr.alloc (Y6 (nov n va vl vc) 38))=W3 at*;clear hX;have HC3:=aa (HC.below HW.out);have Bx3:=upK Bx HW.out;have Bc3:=upK Bc HW.out;by_cases hn:n.n=x.d;rotate_left
    ·have HEQ:=aa (bA hn);clear hn;have z209z:=@aa _ @adH;exact zC
    have HEQ:=aa (aP hn);have hge:=HGN.out hn;clear hn;by_cases hd:n.d=Y_
    ·have HD:=aa hd;have HGE:=aa (hge.trans (by rw[hd,Bool.true_and]));clear hd hge;have z566z:=@aa _ @WY;exact yL
    ·have HD:Hid (n.d=Y8):=by show _=_;simpa using hd
     have HGE:=aa (hge.trans (by rw[HD.out,Bool.false_and]));clear hd hge;have z209z:=@aa _ @adG;exact zC
   ·obtain rfl:l1=k:=af
    have Bx3:=upK Bx HBW.out;have HX3:=aa (HX.below HBW.out);have HBY:=aa (HB.trans (HBW.mono HB.size));obtain⟨x0,x1,x2,x3,x4,x5,x6,x7⟩:=cs8 Bx3;cases q0;rotate_left
    ·have hp:=H0.out;go_wp2;go_ret;exact⟨rfl,HBY.out⟩
    have hp:=H0.out;have hp0:o.p=0:=eN
    obtain⟨hri,i,y,hy,hyn,hyd,hyp⟩:=HEN.out hp0;have HY:=aa (Yb hri (Yb hy hyn));have HYD:=aa (cN hyd);have HYP:=aa hyp;clear hri hy hyn hyd hyp hp0;go_wp2_with fail;refine (gQ g o.c t _ HX3.out).mono ?_;rintro e w3 ⟨y',a,l,cp,rfl,hf,-,hb3⟩;obtain rfl:=hf.is HY.1 HY.2.1 HY.2.2;clear hf;replace HX3:=aa (HX3.below hb3);replace Bx3:=upK Bx3 hb3;replace HBY:=upB HBY hb3;clear hb3 x0 x1 x2 x3 x4 x5 x6 x7;obtain⟨x0,x1,x2,x3,x4,x5,x6,x7⟩:=cs8 Bx3;have hyd:=HYD.out;have hfd:∀w,(Instr.field 40 (Za #[I y'.n,Y4 Y5 y'.c,I y'.z,J a l cp,I y'.d,Y4 Y5 y'.p]) 4).run Tryz.prog w=.ok (I y'.d) w:=λ_=>by kernel_rfl
    go_wp2_with fail;refine (gQ g o.c t _ HX3.out).mono ?_;rintro e w4 ⟨y',a,l,cp,rfl,hf,-,hb3⟩;obtain rfl:=hf.is HY.1 HY.2.1 HY.2.2;clear hf;replace HBY:=upB HBY hb3;clear hb3;have hyp:(y'.p==0)=Y_:=by rw[HYP.out];rfl
    have hfp:∀w,(Instr.field 40 (Za #[I y'.n,Y4 Y5 y'.c,I y'.z,J a l cp,I y'.d,Y4 Y5 y'.p]) 5).run Tryz.prog w=.ok (Y4 Y5 y'.p) w:=λ_=>by kernel_rfl
    go_wp2;go_ret;exact⟨rfl,HBY.out⟩):p:=h
theorem Di(h:p:=by
 obtain⟨h2,-⟩:=hf;refine hK0 _ _ ?_;simp only[aJ,YQ,Act.put,Ys,YA,YB,h2];clear hK0;go_wp2_with fail;go_ret;exact⟨rfl,HB.trans (hW.mono HB.size)⟩):p:=h
namespace Rc
theorem we(n z:ByteArray) (c s u:Int) (x:Bool) (a:Option Addr) (len cap:Nat) (zs:List ByteArray) (a':Option Addr) (len' cap':Nat) (w:World) (hr:ay w a len cap zs) (hr':ay w a' len' cap' zs):
  Calls Tryz.prog 46 #[Za #[I n,I z,Y4 Y5 c,Y4 Y5 s,Y4 Y5 u,Y7 x,J a len cap],Za #[I n,I z,Y4 Y5 c,Y4 Y5 s,Y4 Y5 u,Y7 x,J a' len' cap']] w λe w'=>e=Y9 (Y7 Y_)/\Below w.heap.size w w':=by
 have HR:Hid (ay w a len cap zs):=hr;have HR':Hid (ay w a' len' cap' zs):=hr';clear hr hr';go_enter Tryz.func46,Tryz.ntmps46;exact PU
theorem wb(n:ByteArray) (c:Int) (z d:ByteArray) (p:Int) (a:Option Addr) (len cap:Nat) (zs:List ByteArray) (a':Option Addr) (len' cap':Nat) (w:World) (hr:ay w a len cap zs) (hr':ay w a' len' cap' zs):
  Calls Tryz.prog 48 #[Za #[I n,Y4 Y5 c,I z,J a len cap,I d,Y4 Y5 p],Za #[I n,Y4 Y5 c,I z,J a' len' cap',I d,Y4 Y5 p]] w λe w'=>e=Y9 (Y7 Y_)/\Below w.heap.size w w':=by
 have HR:Hid (ay w a len cap zs):=hr;have HR':Hid (ay w a' len' cap' zs):=hr';clear hr hr';go_enter Tryz.func48,Tryz.ntmps48;have HW:Hid (Below w.heap.size w ((w.alloc (Y6 #[I n,Y4 Y5 c,I z,J a len cap,I d,Y4 Y5 p] 40)).alloc (Y6 #[I n,Y4 Y5 c,I z,J a' len' cap',I d,Y4 Y5 p] 40))):=aR _ _ _;go_wp2_with fail;refine (kN a a' len len' cap cap' zs _ (HR.below (aR _ _ _)) (HR'.below (aR _ _ _))).mono ?_;rintro e w1 ⟨rfl,hb⟩;obtain⟨HA0,HA1,hbx⟩:=eh hb;obtain⟨k0,k1,k2,k3,k4,k5⟩:=cs6 HA0;obtain⟨m0,m1,m2,m3,m4,m5⟩:=cs6 HA1;have l0:=ae HA0;have l1:=ae HA1;have z1060z:=@aa _ @L8;exact fC
theorem alA(n:ByteArray) (x:Bool) (y:Bool) (z:ByteArray) (w:World):(Op.equalIn 10000 92 (Za #[I n,Y7 x,Y7 y,I z]) (Za #[I n,Y7 x,Y7 y,I z])).run Tryz.prog w=.ok Y_ w:=by
 have u3:=Tryz.underlying9;have u5:=Tryz.underlying4;have hS:Tryz.prog.underlying 92=Y3 (.struct (Tryz.prog.fieldsOf 92)):=ba
 have hp:Tryz.prog.stoodInHeld 92=Y8:=ba
 rw[show (10000:Nat)=9999+1 from rfl,run_equalIn_agg w 9999 92 _ _ hS hp];simp only[Program.fieldsOf,Tryz.underlying92];go_simp
theorem alz(n:ByteArray) (z:Int) (k:ByteArray) (x:Bool) (v:ByteArray) (w:World):(Op.equalIn 10000 97 (Za #[I n,Y4 Y5 z,I k,Y7 x,I v]) (Za #[I n,Y4 Y5 z,I k,Y7 x,I v])).run Tryz.prog w=.ok Y_ w:=by
 have u3:=Tryz.underlying9;have u4:=Tryz.underlying2;have u5:=Tryz.underlying4;have hS:Tryz.prog.underlying 97=Y3 (.struct (Tryz.prog.fieldsOf 97)):=ba
 have hp:Tryz.prog.stoodInHeld 97=Y8:=ba
 rw[show (10000:Nat)=9999+1 from rfl,run_equalIn_agg w 9999 97 _ _ hS hp];simp only[Program.fieldsOf,Tryz.underlying97];go_simp
structure LwS (w:World) (d d':Ad) (c:Cl) (wr:World):Prop where
 hb:Below w.heap.size w wr
 g0:wr.heap[w.heap.size]?=Y3 (Y6 (clv d c.now) 29 (0,0))
 g1:wr.heap[w.heap.size+1]?=Y3 (Y6 (clv d' c.now) 29 (0,0))
 r:aB wr d c.raw
 r':aB wr d' c.raw
theorem LwS.below {wr w2:World} {d d':Ad} (h:LwS w d d' c wr) (hb:Below wr.heap.size wr w2):LwS w d d' c w2:=
 ⟨h.hb.trans (hb.mono h.hb.size),(hb.block _ (ae h.g0)).trans h.g0,(hb.block _ (ae h.g1)).trans h.g1,h.r.below hb,h.r'.below hb⟩
theorem nK(d d':Ad) (c:Cl) (w:World) (hr:aB w d c.raw) (hr':aB w d' c.raw):
  Calls Tryz.prog 22 #[Za #[J d.a1 d.l1 d.c1,J d.a2 d.l2 d.c2,J d.a3 d.l3 d.c3,J d.a4 d.l4 d.c4,J d.a5 d.l5 d.c5,Y4 Y5 c.now],Za #[J d'.a1 d'.l1 d'.c1,J d'.a2 d'.l2 d'.c2,J d'.a3 d'.l3 d'.c3,J d'.a4 d'.l4 d'.c4,J d'.a5 d'.l5 d'.c5,Y4 Y5 c.now]] w λe w'=>e=Y9 (Y7 Y_)/\Below w.heap.size w w':=by
 obtain⟨a1,l1,y1,a2,l2,y2,a3,l3,y3,a4,l4,y4,a5,l5,y5⟩:=d;obtain⟨p1,q1,z1,p2,q2,z2,p3,q3,z3,p4,q4,z4,p5,q5,z5⟩:=d';obtain rfl:l1=q1:=hr.n.1.symm.trans hr'.n.1;obtain rfl:l2=q2:=hr.k.1.symm.trans hr'.k.1;obtain rfl:l3=q3:=hr.v.1.symm.trans hr'.v.1;obtain rfl:l4=q4:=hr.x.1.symm.trans hr'.x.1;obtain rfl:l5=q5:=hr.p.1.symm.trans hr'.p.1;have hl1:l1<=9223372036854775807:=Yl hr.n.2.1 hr.n.2.2.1;have hl2:l2<=9223372036854775807:=Yl hr.k.2.1 hr.k.2.2.1;have hl3:l3<=9223372036854775807:=Yl hr.v.2.1 hr.v.2.2.1;have hl4:l4<=9223372036854775807:=Yl hr.x.2.1 hr.x.2.2.1;have hl5:l5<=9223372036854775807:=Yl hr.p.2.1 hr.p.2.2.1;have HS:Hid (LwS w ⟨a1,l1,y1,a2,l2,y2,a3,l3,y3,a4,l4,y4,a5,l5,y5⟩ ⟨p1,l1,z1,p2,l2,z2,p3,l3,z3,p4,l4,z4,p5,l5,z5⟩ c _):=⟨aR w (Y6 (clo6 a1 l1 y1 a2 l2 y2 a3 l3 y3 a4 l4 y4 a5 l5 y5 c.now) 29) (Y6 (clo6 p1 l1 z1 p2 l2 z2 p3 l3 z3 p4 l4 z4 p5 l5 z5 c.now) 29),d_ _ _ _,dZ _ _ _,hr.below (aR _ _ _),hr'.below (aR _ _ _)⟩;clear hr hr';dsimp only;go_enter Tryz.func22,Tryz.ntmps22;go_wp2;go_loopw [5] (λi wr=> ∃k:Nat,k<=l1/\i=Y4 Y5 k/\Hid (LwS w ⟨a1,l1,y1,a2,l2,y2,a3,l3,y3,a4,l4,y4,a5,l5,y5⟩ ⟨p1,l1,z1,p2,l2,z2,p3,l3,z3,p4,l4,z4,p5,l5,z5⟩ c wr)) (λi _=>l1 - (intOf i).toNat);case atStart=>exact⟨0,by omega,rfl,HS.out⟩
 case round=>
  obtain⟨k,hk,rfl,HS⟩:=hrel;have s0:=an HS.g0 0;have s1:=an HS.g1 0;obtain⟨hv0,hv1⟩:=ou;by_cases hlt:k<l1
  ·obtain⟨b,o,v,rfl,hb,hv,hat⟩:=dn (HS.r.n) hlt;obtain⟨b',o',v',rfl,hb',hv',hat'⟩:=dn (HS.r'.n) hlt;rw[hv] at hv';obtain rfl:=Yd hv';clear hv hv';obtain⟨va,vl,vc,hvr,-,-,c0,c1,c2,c3,c4,c5,c6⟩:=aZ hat;obtain⟨va',vl',vc',hvr',-,-,d0,d1,d2,d3,d4,d5,d6⟩:=aZ hat';clear hat hat';have hne:=Wd.ne wr;have g0:=λq:Wd wr=>q.slot (o:=0) HS.g0 rfl;have g1:=λq:Wd wr=>q.slot (o:=0) HS.g1 rfl;have HT:=aa hvr;have HT':=aa hvr';clear hvr hvr';have HE:=aa (λq:Wd wr=>we v.n v.z v.c v.s v.u v.d va vl vc v.zs va' vl' vc' q.w (HT.below q.b) (HT'.below q.b));have e0:∀q:Wd wr,q.w.cell? ⟨b,o+k*7,U⟩=Y3 (I v.n):=λq=>(q.cell hb).trans c0;have f0:∀q:Wd wr,q.w.cell? ⟨b',o'+k*7,U⟩=Y3 (I v.n):=λq=>(q.cell hb').trans d0;have e1:∀q:Wd wr,q.w.cell? ⟨b,o+k*7+1,U⟩=Y3 (I v.z):=λq=>(q.cell hb).trans c1;have f1:∀q:Wd wr,q.w.cell? ⟨b',o'+k*7+1,U⟩=Y3 (I v.z):=λq=>(q.cell hb').trans d1;have e2:∀q:Wd wr,q.w.cell? ⟨b,o+k*7+2,U⟩=Y3 (Y4 Y5 v.c):=λq=>(q.cell hb).trans c2;have f2:∀q:Wd wr,q.w.cell? ⟨b',o'+k*7+2,U⟩=Y3 (Y4 Y5 v.c):=λq=>(q.cell hb').trans d2;have e3:∀q:Wd wr,q.w.cell? ⟨b,o+k*7+3,U⟩=Y3 (Y4 Y5 v.s):=λq=>(q.cell hb).trans c3;have f3:∀q:Wd wr,q.w.cell? ⟨b',o'+k*7+3,U⟩=Y3 (Y4 Y5 v.s):=λq=>(q.cell hb').trans d3;have e4:∀q:Wd wr,q.w.cell? ⟨b,o+k*7+4,U⟩=Y3 (Y4 Y5 v.u):=λq=>(q.cell hb).trans c4;have f4:∀q:Wd wr,q.w.cell? ⟨b',o'+k*7+4,U⟩=Y3 (Y4 Y5 v.u):=λq=>(q.cell hb').trans d4;have e5:∀q:Wd wr,q.w.cell? ⟨b,o+k*7+5,U⟩=Y3 (Y7 v.d):=λq=>(q.cell hb).trans c5;have f5:∀q:Wd wr,q.w.cell? ⟨b',o'+k*7+5,U⟩=Y3 (Y7 v.d):=λq=>(q.cell hb').trans d5;have e6:∀q:Wd wr,q.w.cell? ⟨b,o+k*7+6,U⟩=Y3 (J va vl vc):=λq=>(q.cell hb).trans c6;have f6:∀q:Wd wr,q.w.cell? ⟨b',o'+k*7+6,U⟩=Y3 (J va' vl' vc'):=λq=>(q.cell hb').trans d6;clear c0 d0 c1 d1 c2 d2 c3 d3 c4 d4 c5 d5 c6 d6;have z53z:=@aa _ @aeO;exact aC
  ·obtain rfl:l1=k:=af
   go_wp2;go_loopw [6] (λi wr=> ∃k:Nat,k<=l2/\i=Y4 Y5 k/\Hid (LwS w ⟨a1,l1,y1,a2,l2,y2,a3,l3,y3,a4,l4,y4,a5,l5,y5⟩ ⟨p1,l1,z1,p2,l2,z2,p3,l3,z3,p4,l4,z4,p5,l5,z5⟩ c wr)) (λi _=>l2 - (intOf i).toNat);case atStart=>exact⟨0,by omega,rfl,HS.out⟩
   case round=>
    obtain⟨k,hk,rfl,HS⟩:=hrel;have s0:=an HS.g0 1;have s1:=an HS.g1 1;obtain⟨hv0,hv1⟩:=ou;by_cases hlt:k<l2
    ·obtain⟨b,o,v,rfl,hb,hv,hat⟩:=gu (HS.r.k) hlt;obtain⟨b',o',v',rfl,hb',hv',hat'⟩:=gu (HS.r'.k) hlt;rw[hv] at hv';obtain rfl:=Yd hv';clear hv hv';obtain⟨-,-,c0,c1,c2,c3⟩:=dh hat;obtain⟨-,-,d0,d1,d2,d3⟩:=dh hat';clear hat hat';have hne:=Wd.ne wr;have g0:=λq:Wd wr=>q.slot (o:=1) HS.g0 rfl;have g1:=λq:Wd wr=>q.slot (o:=1) HS.g1 rfl;have hqe:=λW=>alA v.n v.x v.y v.z W;have hge:Tryz.prog.eqGuardType Tryz.prog.depth 92=Y8:=ba
     have e0:∀q:Wd wr,q.w.cell? ⟨b,o+k*4,U⟩=Y3 (I v.n):=λq=>(q.cell hb).trans c0;have f0:∀q:Wd wr,q.w.cell? ⟨b',o'+k*4,U⟩=Y3 (I v.n):=λq=>(q.cell hb').trans d0;have e1:∀q:Wd wr,q.w.cell? ⟨b,o+k*4+1,U⟩=Y3 (Y7 v.x):=λq=>(q.cell hb).trans c1;have f1:∀q:Wd wr,q.w.cell? ⟨b',o'+k*4+1,U⟩=Y3 (Y7 v.x):=λq=>(q.cell hb').trans d1;have e2:∀q:Wd wr,q.w.cell? ⟨b,o+k*4+2,U⟩=Y3 (Y7 v.y):=λq=>(q.cell hb).trans c2;have f2:∀q:Wd wr,q.w.cell? ⟨b',o'+k*4+2,U⟩=Y3 (Y7 v.y):=λq=>(q.cell hb').trans d2;have e3:∀q:Wd wr,q.w.cell? ⟨b,o+k*4+3,U⟩=Y3 (I v.z):=λq=>(q.cell hb).trans c3;have f3:∀q:Wd wr,q.w.cell? ⟨b',o'+k*4+3,U⟩=Y3 (I v.z):=λq=>(q.cell hb').trans d3;clear c0 d0 c1 d1 c2 d2 c3 d3;exact Ob
    ·obtain rfl:l2=k:=af
     go_wp2;go_loopw [7] (λi wr=> ∃k:Nat,k<=l3/\i=Y4 Y5 k/\Hid (LwS w ⟨a1,l1,y1,a2,l2,y2,a3,l3,y3,a4,l4,y4,a5,l5,y5⟩ ⟨p1,l1,z1,p2,l2,z2,p3,l3,z3,p4,l4,z4,p5,l5,z5⟩ c wr)) (λi _=>l3 - (intOf i).toNat);case atStart=>exact⟨0,by omega,rfl,HS.out⟩
     case round=>
      obtain⟨k,hk,rfl,HS⟩:=hrel;have s0:=an HS.g0 2;have s1:=an HS.g1 2;obtain⟨hv0,hv1⟩:=ou;by_cases hlt:k<l3
      ·obtain⟨b,o,v,rfl,hb,hv,hat⟩:=cj (HS.r.v) hlt;obtain⟨b',o',v',rfl,hb',hv',hat'⟩:=cj (HS.r'.v) hlt;rw[hv] at hv';obtain rfl:=Yd hv';clear hv hv';obtain⟨va,vl,vc,hvr,-,-,-,-,c0,c1,c2,c3,c4,c5,c6,c7⟩:=bh hat;obtain⟨va',vl',vc',hvr',-,-,-,-,d0,d1,d2,d3,d4,d5,d6,d7⟩:=bh hat';clear hat hat';have hne:=Wd.ne wr;have g0:=λq:Wd wr=>q.slot (o:=2) HS.g0 rfl;have g1:=λq:Wd wr=>q.slot (o:=2) HS.g1 rfl;have HT:=aa hvr;have HT':=aa hvr';clear hvr hvr';have HE:=aa (λq:Wd wr=>pY v.n v.c v.z v.k v.x v.m v.y va vl vc v.zs va' vl' vc' q.w (HT.below q.b) (HT'.below q.b));have e0:∀q:Wd wr,q.w.cell? ⟨b,o+k*8,U⟩=Y3 (I v.n):=λq=>(q.cell hb).trans c0;have f0:∀q:Wd wr,q.w.cell? ⟨b',o'+k*8,U⟩=Y3 (I v.n):=λq=>(q.cell hb').trans d0;have e1:∀q:Wd wr,q.w.cell? ⟨b,o+k*8+1,U⟩=Y3 (Y4 Y5 v.c):=λq=>(q.cell hb).trans c1;have f1:∀q:Wd wr,q.w.cell? ⟨b',o'+k*8+1,U⟩=Y3 (Y4 Y5 v.c):=λq=>(q.cell hb').trans d1;have e2:∀q:Wd wr,q.w.cell? ⟨b,o+k*8+2,U⟩=Y3 (I v.z):=λq=>(q.cell hb).trans c2;have f2:∀q:Wd wr,q.w.cell? ⟨b',o'+k*8+2,U⟩=Y3 (I v.z):=λq=>(q.cell hb').trans d2;have e3:∀q:Wd wr,q.w.cell? ⟨b,o+k*8+3,U⟩=Y3 (I v.k):=λq=>(q.cell hb).trans c3;have f3:∀q:Wd wr,q.w.cell? ⟨b',o'+k*8+3,U⟩=Y3 (I v.k):=λq=>(q.cell hb').trans d3;have e4:∀q:Wd wr,q.w.cell? ⟨b,o+k*8+4,U⟩=Y3 (Y7 v.x):=λq=>(q.cell hb).trans c4;have f4:∀q:Wd wr,q.w.cell? ⟨b',o'+k*8+4,U⟩=Y3 (Y7 v.x):=λq=>(q.cell hb').trans d4;have e5:∀q:Wd wr,q.w.cell? ⟨b,o+k*8+5,U⟩=Y3 (I v.m):=λq=>(q.cell hb).trans c5;have f5:∀q:Wd wr,q.w.cell? ⟨b',o'+k*8+5,U⟩=Y3 (I v.m):=λq=>(q.cell hb').trans d5;have e6:∀q:Wd wr,q.w.cell? ⟨b,o+k*8+6,U⟩=Y3 (Y7 v.y):=λq=>(q.cell hb).trans c6;have f6:∀q:Wd wr,q.w.cell? ⟨b',o'+k*8+6,U⟩=Y3 (Y7 v.y):=λq=>(q.cell hb').trans d6;have e7:∀q:Wd wr,q.w.cell? ⟨b,o+k*8+7,U⟩=Y3 (J va vl vc):=λq=>(q.cell hb).trans c7;have f7:∀q:Wd wr,q.w.cell? ⟨b',o'+k*8+7,U⟩=Y3 (J va' vl' vc'):=λq=>(q.cell hb').trans d7;clear c0 d0 c1 d1 c2 d2 c3 d3 c4 d4 c5 d5 c6 d6 c7 d7;have z53z:=@aa _ @aeN;exact aC
      ·obtain rfl:l3=k:=af
       go_wp2;go_loopw [8] (λi wr=> ∃k:Nat,k<=l4/\i=Y4 Y5 k/\Hid (LwS w ⟨a1,l1,y1,a2,l2,y2,a3,l3,y3,a4,l4,y4,a5,l5,y5⟩ ⟨p1,l1,z1,p2,l2,z2,p3,l3,z3,p4,l4,z4,p5,l5,z5⟩ c wr)) (λi _=>l4 - (intOf i).toNat);case atStart=>exact⟨0,by omega,rfl,HS.out⟩
       case round=>
        obtain⟨k,hk,rfl,HS⟩:=hrel;have s0:=an HS.g0 3;have s1:=an HS.g1 3;obtain⟨hv0,hv1⟩:=ou;by_cases hlt:k<l4
        ·obtain⟨b,o,v,rfl,hb,hv,hat⟩:=eI (HS.r.x) hlt;obtain⟨b',o',v',rfl,hb',hv',hat'⟩:=eI (HS.r'.x) hlt;rw[hv] at hv';obtain rfl:=Yd hv';clear hv hv';obtain⟨-,-,-,c0,c1,c2,c3,c4⟩:=cn hat;obtain⟨-,-,-,d0,d1,d2,d3,d4⟩:=cn hat';clear hat hat';have hne:=Wd.ne wr;have g0:=λq:Wd wr=>q.slot (o:=3) HS.g0 rfl;have g1:=λq:Wd wr=>q.slot (o:=3) HS.g1 rfl;have hqe:=λW=>alz v.n v.z v.k v.x v.v W;have hge:Tryz.prog.eqGuardType Tryz.prog.depth 97=Y8:=ba
         have e0:∀q:Wd wr,q.w.cell? ⟨b,o+k*5,U⟩=Y3 (I v.n):=λq=>(q.cell hb).trans c0;have f0:∀q:Wd wr,q.w.cell? ⟨b',o'+k*5,U⟩=Y3 (I v.n):=λq=>(q.cell hb').trans d0;have e1:∀q:Wd wr,q.w.cell? ⟨b,o+k*5+1,U⟩=Y3 (Y4 Y5 v.z):=λq=>(q.cell hb).trans c1;have f1:∀q:Wd wr,q.w.cell? ⟨b',o'+k*5+1,U⟩=Y3 (Y4 Y5 v.z):=λq=>(q.cell hb').trans d1;have e2:∀q:Wd wr,q.w.cell? ⟨b,o+k*5+2,U⟩=Y3 (I v.k):=λq=>(q.cell hb).trans c2;have f2:∀q:Wd wr,q.w.cell? ⟨b',o'+k*5+2,U⟩=Y3 (I v.k):=λq=>(q.cell hb').trans d2;have e3:∀q:Wd wr,q.w.cell? ⟨b,o+k*5+3,U⟩=Y3 (Y7 v.x):=λq=>(q.cell hb).trans c3;have f3:∀q:Wd wr,q.w.cell? ⟨b',o'+k*5+3,U⟩=Y3 (Y7 v.x):=λq=>(q.cell hb').trans d3;have e4:∀q:Wd wr,q.w.cell? ⟨b,o+k*5+4,U⟩=Y3 (I v.v):=λq=>(q.cell hb).trans c4;have f4:∀q:Wd wr,q.w.cell? ⟨b',o'+k*5+4,U⟩=Y3 (I v.v):=λq=>(q.cell hb').trans d4;clear c0 d0 c1 d1 c2 d2 c3 d3 c4 d4;exact Ob
        ·obtain rfl:l4=k:=af
         go_wp2;go_loopw [9] (λi wr=> ∃k:Nat,k<=l5/\i=Y4 Y5 k/\Hid (LwS w ⟨a1,l1,y1,a2,l2,y2,a3,l3,y3,a4,l4,y4,a5,l5,y5⟩ ⟨p1,l1,z1,p2,l2,z2,p3,l3,z3,p4,l4,z4,p5,l5,z5⟩ c wr)) (λi _=>l5 - (intOf i).toNat);case atStart=>exact⟨0,by omega,rfl,HS.out⟩
         case round=>
          obtain⟨k,hk,rfl,HS⟩:=hrel;have s0:=an HS.g0 4;have s1:=an HS.g1 4;obtain⟨hv0,hv1⟩:=ou;by_cases hlt:k<l5
          ·obtain⟨b,o,v,rfl,hb,hv,hat⟩:=cq (HS.r.p) hlt;obtain⟨b',o',v',rfl,hb',hv',hat'⟩:=cq (HS.r'.p) hlt;rw[hv] at hv';obtain rfl:=Yd hv';clear hv hv';obtain⟨va,vl,vc,hvr,-,-,-,c0,c1,c2,c3,c4,c5⟩:=bD hat;obtain⟨va',vl',vc',hvr',-,-,-,d0,d1,d2,d3,d4,d5⟩:=bD hat';clear hat hat';have hne:=Wd.ne wr;have g0:=λq:Wd wr=>q.slot (o:=4) HS.g0 rfl;have g1:=λq:Wd wr=>q.slot (o:=4) HS.g1 rfl;have HT:=aa hvr;have HT':=aa hvr';clear hvr hvr';have HE:=aa (λq:Wd wr=>wb v.n v.c v.z v.d v.p va vl vc v.zs va' vl' vc' q.w (HT.below q.b) (HT'.below q.b));have e0:∀q:Wd wr,q.w.cell? ⟨b,o+k*6,U⟩=Y3 (I v.n):=λq=>(q.cell hb).trans c0;have f0:∀q:Wd wr,q.w.cell? ⟨b',o'+k*6,U⟩=Y3 (I v.n):=λq=>(q.cell hb').trans d0;have e1:∀q:Wd wr,q.w.cell? ⟨b,o+k*6+1,U⟩=Y3 (Y4 Y5 v.c):=λq=>(q.cell hb).trans c1;have f1:∀q:Wd wr,q.w.cell? ⟨b',o'+k*6+1,U⟩=Y3 (Y4 Y5 v.c):=λq=>(q.cell hb').trans d1;have e2:∀q:Wd wr,q.w.cell? ⟨b,o+k*6+2,U⟩=Y3 (I v.z):=λq=>(q.cell hb).trans c2;have f2:∀q:Wd wr,q.w.cell? ⟨b',o'+k*6+2,U⟩=Y3 (I v.z):=λq=>(q.cell hb').trans d2;have e3:∀q:Wd wr,q.w.cell? ⟨b,o+k*6+3,U⟩=Y3 (J va vl vc):=λq=>(q.cell hb).trans c3;have f3:∀q:Wd wr,q.w.cell? ⟨b',o'+k*6+3,U⟩=Y3 (J va' vl' vc'):=λq=>(q.cell hb').trans d3;have e4:∀q:Wd wr,q.w.cell? ⟨b,o+k*6+4,U⟩=Y3 (I v.d):=λq=>(q.cell hb).trans c4;have f4:∀q:Wd wr,q.w.cell? ⟨b',o'+k*6+4,U⟩=Y3 (I v.d):=λq=>(q.cell hb').trans d4;have e5:∀q:Wd wr,q.w.cell? ⟨b,o+k*6+5,U⟩=Y3 (Y4 Y5 v.p):=λq=>(q.cell hb).trans c5;have f5:∀q:Wd wr,q.w.cell? ⟨b',o'+k*6+5,U⟩=Y3 (Y4 Y5 v.p):=λq=>(q.cell hb').trans d5;clear c0 d0 c1 d1 c2 d2 c3 d3 c4 d4 c5 d5;have z53z:=@aa _ @aeM;exact aC
          ·obtain rfl:l5=k:=af
           go_wp2;go_ret;exact⟨rfl,HS.hb⟩
def xe(c:Cl) (t:ByteArray) (x:Pd):Prop:=(∃j:Nat,c.ps[j]?=Y3 x/\x.n=t)\/((∀(j:Nat) y,c.ps[j]?=Y3 y->¬y.n=t)/\x=⟨⟨#[]⟩,0,⟨#[]⟩,[],⟨#[]⟩,0⟩)
theorem xe.is {x y:Pd} {j:Nat} (h:xe c t x) (hr:aH Pd.n c.ps) (hy:c.ps[j]?=Y3 y) (hn:y.n=t):x=y:=by
 rcases h with ⟨i,h1,h2⟩|⟨h1,_⟩
 ·exact (hr.inj h1 hy (h2.trans hn.symm)).2
 ·exact absurd hn (h1 j y hy)
structure PoS (w:World) (d:Ad) (c:Cl) (wr:World):Prop where
 hb:Below w.heap.size w wr
 g0:wr.heap[w.heap.size]?=Y3 (Y6 (clv d c.now) 29 (0,0))
 g1:wr.heap[w.heap.size+1]?=Y3 (Y6 #[I ⟨#[]⟩,Y4 Y5 0,I ⟨#[]⟩,J U 0 0,I ⟨#[]⟩,Y4 Y5 0] 40 (0,0))
 r:aB wr d c.raw
theorem PoS.below {wr w2:World} {d:Ad} (h:PoS w d c wr) (hb:Below wr.heap.size wr w2):PoS w d c w2:=
 ⟨h.hb.trans (hb.mono h.hb.size),(hb.block _ (ae h.g0)).trans h.g0,(hb.block _ (ae h.g1)).trans h.g1,h.r.below hb⟩
theorem gQ(d:Ad) (c:Cl) (t:ByteArray) (w:World) (hr:aB w d c.raw):
  Calls Tryz.prog 8 #[Za #[J d.a1 d.l1 d.c1,J d.a2 d.l2 d.c2,J d.a3 d.l3 d.c3,J d.a4 d.l4 d.c4,J d.a5 d.l5 d.c5,Y4 Y5 c.now],I t] w λe w'=> ∃(x:Pd) (a:Option Addr) (l cp:Nat),e=Y9 (Za #[I x.n,Y4 Y5 x.c,I x.z,J a l cp,I x.d,Y4 Y5 x.p])/\xe c t x/\ay w' a l cp x.zs/\Below w.heap.size w w':=by
 have z519z:=@aa _ @Xz;exact cK
theorem A1(g g':Ad) (o:Co) (w:World) (hr:aB w g o.c.raw) (hr':aB w g' o.c.raw) (h:o.p=0->av o.c):
  Calls Tryz.prog 6 #[Za #[J g.a1 g.l1 g.c1,J g.a2 g.l2 g.c2,J g.a3 g.l3 g.c3,J g.a4 g.l4 g.c4,J g.a5 g.l5 g.c5,Y4 Y5 o.c.now,I o.n,Y4 Y5 o.p],Za #[J g'.a1 g'.l1 g'.c1,J g'.a2 g'.l2 g'.c2,J g'.a3 g'.l3 g'.c3,J g'.a4 g'.l4 g'.c4,J g'.a5 g'.l5 g'.c5,Y4 Y5 o.c.now,I o.n,Y4 Y5 o.p]] w λe w'=>e=Y9 (Y7 Y_)/\Below w.heap.size w w':=by
 have HR:=aa hr;have HR':=aa hr';have HI:=aa h;have HB:=aa (Yh w.heap.size w);clear hr hr' h;go_enter Tryz.func6,Tryz.ntmps6;go_wp2_with fail;refine (nK g g' o.c _ (HR.below (HB.trans ((aR _ _ _).mono HB.size))) (HR'.below (HB.trans ((aR _ _ _).mono HB.size)))).mono ?_;rintro e w1 ⟨rfl,hb⟩;obtain⟨HA0,HA1,hbx⟩:=eh hb;have Ba:=aa HA0;have Bb:=aa HA1;replace HB:=upB HB hbx;clear hb hbx HA0 HA1;obtain⟨a0,a1,a2,a3,a4,a5,a6,a7⟩:=cs8 Ba;obtain⟨b0,b1,b2,b3,b4,b5,b6,b7⟩:=cs8 Bb;by_cases hp:o.p=0
 ·have hp1:(o.p==0)=Y_:=eN
  go_wp2_with fail;refine ((dz g o.c _ (HR.below HB.out)).mono λ_ _ q=>ar.yes q (HI.out hp)).mono ?_;rintro e w2 ⟨rfl,hb⟩;replace HB:=upB HB hb;go_wp2;go_ret;exact⟨rfl,HB.out⟩
 ·have hp1:(o.p==0)=Y8:=eN
  go_wp2;go_ret;exact⟨rfl,HB.out⟩
end Rc
def Av(k:IntKind) (w:World) (a:Option Addr) (len cap:Nat) (zs:List Int):Prop:=
 (a=U/\len=0/\cap=0/\zs=[])\/
 ∃x,a=Y3 x/\len<=cap/\cap<=maxLen/\zs.length=cap/\(∀i,i<zs.length->w.cell? (x.add i)=Y3 (Y4 k (zs.getD i 0)))/\∀n∈zs,(Lit.int k n).wf=Y_
theorem Av.akt {a:Option Addr} {len cap:Nat} {zs:List Int} (h:Av .u8 w a len cap zs) (hl:len<=1048576):gw w.heap.size w (J a len cap) len:=by
 refine⟨by omega,a,cap,rfl,λj hj=>?_⟩;rcases h with ⟨rfl,rfl,rfl,rfl⟩|⟨x,rfl,hlc,_,hz,hcell,hwf⟩
 ·omega
 ·obtain⟨b,off,spot⟩:=x;have hc:=hcell j af;have hspot:spot=U:=by
   have h0:=hcell 0 af;simpa[Addr.add] using World.cell?_spot h0
  subst hspot;rw[Yo] at hc;have hb:b<w.heap.size:=by
   rcases Nat.lt_or_ge b w.heap.size with h1|h1
   ·exact h1
   ·simp[World.cell?,Array.getElem?_eq_none h1] at hc
  have hmem:zs.getD j 0∈zs:=by
   rw[List.getD_eq_getElem?_getD,Yi af];simp
  have hw:=hwf _ hmem;simp[Lit.wf,IntKind.min,IntKind.max,IntKind.signed,IntKind.bits] at hw;have e:zs.getD j 0=zs[j]?.getD 0:=List.getD_eq_getElem?_getD ..;exact⟨b,off,zs.getD j 0,rfl,hb,hc,by rw[e];omega,by rw[e];omega⟩
namespace Rc
def PoF(x:Pd):Fact:=λv _=> ∃(a:Option Addr) (l cp:Nat),v=Za #[I x.n,Y4 Y5 x.c,I x.z,J a l cp,I x.d,Y4 Y5 x.p]
theorem PoF.mono(x:Pd):Fact.bH (PoF x):=λ_ _ _ h _=>h
def CoF(o:Co):Fact:=λv w=> ∃g:Ad,v=Za #[J g.a1 g.l1 g.c1,J g.a2 g.l2 g.c2,J g.a3 g.l3 g.c3,J g.a4 g.l4 g.c4,J g.a5 g.l5 g.c5,Y4 Y5 o.c.now,I o.n,Y4 Y5 o.p]/\aB w g o.c.raw
theorem CoF.mono(o:Co):Fact.bH (CoF o):=λ_ _ _ ⟨g,h,h1⟩ hb=>⟨g,h,h1.below hb⟩
theorem bg.law {o:Co} (h:bg c t o) (hp:((o.p !=0) && (o.p !=11))=Y8):
  ∃(x:Pd) (j:Nat),c.ps[j]?=Y3 x/\x.n=t/\aH Pd.n c.ps/\(∀(k:Nat) n,c.ns[k]?=Y3 n->(0<=n.u/\n.u<=1000000)/\(n.n=x.d->(o.p==0)=(n.d && decide (n.u+5<c.now))))/\(o.p=0->aH Pd.n o.c.ps/\∃(i:Nat) (y:Pd),o.c.ps[i]?=Y3 y/\y.n=t/\y.d=⟨#[]⟩/\y.p=0):=by
 have key:av c->∀(x:Pd) (k:Nat) (n:Nd),c.ns[k]?=Y3 n->n.n=x.d->(af1 c x↔(n.d && decide (n.u+5<c.now))=Y_):=λhr x k n hk hn=>by
  have hh:=a_ hr.2.1.1.2.2 hk hn;constructor
  ·rintro⟨m,h1,h2,h3,h4⟩;obtain⟨_,rfl⟩:=hr.2.1.1.2.2.inj hk h1 (hn.trans h2.symm);simp[h3,h4]
  ·intro h3;simp only[YE,decide_eq_true_eq] at h3;exact⟨n,by rw[hh.1];exact hk,hn,h3.1,h3.2⟩
 rcases h with ⟨i,a,rfl⟩|⟨_,hr,x,hx,hn,h0,hg,rfl⟩
 ·rcases a.cases with ⟨rfl,_⟩|⟨rfl,_⟩|⟨rfl,_⟩|⟨rfl,_⟩|⟨rfl,_,hr,x,hx,hn,h0,hg⟩;all_goals first
   | (exfalso;revert hp;decide)
   | skip
  refine⟨x,_,hx,hn,hr.2.1.2.2.2.2.2.2,λk n hk=>⟨(hr.2.1.1.2.1 k n hk).2.2.2.2.1,λhe=>?_⟩,λh=>absurd h ag⟩;have:=(key hr x k n hk he);cases hq:(n.d && decide (n.u+5<c.now))
  ·rfl
  ·exact absurd (this.2 hq) hg
 ·refine⟨x,_,hx,hn,hr.2.1.2.2.2.2.2.2,λk n hk=>⟨(hr.2.1.1.2.1 k n hk).2.2.2.2.1,λhe=>?_⟩,λ_=>?_⟩
  ·rw[(key hr x k n hk he).1 hg];rfl
  ·have hr2:=oP hr hx;exact⟨hr2.2.1.2.2.2.2.2.2,_,idle x,List.getElem?_set_self (Yc.1 hx).1,hn,rfl,rfl⟩
set_option linter.unusedVariables false in
theorem wK(v:Value) (len:Nat) (E:Nat->Addr) (w:World) (hv:∃a cap,v=J a len cap) (hR:gw w.heap.size w v len) (hl:len<=1048576) (hG:Ers w E):
  Calls Tryz.prog 3 #[v] w λe w'=>e=Y9 (Y7 Y_)/\Below w.heap.size w w':=by
 obtain⟨ac,cc,rfl⟩:=hv;have HR:=aa hR;have HE:=aa hG;clear hR hG;go_enter Tryz.func3,Tryz.ntmps3;go_wp2_with fail;refine (nP _ len _ HR.out).mono ?_;rintro e w1 ⟨⟨a1,l1,y1,a2,l2,y2,a3,l3,y3,a4,l4,y4,a5,l5,y5⟩,c,t,rfl,hr,ht,hb⟩;have HC:=aa hr;have HB:=aa hb;clear hr hb HR;go_wp2_with fail;refine (wF ⟨a1,l1,y1,a2,l2,y2,a3,l3,y3,a4,l4,y4,a5,l5,y5⟩ c t E _ (HC.below (ak _ _)) ((HE.below HB.out).below (ak _ _))).mono ?_;rintro e w2 ⟨g,o,rfl,hI,ho,hb⟩;go_wp2_with fail;obtain⟨HA0,hbx⟩:=bB hb;have hbX:=ak w2 (Y6 #[J g.a1 g.l1 g.c1,J g.a2 g.l2 g.c2,J g.a3 g.l3 g.c3,J g.a4 g.l4 g.c4,J g.a5 g.l5 g.c5,Y4 Y5 o.c.now,I o.n,Y4 Y5 o.p] 33);have HI:=aa hI;have Bc:=aa ((hbX.block _ (ae HA0)).trans HA0);have Bx:Hid ((w2.alloc (Y6 #[J g.a1 g.l1 g.c1,J g.a2 g.l2 g.c2,J g.a3 g.l3 g.c3,J g.a4 g.l4 g.c4,J g.a5 g.l5 g.c5,Y4 Y5 o.c.now,I o.n,Y4 Y5 o.p] 33)).heap[w2.heap.size]?=Y3 (Y6 #[J g.a1 g.l1 g.c1,J g.a2 g.l2 g.c2,J g.a3 g.l3 g.c3,J g.a4 g.l4 g.c4,J g.a5 g.l5 g.c5,Y4 Y5 o.c.now,I o.n,Y4 Y5 o.p] 33 (0,0))):=Yg;have HX:=aa (ho.row.below hbX);replace HC:=aa ((HC.below hbx).below hbX);replace HB:=aa ((HB.trans (hbx.mono HB.size)).trans (hbX.mono (HB.trans (hbx.mono HB.size)).size));clear hI ho hb hbx hbX HA0;generalize hX:w2.heap.size=bx at*;generalize (w2.alloc (Y6 #[J g.a1 g.l1 g.c1,J g.a2 g.l2 g.c2,J g.a3 g.l3 g.c3,J g.a4 g.l4 g.c4,J g.a5 g.l5 g.c5,Y4 Y5 o.c.now,I o.n,Y4 Y5 o.p] 33))=W at*;generalize hC:w1.heap.size=bc at*;clear hX hC;obtain⟨q0,h0⟩:∃q,(o.p !=0)=q:=⟨_,rfl⟩;obtain⟨q1,h1⟩:∃q,(o.p !=11)=q:=⟨_,rfl⟩;have H0:=aa h0;have H1:=aa h1;clear h0 h1;have z1330z:=@aa _ @IA;exact mF
end Rc
set_option linter.unusedVariables false in
theorem qn(a0:Option Addr) (len0 cap0:Nat) (z0:List Int) (w:World) (w0:Av .u8 w a0 len0 cap0 z0) (hG:∃E,Ers w E):
  Calls Tryz.prog 3 #[J a0 len0 cap0] w λe w'=>e=Y9 (Y7 Y_)/\Below w.heap.size w w':=by
 obtain⟨E,hG⟩:=hG;by_cases h0:1048576<len0
 ·clear w0 hG;go_enter Tryz.func3,Tryz.ntmps3;go_wp2;go_ret;exact⟨rfl,Yh _ _⟩
 exact wK _ len0 E w ⟨a0,cap0,rfl⟩ (w0.akt af) af hG
namespace Rc
theorem qH: "*" ++ "errors.errorString" = "*errors.errorString":=by decide
theorem al1(u:TypeId) (h:Tryz.prog.typeName? 3 u=Y3 "*errors.errorString"):u=193:=
 typeName_ptr_named (nm:= "errors.errorString") (by rw[qH];kernel_rfl) ba ag u (by rw[qH];exact h)
theorem wi {W:World} {nm:String} {ti tp te ts:TypeId} {ms:Array (String×TypeId)} {f:Field} (hi:P.underlying ti=Y3 (.interface ms)) (hrow:∀u,P.typeName? 3 u=Y3 nm->u=tp)
  (hp:P.underlying tp=Y3 (Zd te)) (he:P.underlying te=Y3 (.struct #[f])) (hft:f.type=ts) (hfo:f.offset=0) (hs:P.underlying ts=Y3 I) (hc:P.cellsOf te=1) (hcs:P.cellsOf ts=1):
  ∀(l:List (String×List UInt8)) (ps:List MemPlace),(∀x∈l,∃g,P.globalNamed x.1=Y3 g/\(P.globals[g]?).map (·.type)=Y3 ti)->
   DataW.LaidVars P W (l.map λx=>(x.1,.iface nm (.ptr (Za [.lit (I x.2)])))) ps->ps.Nodup->
   (∀b off,MemPlace.cell b off∈ps->(∃c t,W.heap[b]?=Y3 (Y6 c t (0,0)))/\∀u v,W.cell? ⟨b,off,U⟩=Y3 (.iface u v)->Value.okWide P W .any 0 u v)->
   ∃E:Nat->Addr,(∀(i:Nat) x,l[i]?=Y3 x->W.var? P x.1=Y3 #[.iface tp (Zd (Y3 (E i)))]/\MemPlace.cell (E i).block (E i).off∈ps)/\∀i j,i<l.length->j<l.length->E i=E j->i=j
 | [],ps,_,_,_,_=>⟨λ_=>⟨0,0,U⟩,λi x h=>by simp at h,λi j h=>by simp at h⟩
 | x ::l,ps,hT,hv,hnd,hrows=>by
  obtain⟨g,t,cs,fuel,p,q,hg,ht,hvar,hd,hq,rfl⟩:=hv;obtain⟨g',hg',ht'⟩:=hT x aF;obtain rfl:=Yd (hg.symm.trans hg');obtain rfl:=Yd (ht.symm.trans ht');have hsub:∀{y},y∈q->y∈MemPlace.row ⟨g,0,U⟩ cs.size++p++q:=λh=>List.mem_append_right _ h;obtain⟨E,hE1,hE2⟩:=wi hi hrow hp he hft hfo hs hc hcs l q (λy hy=>hT y (by simp[hy])) hq (List.Nodup.sublist (List.sublist_append_right _ _) hnd) (λb off hm=>hrows b off (hsub hm));obtain⟨l0⟩:=cs;have ok0:∀u v,l0=[.iface u v]->Value.okWide P W .any 0 u v:=λu v e=>by
   subst e;exact (hrows g 0 (by simp[MemPlace.row])).2 u v (by simpa using World.var?_cell hg hvar 0)
  obtain⟨a0,s0,rfl,hc0,hs0,hz0,rfl⟩:=errorString_of_trod hi hrow hp he hft hfo hs hc hcs hd ok0;have ha:MemPlace.cell a0.block a0.off∈MemPlace.row a0 1:=by simp[MemPlace.row]
  have hdis:∀i,i<l.length->¬E i=a0:=λi hi' e=>by
   have h1:=(hE1 i _ (Yi hi')).2;rw[e] at h1;have h2:=(List.nodup_append.1 hnd).2.2 _ (List.mem_append_right _ ha) _ h1;exact h2 rfl
  refine⟨λi=>match i with|0=>a0|i+1=>E i,λi y hy=>?_,λi j hi' hj' e=>?_⟩
  ·cases i with
   | zero=>
    obtain rfl:x=y:=by simpa using hy
    exact⟨hvar,List.mem_append_left _ (List.mem_append_right _ ha)⟩
   | succ i=>
    obtain⟨h1,h2⟩:=hE1 i y (by simpa using hy);exact⟨h1,hsub h2⟩
  ·cases i with
   | zero=>cases j with
    | zero=>rfl
    | succ j=>exact absurd e.symm (hdis j (by simpa using hj'))
   | succ i=>cases j with
    | zero=>exact absurd e (hdis i (by simpa using hi'))
    | succ j=>rw[hE2 i j (by simpa using hi') (by simpa using hj') e]
theorem qK {H:Type} {enc:TypeId×Value->H} {sp:Nat->Bool} :∀(ns:List String) (gs:List (DataW H)) (ps:List MemPlace),DataW.TrodVars enc P w sp ns gs ps->gs.length=ns.length
 | [],[],_,_=>rfl
 | [],_ ::_,_,h=>h.elim
 | _ ::_,[],_,h=>h.elim
 | _ ::ns,_ ::gs,_,h=>by
  obtain⟨_,_,_,_,_,q,_,_,_,_,h1,_⟩:=h;simp[qK ns gs q h1]
theorem amD {α:Type} :∀{l:List α},l.length=10->∃a b c d e f g h i j,l=[a,b,c,d,e,f,g,h,i,j]
 | [a,b,c,d,e,f,g,h,i,j],_=>⟨a,b,c,d,e,f,g,h,i,j,rfl⟩
end Rc
end Go.Proofs.YtiplhgedmjoliaaGreatDoor
